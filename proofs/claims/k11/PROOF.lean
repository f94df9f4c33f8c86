import PyProof.Rows.All
import Wide.All
import OpenK.AllK
import Wide.FinOn
import HandS.ForMost
import HandS.Evl
import HandS.More
import HandS.Walk
import HandS.IsInst
import HandS.Wide
import HandS.NoneIn
import HandS.EndBits
import HandS.Codes
import HandS.SortInts
import HandS.TupMul
import HandS.TupAny
import HandS.Deep
import KE.KTupSum
import HandS.Zip
import KE.DatumOrd
import KE.GoesEnum
import PySem.Challenge.RW_unturned_k11_whole_streams_added
set_option Elab.async false
set_option linter.all false
set_option maxRecDepth 100000
set_option maxHeartbeats 8000000
/-! ## UnEnumT -/
namespace Un
open PySem PySem.Spec PyProof.Rows L2
/-- enumerate's new pair of cells over whatever begins an iterator -/
theorem meets_enumB {u : Value} {ob : Obj} {Hh : Heap → Prop} (B : Begins u ob Hh) :
    Meets (Builtin.«enumerate.__new__» ⟨[.type "enumerate", u], []⟩) (fun _ R st => Hh st.heap ∧
      R (.ok (.ret (.ref (st.heap.push ob).objs.size))) { st with heap := (st.heap.push ob).push { cls := .type "enumerate", data := .fields #[.none, .bool false, .ref st.heap.objs.size, rawInt 0, .none, .none] } }) :=
  .of_wp fun prog w A R st hh => by
    obtain ⟨hp, gn, dr, tk, os⟩ := st
    obtain ⟨hu, hh⟩ := hh
    have hsub := sub_enumerate
    have it1 : ∀ {A' : Around} {E : Value → Shared → Prop} {Q : Value → Shared → Prop}, Q (.ref hp.objs.size) ⟨hp.push ob, gn, dr, tk, os⟩ → wpAny (model prog w) A' (pyIter u) Q E ⟨hp, gn, dr, tk, os⟩ :=
      fun q => B.iter prog w _ _ ⟨hp, gn, dr, tk, os⟩ _ hu q
    wp_walk using it1
    refine wpAny_stack_any fun stk => wpAny_pure ?_
    split
    · rename_i cc _ _ _ _ _
      cases (cc == Value.type "enumerate") <;> (wp_walk using it1; exact ⟨_, rfl, hh⟩)
    · wp_walk using it1
      exact ⟨_, rfl, hh⟩
section
variable {prog : Program} {w : World} {A : Around} {E : Value → Shared → Prop} {s : Shared}
theorem call_enumT {l : Addr} {its : Array Value} {Q : Value → Shared → Prop} (hT : s.heap.IsTuple l its)
    (k : ∀ h', IsEnum h' (s.heap.objs.size + 1) s.heap.objs.size 0 .none → h'.IsTupleIter s.heap.objs.size l 0 →
      (∀ b o, s.heap.get? b = some o → h'.get? b = some o) → Q (.ref (s.heap.objs.size + 1)) { s with heap := h' }) :
    wpAny (model prog w) A (call (.type "enumerate") [.ref l]) Q E s := by
  refine callType_new F.called_enumerate (by decide) (F.typeCall_enumerate_1 _) (F.newCall_enumerate_1 _) (fun obj => F.args_object_init_2 obj _) F.entry_enumerate_new
    (meets_enumB (begins_tuple l its)) ⟨hT, ?_⟩
  have sz : (s.heap.push { cls := .type "tuple_iterator", data := .fields #[.ref l, .int 0 0] }).objs.size = s.heap.objs.size + 1 := Heap.size_push ..
  show _ ∧ _
  rw [sz]
  have en : IsEnum ((s.heap.push { cls := .type "tuple_iterator", data := .fields #[.ref l, .int 0 0] }).push
      { cls := .type "enumerate", data := .fields #[.none, .bool false, .ref s.heap.objs.size, rawInt 0, .none, .none] }) (s.heap.objs.size + 1) s.heap.objs.size 0 .none := by
    have g := Heap.get?_push_size (s.heap.push { cls := .type "tuple_iterator", data := .fields #[.ref l, .int 0 0] })
      (o := { cls := .type "enumerate", data := .fields #[.none, .bool false, .ref s.heap.objs.size, rawInt 0, .none, .none] }) rfl
    rw [sz] at g
    exact g
  exact ⟨⟨_, en, rfl⟩, k _ en ⟨_, Heap.get?_push_of_some _ (Heap.get?_push_size _ rfl), rfl, rfl⟩ fun b o x => Heap.get?_push_of_some _ (Heap.get?_push_of_some _ x)⟩
end
/-- the tuple at a, each item in a new pair with its place -/
def IteT (K : PySem.W.Frag) (a : Addr) : It :=
  ⟨fun i H => ∃ (xs : List V) (x : V), SqT K H a xs ∧ xs[i]? = some x,
   fun i H v H' => ∃ T x, v = .ref T ∧ H T = none ∧ H' = upd H T (.tup [.int (i : Nat), x]) ∧ ∀ xs, SqT K H a xs → xs[i]? = some x,
   fun i H => ∃ xs : List V, SqT K H a xs ∧ xs.length = i⟩
theorem turn_enumT {P : Program} {w : World} {K : PySem.W.Frag} {elts : List Expr} {kk : Nat} {tpos : Pos} (a e it : Addr) (hai : a ≠ it) (hae : a ≠ e) :
    Turn P w K (.Tuple elts kk tpos) (IteT K a) [e, it] e (fun i h => (∃ old, IsEnum h e it ((i : Nat) : Int) old) ∧ h.IsTupleIter it a i ∧ e ≠ it) where
  mem := by simp
  obj := fun i h st b hb => by
    obtain ⟨⟨old, he⟩, ⟨o, ho, hc, hd⟩, _⟩ := st
    have eb : b = e ∨ b = it := by simpa using hb
    rcases eb with z | z
    · subst z
      exact ⟨_, he, fun v q => nomatch q⟩
    · subst z
      exact ⟨o, ho, fun v q => by rw [hd] at q; cases q⟩
  keep := fun i h h' st k => let ⟨⟨old, he⟩, ⟨o, ho, r⟩, hne⟩ := st; ⟨⟨old, k e (by simp) _ he⟩, ⟨o, k it (by simp) o ho, r⟩, hne⟩
  item := by
    intro X hP hw hK hc i pins s σ H E I hf st hg
    subst hP hw hK
    obtain ⟨⟨old, he⟩, hit, hne⟩ := st
    obtain ⟨xs, x, hq, hx⟩ := hg
    obtain ⟨its, rv, p, hz⟩ := I.tuple hq
    obtain ⟨u, hu, ru⟩ := rv.get hx
    have hlt : i < its.toArray.size := by
      have z := (List.getElem?_eq_some_iff.mp hu).1
      simpa using z
    have hel : e < s.heap.objs.size := Heap.lt_size he
    have hil : it < s.heap.objs.size := by
      obtain ⟨_, q, _⟩ := hit
      exact Heap.lt_size q
    have D := Draws.tuple (prog := X.prog) (w := X.w) (A := X.A.in1) (I.ok.hd hc) it a hai its.toArray
    refine wpAny_pyNext_enum_itemC D he ⟨hit, p⟩ hlt hne (by
      intro z
      have z' : e = it ∨ e = a := by simpa using z
      rcases z' with z1 | z1
      · exact hne z1
      · exact hae z1.symm) fun y h' tk hy ho hst' hT hsz hk => ?_
    have eu : y = u := by
      have z : its.toArray[i]? = some y := hy
      have z2 : its[i]? = some y := by simpa using z
      exact Option.some.inj (z2.symm.trans hu)
    subst eu
    refine ⟨_, rfl, wpAny_letOwnedTupleGo_enum (s := { s with heap := h', toks := tk + 1 }) ho fun h'' he' sb => ?_⟩
    have hT2 : h''.get? s.heap.objs.size = some { cls := .type "tuple", data := .seq #[.int i tk, y] } := (sb.2 _ (Nat.ne_of_gt hel)).trans hT
    have new : ObjOk X.prog X.w (upd H s.heap.objs.size (.tup [.int (i : Nat), x])) h'' s.heap.objs.size (.tup [.int (i : Nat), x]) :=
      ⟨by show 2 ≤ sizeLine; decide, [.int i tk, y], .cons ⟨_, rfl⟩ (.cons ru .nil), ⟨_, hT2, rfl, _, rfl⟩⟩
    have I1 : Inv X pins σ (upd H s.heap.objs.size (.tup [.int (i : Nat), x])) { s with heap := h'', toks := tk + 1 } :=
      I.turnedNew (ch := [e, it]) (fun b ob hb q => (sb.2 b (fun z => hb (by simp [z]))).trans (hk b ob (fun z => hb (by simp [z])) (fun z => hb (by simp [z])) q)) hf (Nat.le_refl _) new
    refine ⟨.ref s.heap.objs.size, _, I1, rfl, ⟨_, x, rfl, I.hok.fresh (Nat.le_refl _), rfl, fun ys hy => by rw [I.tuple_inj hy hq]; exact hx⟩, ⟨⟨y, ?_⟩, ?_, hne⟩, fun b hb => ?_⟩
    · have e1 : ((i + 1 : Nat) : Int) = (i : Int) + 1 := by omega
      rw [e1]
      exact he'
    · obtain ⟨⟨o, q, r⟩, _⟩ := hst'
      exact ⟨o, (sb.2 it (Ne.symm hne)).trans q, r⟩
    · have hb' : b < s.heap.objs.size := by
        have eb : b = e ∨ b = it := by simpa using hb
        rcases eb with z | z
        · rw [z]; exact hel
        · rw [z]; exact hil
      rw [upd_ne (Nat.ne_of_lt hb')]
      exact (hf b hb).1
  done := by
    intro X hP hw hK hc i pins s σ H E I hf st hg
    subst hP hw hK
    obtain ⟨⟨old, he⟩, hit, hne⟩ := st
    obtain ⟨xs, hq, hx⟩ := hg
    obtain ⟨its, rv, p, hz⟩ := I.tuple hq
    have hl := rv.length
    have D := Draws.tuple (prog := X.prog) (w := X.w) (A := X.A.in1) (I.ok.hd hc) it a hai its.toArray
    have en : its.toArray.size = i := by
      simp
      omega
    obtain ⟨f0, f1, f2, f3, f4, f5⟩ := hf it (by simp)
    refine wpAny_pyNext_enum_endD D he (en.symm ▸ ⟨hit, p⟩) fun h' eb => ⟨rfl, I.turned (t' := s.toks) (fun b o hb q => eb b o hb q) f0 f1 f3 f4 f5⟩
  self := fun A i s Q E st h => let ⟨⟨_, he⟩, _⟩ := st; wpAny_pyIter_enum he h
def iEnumT (K : PySem.W.Frag) (ta : TA) : TI := fun σ H R => ta σ H fun vs H1 => ∃ a xs, vs = [.ref a] ∧ SqT K H1 a xs ∧ R (IteT K a) H1
theorem pi_enumT {X : Cx} {e : Expr} {ta : TA} {p pos tpos : Pos} {elts : List Expr} {kk : Nat} (hg : Gl X "enumerate") (hm : X.mg "enumerate" = none) (ha : PA X [e] ta)
    (hs : starEach [e] X.env = [(false, eval e X.env)] := by rfl) : PI X (.Tuple elts kk tpos) (.Call (.Name "enumerate" p) [e] [] pos) (iEnumT X.K ta) := by
  refine ⟨fun pins s σ H R I h => ?_⟩
  refine Call_ (ld_blt I hg hm boot_enumerate (PyProof.Rows.callWith_type1 (thn (ha.run pos pins s σ H _ I h) fun us s1 ⟨vs, H1, I1, r1, q1⟩ => ?_) hs rfl))
  obtain ⟨a, xs, ex, hq, q⟩ := q1
  subst ex
  cases r1 with
  | cons r rr =>
    cases rr
    cases r
    obtain ⟨its, rv, pt, hz⟩ := I1.tuple hq
    have hal : a < s1.heap.objs.size := by
      obtain ⟨o, ho, _⟩ := (show s1.heap.IsTuple a its.toArray from pt)
      exact Heap.lt_size ho
    refine call_enumT pt fun h' he hit hk => wpAny_pyIter_enum he ?_
    have I2 : Inv X pins σ H1 { s1 with heap := h' } := I1.kept (t' := s1.toks) hk
    refine ⟨s1.heap.objs.size + 1, [s1.heap.objs.size + 1, s1.heap.objs.size], _, _, H1, rfl, I2,
      turn_enumT a (s1.heap.objs.size + 1) s1.heap.objs.size (Nat.ne_of_lt hal) (Nat.ne_of_lt (Nat.lt_succ_of_lt hal)), ⟨⟨.none, he⟩, hit, Nat.succ_ne_self _⟩, fun b hb => ?_, q⟩
    have hle : s1.heap.objs.size ≤ b := by
      have e' : b = s1.heap.objs.size + 1 ∨ b = s1.heap.objs.size := by simpa using hb
      rcases e' with z | z
      · rw [z]; exact Nat.le_add_right _ _
      · rw [z]; exact Nat.le_refl _
    exact I1.fpOk hle (I1.hok.fresh hle)
end Un

/-! ## UnPd -/
namespace Un
open PySem PySem.Spec PyProof.Rows L2
open Evl (Ex)
abbrev PD := PyData
/-! ### what is hidden -/
def hid (S : List Addr) (H : Hp) : Hp := fun x => if x ∈ S then none else H x
theorem hid_in {S : List Addr} {H : Hp} {x : Addr} (h : x ∈ S) : hid S H x = none := by unfold hid; rw [if_pos h]
theorem hid_out {S : List Addr} {H : Hp} {x : Addr} (h : x ∉ S) : hid S H x = H x := by unfold hid; rw [if_neg h]
theorem hid_some {S : List Addr} {H : Hp} {x : Addr} {o : HO} (h : hid S H x = some o) : x ∉ S ∧ H x = some o := by
  by_cases c : x ∈ S
  · rw [hid_in c] at h; cases h
  · rw [hid_out c] at h; exact ⟨c, h⟩
theorem hid_ex {S : List Addr} {H H' : Hp} (e : Ex H H') : Ex (hid S H) (hid S H') := fun x o h => by
  obtain ⟨c, h⟩ := hid_some h
  rw [hid_out c]; exact e x o h
theorem hid_le {S : List Addr} {H : Hp} : Ex (hid S H) H := fun x o h => (hid_some h).2
theorem hid_cons {S : List Addr} {H H' : Hp} {p : Addr} (e : Ex H H') (hp : H p = none) : Ex (hid S H) (hid (p :: S) H') := fun x o h => by
  obtain ⟨c, h⟩ := hid_some h
  have n : x ∉ p :: S := fun z => by
    rcases List.mem_cons.mp z with z | z
    · subst z; rw [hp] at h; cases h
    · exact c z
  rw [hid_out n]; exact e x o h
theorem hid_uncons {S : List Addr} {H : Hp} {p : Addr} : Ex (hid (p :: S) H) (hid S H) := fun x o h => by
  obtain ⟨c, h⟩ := hid_some h
  rw [hid_out (fun z => c (List.mem_cons_of_mem _ z))]; exact h
def Al (S : List Addr) (H : Hp) : Prop := ∀ x ∈ S, H x ≠ none
theorem Al.ex {S : List Addr} {H H' : Hp} (a : Al S H) (e : Ex H H') : Al S H' := fun x hx z => by
  cases q : H x with
  | none => exact a x hx q
  | some o => rw [e x o q] at z; cases z
theorem Al.new {S : List Addr} {H : Hp} {p : Addr} (a : Al S H) (hp : H p = none) : p ∉ S := fun z => a p z hp
theorem Al.cons {S : List Addr} {H : Hp} {p : Addr} (a : Al S H) (hp : H p ≠ none) : Al (p :: S) H := fun x hx => by
  rcases List.mem_cons.mp hx with z | z
  · subst z; exact hp
  · exact a x z
theorem al_nil {H : Hp} : Al [] H := fun _ h => nomatch h

/-! ### data as they stand on the heap -/
mutual
inductive Rp (H : Hp) : V → PD → Prop
  | non : Rp H .non .none
  | bl (b : Bool) : Rp H (.bl b) (.bool b)
  | int (i : Int) : Rp H (.int i) (.int i)
  | str (x : Str) : Rp H (.str x) (.str x)
  | lst {a : Addr} {xs : List V} {ds : List PD} : H a = some (.lst xs) → RpAll H xs ds → Rp H (.ref a) (.list ds)
  | tup {a : Addr} {xs : List V} {ds : List PD} : H a = some (.tup xs) → RpAll H xs ds → Rp H (.ref a) (.tuple ds)
inductive RpAll (H : Hp) : List V → List PD → Prop
  | nil : RpAll H [] []
  | cons {v : V} {vs : List V} {d : PD} {ds : List PD} : Rp H v d → RpAll H vs ds → RpAll H (v :: vs) (d :: ds)
end
mutual
theorem Rp.ex {H H' : Hp} (e : Ex H H') : ∀ {v : V} {d : PD}, Rp H v d → Rp H' v d
  | _, _, .non => .non
  | _, _, .bl b => .bl b
  | _, _, .int i => .int i
  | _, _, .str x => .str x
  | _, _, .lst h r => .lst (e _ _ h) (RpAll.ex e r)
  | _, _, .tup h r => .tup (e _ _ h) (RpAll.ex e r)
theorem RpAll.ex {H H' : Hp} (e : Ex H H') : ∀ {vs : List V} {ds : List PD}, RpAll H vs ds → RpAll H' vs ds
  | _, _, .nil => .nil
  | _, _, .cons h r => .cons (Rp.ex e h) (RpAll.ex e r)
end
mutual
theorem Rp.dp {K : PySem.W.Frag} {H : Hp} : ∀ {v : V} {d : PD}, Rp H v d → Dp K H v d
  | _, _, .non => .non
  | _, _, .bl b => .bl b
  | _, _, .int i => .int i
  | _, _, .str x => .str x
  | _, _, .lst h r => .lst (.inl (.inl h)) (RpAll.dp r)
  | _, _, .tup h r => .tup (.inl (.inl h)) (RpAll.dp r)
theorem RpAll.dp {K : PySem.W.Frag} {H : Hp} : ∀ {vs : List V} {ds : List PD}, RpAll H vs ds → DpAll K H vs ds
  | _, _, .nil => .nil
  | _, _, .cons h r => .cons (Rp.dp h) (RpAll.dp r)
end
section
variable {H : Hp}
theorem RpAll.length : ∀ {vs : List V} {ds : List PD}, RpAll H vs ds → vs.length = ds.length
  | _, _, .nil => rfl
  | _, _, .cons _ r => by rw [List.length_cons, List.length_cons, RpAll.length r]
theorem RpAll.get : ∀ {vs : List V} {ds : List PD} {i : Nat} {d : PD}, RpAll H vs ds → ds[i]? = some d → ∃ v, vs[i]? = some v ∧ Rp H v d
  | _, _, _, _, .nil, e => by simp at e
  | _, _, 0, _, .cons h _, e => by
    simp at e
    subst e
    exact ⟨_, rfl, h⟩
  | _, _, i + 1, d, .cons _ r, e => by
    obtain ⟨v, h1, h2⟩ := RpAll.get (i := i) (d := d) r (by simpa using e)
    exact ⟨v, by simpa using h1, h2⟩
theorem RpAll.append : ∀ {vs ws : List V} {ds es : List PD}, RpAll H vs ds → RpAll H ws es → RpAll H (vs ++ ws) (ds ++ es)
  | _, _, _, _, .nil, s => s
  | _, _, _, _, .cons h r, s => .cons h (RpAll.append r s)
theorem RpAll.at {vs : List V} {ds : List PD} {i : Int} {d : PD} (r : RpAll H vs ds) (h : atI ds i = some d) : ∃ v, atI vs i = some v ∧ Rp H v d := by
  unfold atI at h ⊢
  rw [r.length]
  cases e : ixN ds.length i with
  | none => rw [e] at h; cases h
  | some j =>
    rw [e] at h
    exact r.get (i := j) h
theorem Rp.non_iff {v : V} {d : PD} (r : Rp H v d) : decide (v = .non) = (match d with | .none => true | _ => false) := by
  cases r <;> rfl
theorem RpAll.ints : ∀ {vs : List V} {ns : List Int}, RpAll H vs (ns.map PyData.int) → vs = ns.map V.int
  | _, [], .nil => rfl
  | _, n :: ns, .cons (.int _) r => by rw [RpAll.ints r]; rfl
theorem RpAll.bools : ∀ {vs : List V} {bs : List Bool}, RpAll H vs (bs.map PyData.bool) → vs = bs.map V.bl
  | _, [], .nil => rfl
  | _, n :: ns, .cons (.bl _) r => by rw [RpAll.bools r]; rfl
theorem RpAll.ofInts : ∀ (ns : List Int), RpAll H (ns.map V.int) (ns.map PyData.int)
  | [] => .nil
  | n :: ns => .cons (.int n) (RpAll.ofInts ns)
end

/-! ### slots -/
inductive Sl | un | dat (d : PD) | raw (v : V)
def SlOk (H : Hp) : Option V → Sl → Prop
  | _, .un => True
  | o, .dat d => ∃ v, o = some v ∧ Rp H v d
  | o, .raw v => o = some v
theorem SlOk.ex {H H' : Hp} (e : Ex H H') : ∀ {o : Option V} {r : Sl}, SlOk H o r → SlOk H' o r
  | _, .un, h => h
  | _, .dat d, ⟨v, h, r⟩ => ⟨v, h, r.ex e⟩
  | _, .raw v, h => h
theorem SlOk.val {H : Hp} {v : V} {d : PD} (h : SlOk H (some v) (.dat d)) : Rp H v d := by
  obtain ⟨w, e, r⟩ := h
  cases e
  exact r
theorem SlOk.of {H : Hp} {v : V} {d : PD} (h : Rp H v d) : SlOk H (some v) (.dat d) := ⟨v, rfl, h⟩
abbrev Rho := List Sl
def En (H : Hp) (σ : L2.St) (ρ : Rho) : Prop := σ.length = ρ.length ∧ ∀ (i : Nat) (r : Sl), ρ[i]? = some r → ∃ o, σ[i]? = some o ∧ SlOk H o r
theorem En.ex {H H' : Hp} {σ : L2.St} {ρ : Rho} (h : En H σ ρ) (e : Ex H H') : En H' σ ρ :=
  ⟨h.1, fun i r hi => let ⟨o, h1, h2⟩ := h.2 i r hi; ⟨o, h1, h2.ex e⟩⟩
theorem En.set {H : Hp} {σ : L2.St} {ρ : Rho} (h : En H σ ρ) (j : Nat) {o : Option V} {r : Sl} (hr : SlOk H o r) : En H (σ.set j o) (ρ.set j r) := by
  refine ⟨by rw [List.length_set, List.length_set]; exact h.1, fun i q hi => ?_⟩
  by_cases c : j = i
  · subst c
    have hl : j < ρ.length := by
      have := (List.getElem?_eq_some_iff.mp hi).1
      simpa using this
    rw [List.getElem?_set_self hl] at hi
    cases hi
    exact ⟨o, List.getElem?_set_self (by rw [h.1]; exact hl), hr⟩
  · rw [List.getElem?_set_ne c] at hi
    rw [List.getElem?_set_ne c]
    exact h.2 i q hi
theorem En.dat {H : Hp} {σ : L2.St} {ρ : Rho} {i : Nat} {d : PD} (h : En H σ ρ) (hi : ρ[i]? = some (.dat d)) : ∃ v, σ[i]? = some (some v) ∧ Rp H v d := by
  obtain ⟨o, h1, v, h2, r⟩ := h.2 i _ hi
  subst h2
  exact ⟨v, h1, r⟩
theorem En.raw {H : Hp} {σ : L2.St} {ρ : Rho} {i : Nat} {v : V} (h : En H σ ρ) (hi : ρ[i]? = some (.raw v)) : σ[i]? = some (some v) := by
  obtain ⟨o, h1, h2⟩ := h.2 i _ hi
  rw [h1]
  exact congrArg some h2
theorem en_nil {H : Hp} : En H [] [] := ⟨rfl, fun i r h => by simp at h⟩
theorem en_cons {H : Hp} {o : Option V} {r : Sl} {σ : L2.St} {ρ : Rho} (h : SlOk H o r) (t : En H σ ρ) : En H (o :: σ) (r :: ρ) := by
  refine ⟨by rw [List.length_cons, List.length_cons, t.1], fun i q hi => ?_⟩
  cases i with
  | zero =>
    have e : r = q := by simpa using hi
    subst e
    exact ⟨o, rfl, h⟩
  | succ i => exact t.2 i q (by simpa using hi)
theorem en_none {H : Hp} : ∀ n : Nat, En H (List.replicate n none) (List.replicate n Sl.un)
  | 0 => en_nil
  | n + 1 => by
    rw [List.replicate_succ, List.replicate_succ]
    exact en_cons trivial (en_none n)
theorem en_args {H : Hp} {n : Nat} : ∀ {vs : List V} {rs : List Sl}, Paired (fun v r => SlOk H (some v) r) vs rs → En H (vs.map some ++ List.replicate n none) (rs ++ List.replicate n Sl.un)
  | _, _, .nil => en_none n
  | _, _, .cons h t => en_cons h (en_args t)
abbrev SlsOk (H : Hp) : List V → List Sl → Prop := Paired (fun v r => SlOk H (some v) r)
theorem SlsOk.ex {H H' : Hp} (e : Ex H H') : ∀ {vs : List V} {rs : List Sl}, SlsOk H vs rs → SlsOk H' vs rs
  | _, _, .nil => .nil
  | _, _, .cons h t => .cons (h.ex e) (SlsOk.ex e t)
theorem SlsOk.all {H : Hp} : ∀ {vs : List V} {ds : List PD}, SlsOk H vs (ds.map Sl.dat) → RpAll H vs ds
  | _, [], .nil => .nil
  | _, d :: ds, .cons h t => .cons h.val (SlsOk.all t)
theorem SlsOk.ofAll {H : Hp} : ∀ {vs : List V} {ds : List PD}, RpAll H vs ds → SlsOk H vs (ds.map Sl.dat)
  | _, [], .nil => .nil
  | _, d :: ds, .cons h t => .cons (.of h) (SlsOk.ofAll t)

/-! ### what evaluates to what, whatever is hidden -/
def Ed (te : TE) (ρ : Rho) (r : Sl) : Prop := ∀ S σ H, Al S H → En (hid S H) σ ρ → ∀ Q : VK, (∀ v H2, Ex H H2 → SlOk (hid S H2) (some v) r → Q v H2) → te σ H Q
def Et (tt : TT) (ρ : Rho) (b : Bool) : Prop := ∀ S σ H, Al S H → En (hid S H) σ ρ → ∀ Q : Bool → Hp → Prop, (∀ H2, Ex H H2 → Q b H2) → tt σ H Q
def Ea (ta : TA) (ρ : Rho) (rs : List Sl) : Prop := ∀ S σ H, Al S H → En (hid S H) σ ρ → ∀ Q : List V → Hp → Prop, (∀ vs H2, Ex H H2 → SlsOk (hid S H2) vs rs → Q vs H2) → ta σ H Q
def Ro (r : R2) (x y z : Sl) : Prop := ∀ S H vx vy, Al S H → SlOk (hid S H) (some vx) x → SlOk (hid S H) (some vy) y → ∀ Q : VK, (∀ v H2, Ex H H2 → SlOk (hid S H2) (some v) z → Q v H2) → r vx vy H Q
def Rc (r : List V → Hp → VK → Prop) (xs : List Sl) (z : Sl) : Prop := ∀ S H vs, Al S H → SlsOk (hid S H) vs xs → ∀ Q : VK, (∀ v H2, Ex H H2 → SlOk (hid S H2) (some v) z → Q v H2) → r vs H Q
section
variable {K : PySem.W.Frag} {ρ : Rho} {ta tb te : TE} {t u : TT} {x y z : Sl} {r : R2} {d e : PD}
theorem d_var {i : Nat} (h : ρ[i]? = some (.dat d)) : Ed (tVar i) ρ (.dat d) := fun S σ H _ en Q q => by
  obtain ⟨v, h1, h2⟩ := en.dat h
  exact ⟨v, h1, q v H (Ex.refl H) (.of h2)⟩
theorem d_raw {i : Nat} {v : V} (h : ρ[i]? = some (.raw v)) : Ed (tVar i) ρ (.raw v) := fun S σ H _ en Q q => ⟨v, en.raw h, q v H (Ex.refl H) rfl⟩
theorem d_int {i : Int} : Ed (tC (.int i)) ρ (.dat (.int i)) := fun S σ H _ _ Q q => q _ H (Ex.refl H) (.of (.int i))
theorem d_bl {b : Bool} : Ed (tC (.bl b)) ρ (.dat (.bool b)) := fun S σ H _ _ Q q => q _ H (Ex.refl H) (.of (.bl b))
theorem d_non : Ed (tC .non) ρ (.dat .none) := fun S σ H _ _ Q q => q _ H (Ex.refl H) (.of .non)
theorem d_str {s : Str} : Ed (tC (.str s)) ρ (.dat (.str s)) := fun S σ H _ _ Q q => q _ H (Ex.refl H) (.of (.str s))
theorem d_c {v : V} : Ed (tC v) ρ (.raw v) := fun S σ H _ _ Q q => q _ H (Ex.refl H) rfl
theorem d_op (ha : Ed ta ρ x) (hb : Ed tb ρ y) (hr : Ro r x y z) : Ed (tOp r ta tb) ρ z := fun S σ H al en Q q =>
  ha S σ H al en _ fun vx H1 e1 rx => hb S σ H1 (al.ex e1) (en.ex (hid_ex e1)) _ fun vy H2 e2 ry =>
    hr S H2 vx vy ((al.ex e1).ex e2) (rx.ex (hid_ex e2)) ry Q fun v H3 e3 rv => q v H3 ((e1.trans e2).trans e3) rv
theorem d_cb {f : List V → Hp → VK → Prop} {ts : TA} {xs : List Sl} (ha : Ea ts ρ xs) (hr : Rc f xs z) : Ed (tCB f ts) ρ z := fun S σ H al en Q q =>
  ha S σ H al en _ fun vs H1 e1 rv => hr S H1 vs (al.ex e1) rv Q fun v H2 e2 r2 => q v H2 (e1.trans e2) r2
theorem a_nil : Ea tNil ρ [] := fun S σ H _ _ Q q => q [] H (Ex.refl H) .nil
theorem a_cons {ts : TA} {xs : List Sl} (ha : Ed ta ρ x) (hs : Ea ts ρ xs) : Ea (tCons ta ts) ρ (x :: xs) := fun S σ H al en Q q =>
  ha S σ H al en _ fun v H1 e1 rv => hs S σ H1 (al.ex e1) (en.ex (hid_ex e1)) _ fun vs H2 e2 rs => q (v :: vs) H2 (e1.trans e2) (.cons (rv.ex (hid_ex e2)) rs)
theorem new_ok {S : List Addr} {H : Hp} {p : Addr} {o : HO} (al : Al S H) (hp : H p = none) : hid S (upd H p o) p = some o := by
  rw [hid_out (al.new hp), upd_same]
theorem d_tup {ts : TA} {ds : List PD} (ha : Ea ts ρ (ds.map Sl.dat)) (hl : ds.length ≤ 100000) : Ed (tTup ts) ρ (.dat (.tuple ds)) := fun S σ H al en Q q =>
  ha S σ H al en _ fun vs H1 e1 rv => by
    have ra := rv.all
    refine ⟨by rw [ra.length]; exact Evl.sz_of hl, fun p hp => q _ _ (e1.trans (Ex.new hp)) (.of (.tup (new_ok (al.ex e1) hp) (ra.ex (hid_ex (Ex.new hp)))))⟩
theorem d_lst {ts : TA} {ds : List PD} (ha : Ea ts ρ (ds.map Sl.dat)) (hl : ds.length ≤ 100000) : Ed (tLst ts) ρ (.dat (.list ds)) := fun S σ H al en Q q =>
  ha S σ H al en _ fun vs H1 e1 rv => by
    have ra := rv.all
    refine ⟨by rw [ra.length]; exact Evl.sz_of hl, fun p hp => q _ _ (e1.trans (Ex.new hp)) (.of (.lst (new_ok (al.ex e1) hp) (ra.ex (hid_ex (Ex.new hp)))))⟩
theorem d_is (h : Ed te ρ x) (e : x = y) : Ed te ρ y := e ▸ h
theorem t_is {a b : Bool} (h : Et t ρ a) (e : a = b) : Et t ρ b := e ▸ h
theorem t_B {b : Bool} (h : Ed te ρ (.dat (.bool b))) : Et (tB te) ρ b := fun S σ H al en Q q => h S σ H al en _ fun v H1 e1 rv => by
  cases rv.val
  exact ⟨b, rfl, q H1 e1⟩
theorem t_test {b : Bool} (h : Ed te ρ (.dat (.bool b))) : Et (tTest te) ρ b := fun S σ H al en Q q => h S σ H al en _ fun v H1 e1 rv => by
  cases rv.val
  exact ⟨b, rfl, q H1 e1⟩
theorem t_not {b : Bool} (h : Et t ρ b) : Et (tNot t) ρ (!b) := fun S σ H al en Q q => h S σ H al en _ fun H1 e1 => q H1 e1
theorem t_and {a b : Bool} (h : Et t ρ a) (h2 : a = true → Et u ρ b) : Et (tAnd t u) ρ (a && b) := fun S σ H al en Q q => h S σ H al en _ fun H1 e1 => by
  cases a with
  | true => exact h2 rfl S σ H1 (al.ex e1) (en.ex (hid_ex e1)) Q fun H2 e2 => q H2 (e1.trans e2)
  | false => exact q H1 e1
theorem t_or {a b : Bool} (h : Et t ρ a) (h2 : a = false → Et u ρ b) : Et (tOr t u) ρ (a || b) := fun S σ H al en Q q => h S σ H al en _ fun H1 e1 => by
  cases a with
  | true => exact q H1 e1
  | false => exact h2 rfl S σ H1 (al.ex e1) (en.ex (hid_ex e1)) Q fun H2 e2 => q H2 (e1.trans e2)
theorem d_and {a b : Bool} (h : Ed ta ρ (.dat (.bool a))) (h2 : a = true → Ed tb ρ (.dat (.bool b))) : Ed (tAndV ta tb) ρ (.dat (.bool (a && b))) := fun S σ H al en Q q => h S σ H al en _ fun v H1 e1 rv => by
  cases rv.val
  refine ⟨a, rfl, ?_⟩
  cases a with
  | true => exact h2 rfl S σ H1 (al.ex e1) (en.ex (hid_ex e1)) Q fun v H2 e2 r2 => q v H2 (e1.trans e2) r2
  | false => exact q _ H1 e1 (.of (.bl false))
theorem d_or {a b : Bool} (h : Ed ta ρ (.dat (.bool a))) (h2 : a = false → Ed tb ρ (.dat (.bool b))) : Ed (tOrV ta tb) ρ (.dat (.bool (a || b))) := fun S σ H al en Q q => h S σ H al en _ fun v H1 e1 rv => by
  cases rv.val
  refine ⟨a, rfl, ?_⟩
  cases a with
  | true => exact q _ H1 e1 (.of (.bl true))
  | false => exact h2 rfl S σ H1 (al.ex e1) (en.ex (hid_ex e1)) Q fun v H2 e2 r2 => q v H2 (e1.trans e2) r2
theorem d_not {a : Bool} (h : Ed ta ρ (.dat (.bool a))) : Ed (tNotV ta) ρ (.dat (.bool (!a))) := fun S σ H al en Q q => h S σ H al en _ fun v H1 e1 rv => by
  cases rv.val
  exact ⟨a, rfl, q _ H1 e1 (.of (.bl (!a)))⟩
theorem d_if {b : Bool} (h : Et t ρ b) (h1 : b = true → Ed ta ρ x) (h2 : b = false → Ed tb ρ x) : Ed (tIf t ta tb) ρ x := fun S σ H al en Q q => h S σ H al en _ fun H1 e1 => by
  cases b with
  | true => exact h1 rfl S σ H1 (al.ex e1) (en.ex (hid_ex e1)) Q fun v H2 e2 r2 => q v H2 (e1.trans e2) r2
  | false => exact h2 rfl S σ H1 (al.ex e1) (en.ex (hid_ex e1)) Q fun v H2 e2 r2 => q v H2 (e1.trans e2) r2

/-! ### operations on values -/
theorem ro_Ii {f : Int → Int → Int} {i j : Int} : Ro (rI0 fun i j => .int (f i j)) (.dat (.int i)) (.dat (.int j)) (.dat (.int (f i j))) := fun S H vx vy al rx ry Q q => by
  cases rx.val; cases ry.val
  exact ⟨i, j, rfl, rfl, q _ H (Ex.refl H) (.of (.int _))⟩
theorem ro_Ib {f : Int → Int → Bool} {i j : Int} : Ro (rI0 fun i j => .bl (f i j)) (.dat (.int i)) (.dat (.int j)) (.dat (.bool (f i j))) := fun S H vx vy al rx ry Q q => by
  cases rx.val; cases ry.val
  exact ⟨i, j, rfl, rfl, q _ H (Ex.refl H) (.of (.bl _))⟩
theorem ro_IC {C : Int → Int → Prop} {f : Int → Int → Int} {i j : Int} (hc : C i j) : Ro (rI C fun i j => .int (f i j)) (.dat (.int i)) (.dat (.int j)) (.dat (.int (f i j))) := fun S H vx vy al rx ry Q q => by
  cases rx.val; cases ry.val
  exact ⟨i, j, rfl, rfl, hc, q _ H (Ex.refl H) (.of (.int _))⟩
def isNone : PD → Bool
  | .none => true
  | _ => false
theorem ro_isN : Ro (fun x y H Q => y = .non ∧ Q (.bl (decide (x = .non))) H) (.dat d) (.dat .none) (.dat (.bool (isNone d))) := fun S H vx vy al rx ry Q q => by
  cases ry.val
  refine ⟨rfl, q _ H (Ex.refl H) (.of ?_)⟩
  cases rx.val <;> exact .bl _
theorem ro_notN : Ro (fun x y H Q => y = .non ∧ Q (.bl (!decide (x = .non))) H) (.dat d) (.dat .none) (.dat (.bool (!isNone d))) := fun S H vx vy al rx ry Q q => by
  cases ry.val
  refine ⟨rfl, q _ H (Ex.refl H) (.of ?_)⟩
  cases rx.val <;> exact .bl _
theorem ro_ixT {ds : List PD} {i : Int} (h : atI ds i = some d) : Ro (rIxT K) (.dat (.tuple ds)) (.dat (.int i)) (.dat d) := fun S H vx vy al rx ry Q q => by
  cases ry.val
  cases rx.val with
  | tup ha ra =>
    obtain ⟨v, h1, h2⟩ := ra.at h
    exact ⟨_, _, i, v, rfl, rfl, .inl (.inl (hid_le _ _ ha)), h1, q v H (Ex.refl H) (.of h2)⟩
theorem ro_ixL {ds : List PD} {i : Int} (h : atI ds i = some d) : Ro (rIxL K) (.dat (.list ds)) (.dat (.int i)) (.dat d) := fun S H vx vy al rx ry Q q => by
  cases ry.val
  cases rx.val with
  | lst ha ra =>
    obtain ⟨v, h1, h2⟩ := ra.at h
    exact ⟨_, _, i, v, rfl, rfl, .inl (.inl (hid_le _ _ ha)), h1, q v H (Ex.refl H) (.of h2)⟩
theorem ro_eqD (h1 : SeqAt.shaped d = true) (h2 : SeqAt.shaped e = true) : Ro (rEqD K) (.dat d) (.dat e) (.dat (.bool (PyData.eqv d e))) := fun S H vx vy al rx ry Q q =>
  ⟨d, e, (rx.val.ex hid_le).dp, (ry.val.ex hid_le).dp, h1, h2, q _ H (Ex.refl H) (.of (.bl _))⟩
theorem ro_neD (h1 : SeqAt.shaped d = true) (h2 : SeqAt.shaped e = true) : Ro (rNeD K) (.dat d) (.dat e) (.dat (.bool (!PyData.eqv d e))) := fun S H vx vy al rx ry Q q =>
  ⟨d, e, (rx.val.ex hid_le).dp, (ry.val.ex hid_le).dp, h1, h2, q _ H (Ex.refl H) (.of (.bl _))⟩
theorem ro_eqI {i j : Int} : Ro rEq (.dat (.int i)) (.dat (.int j)) (.dat (.bool (decide (i = j)))) := fun S H vx vy al rx ry Q q => by
  cases rx.val; cases ry.val
  refine ⟨rfl, q _ H (Ex.refl H) (.of ?_)⟩
  have e : decide (V.int i = V.int j) = decide (i = j) := by rw [Bool.eq_iff_iff]; simp
  rw [e]
  exact .bl _

/-! ### built-ins -/
def rLenQ (K : PySem.W.Frag) : List V → Hp → VK → Prop := fun xs H Q => ∃ p ys, xs = [.ref p] ∧ (SqL K H p ys ∨ SqT K H p ys) ∧ Q (.int ys.length) H
theorem rc_lenT {ds : List PD} : Rc (rLenQ K) [.dat (.tuple ds)] (.dat (.int (ds.length : Int))) := fun S H vs al rv Q q => by
  cases rv with
  | cons h t =>
    cases t
    cases h.val with
    | tup ha ra => exact ⟨_, _, rfl, .inr (.inl (.inl (hid_le _ _ ha))), q _ H (Ex.refl H) (.of (ra.length ▸ .int _))⟩
theorem rc_lenL {ds : List PD} : Rc (rLenQ K) [.dat (.list ds)] (.dat (.int (ds.length : Int))) := fun S H vs al rv Q q => by
  cases rv with
  | cons h t =>
    cases t
    cases h.val with
    | lst ha ra => exact ⟨_, _, rfl, .inl (.inl (.inl (hid_le _ _ ha))), q _ H (Ex.refl H) (.of (ra.length ▸ .int _))⟩
def rTupQ (K : PySem.W.Frag) : List V → Hp → VK → Prop := fun xs H Q => ∃ p ys, xs = [.ref p] ∧ ((SqL K H p ys ∧ ∀ l, H l = none → Q (.ref l) (upd H l (.tup ys))) ∨ (SqT K H p ys ∧ Q (.ref p) H))
theorem rc_tupL {ds : List PD} : Rc (rTupQ K) [.dat (.list ds)] (.dat (.tuple ds)) := fun S H vs al rv Q q => by
  cases rv with
  | cons h t =>
    cases t
    cases h.val with
    | lst ha ra => exact ⟨_, _, rfl, .inl ⟨.inl (.inl (hid_le _ _ ha)), fun l hl => q _ _ (Ex.new hl) (.of (.tup (new_ok al hl) (ra.ex (hid_ex (Ex.new hl)))))⟩⟩
theorem rc_tupT {ds : List PD} : Rc (rTupQ K) [.dat (.tuple ds)] (.dat (.tuple ds)) := fun S H vs al rv Q q => by
  cases rv with
  | cons h t =>
    cases t
    have g := h.val
    cases h.val with
    | tup ha ra => exact ⟨_, _, rfl, .inr ⟨.inl (.inl (hid_le _ _ ha)), q _ H (Ex.refl H) (.of g)⟩⟩
theorem rc_sum {ns : List Int} : Rc (rSum K) [.dat (.list (ns.map PyData.int))] (.dat (.int ns.sum)) := fun S H vs al rv Q q => by
  cases rv with
  | cons h t =>
    cases t
    cases h.val with
    | lst ha ra =>
      have e := ra.ints
      subst e
      exact ⟨_, ns, rfl, .inl (.inl (hid_le _ _ ha)), q _ H (Ex.refl H) (.of (.int _))⟩
theorem rc_all {bs : List Bool} : Rc (rAll K) [.dat (.list (bs.map PyData.bool))] (.dat (.bool (bs.all id))) := fun S H vs al rv Q q => by
  cases rv with
  | cons h t =>
    cases t
    cases h.val with
    | lst ha ra =>
      have e := ra.bools
      subst e
      exact ⟨_, bs, rfl, .inl (.inl (hid_le _ _ ha)), q _ H (Ex.refl H) (.of (.bl _))⟩
end

/-! ### a pure def's promise -/
def spP (Pre : List PD → Prop) (g : List PD → PD) : Sp := fun vs H Q _ => ∃ S ds, Al S H ∧ RpAll (hid S H) vs ds ∧ Pre ds ∧ ∀ v H2, Ex H H2 → Rp (hid S H2) v (g ds) → Q v H2
theorem d_call {Pre : List PD → Prop} {g : List PD → PD} {E : XK} {ts : TA} {ds : List PD} {ρ : Rho} (ha : Ea ts ρ (ds.map Sl.dat)) (hp : Pre ds) : Ed (tCall (spP Pre g) [] E ts) ρ (.dat (g ds)) := fun S σ H al en Q q =>
  ha S σ H al en _ fun vs H1 e1 rv => by
    rw [List.append_nil]
    exact ⟨S, ds, al.ex e1, rv.all, hp, fun v H2 e2 r2 => q v H2 (e1.trans e2) (.of r2)⟩

/-! ### statements -/
inductive Ou | ret (d : PD) | nxt (ρ : Rho) | brk (ρ : Rho) | cnt (ρ : Rho)
def OuOk (S : List Addr) (H : Hp) (D : Ends) : Ou → Prop
  | .ret d => ∀ v H2, Ex H H2 → Rp (hid S H2) v d → D.rt v H2
  | .nxt ρ => ∀ σ H2, Ex H H2 → En (hid S H2) σ ρ → D.nx σ H2
  | .brk ρ => ∀ σ H2, Ex H H2 → En (hid S H2) σ ρ → D.bk σ H2
  | .cnt ρ => ∀ σ H2, Ex H H2 → En (hid S H2) σ ρ → D.ct σ H2
theorem OuOk.ex {S : List Addr} {H H' : Hp} {D : Ends} (e : Ex H H') : ∀ {o : Ou}, OuOk S H D o → OuOk S H' D o
  | .ret _, h => fun v H2 e2 r => h v H2 (e.trans e2) r
  | .nxt _, h => fun v H2 e2 r => h v H2 (e.trans e2) r
  | .brk _, h => fun v H2 e2 r => h v H2 (e.trans e2) r
  | .cnt _, h => fun v H2 e2 r => h v H2 (e.trans e2) r
def Sd (t : TS) (ρ : Rho) (o : Ou) : Prop := ∀ S σ H D, Al S H → En (hid S H) σ ρ → OuOk S H D o → t D σ H
section
variable {K : PySem.W.Frag} {ρ ρ' : Rho} {te : TE} {c : TT} {t u : TS} {d : PD} {o : Ou}
theorem sd_ret (h : Ed te ρ (.dat d)) : Sd (tRet te) ρ (.ret d) := fun S σ H D al en q => h S σ H al en _ fun v H2 e2 r => q v H2 e2 r.val
theorem sd_retN : Sd tRetN ρ (.ret .none) := fun S σ H D al en q => q .non H (Ex.refl H) .non
theorem sd_next : Sd tNext ρ (.nxt ρ) := fun S σ H D al en q => q σ H (Ex.refl H) en
theorem sd_cont : Sd tCont ρ (.cnt ρ) := fun S σ H D al en q => q σ H (Ex.refl H) en
theorem sd_break : Sd tBreak ρ (.brk ρ) := fun S σ H D al en q => q σ H (Ex.refl H) en
theorem sd_seq (h : Sd t ρ (.nxt ρ')) (h2 : Sd u ρ' o) : Sd (tSeq t u) ρ o := fun S σ H D al en q =>
  h S σ H { D with nx := u D } al en fun σ2 H2 e2 en2 => h2 S σ2 H2 D (al.ex e2) en2 (q.ex e2)
theorem sd_seqR (h : Sd t ρ (.ret d)) : Sd (tSeq t u) ρ (.ret d) := fun S σ H D al en q => h S σ H { D with nx := u D } al en q
theorem sd_seqC (h : Sd t ρ (.cnt ρ')) : Sd (tSeq t u) ρ (.cnt ρ') := fun S σ H D al en q => h S σ H { D with nx := u D } al en q
theorem sd_seqB (h : Sd t ρ (.brk ρ')) : Sd (tSeq t u) ρ (.brk ρ') := fun S σ H D al en q => h S σ H { D with nx := u D } al en q
theorem sd_if {b : Bool} (h : Et c ρ b) (h1 : b = true → Sd t ρ o) (h2 : b = false → Sd u ρ o) : Sd (tIfS c t u) ρ o := fun S σ H D al en q => h S σ H al en _ fun H1 e1 => by
  cases b with
  | true => exact h1 rfl S σ H1 D (al.ex e1) (en.ex (hid_ex e1)) (q.ex e1)
  | false => exact h2 rfl S σ H1 D (al.ex e1) (en.ex (hid_ex e1)) (q.ex e1)
theorem sd_asg {i : Nat} {r : Sl} (h : Ed te ρ r) : Sd (tAsg te (gName i)) ρ (.nxt (ρ.set i r)) := fun S σ H D al en q =>
  h S σ H al en _ fun v H1 e1 rv => q _ H1 e1 ((en.ex (hid_ex e1)).set i rv)
theorem sd_drop {r : Sl} (h : Ed te ρ r) : Sd (tDrop te) ρ (.nxt ρ) := fun S σ H D al en q => h S σ H al en _ fun v H1 e1 rv => q _ H1 e1 (en.ex (hid_ex e1))
theorem sd_is {o2 : Ou} (h : Sd t ρ o) (e : o = o2) : Sd t ρ o2 := e ▸ h
/-! targets -/
def Off (vs : List Nat) (σ σ' : L2.St) : Prop := σ'.length = σ.length ∧ ∀ (i : Nat), i ∉ vs → σ'[i]? = σ[i]?
def Gd (g : TG) (x : PD) (ρ ρ' : Rho) (vs : List Nat) : Prop := ∀ S σ H v, Al S H → En (hid S H) σ ρ → Rp (hid S H) v x → ∀ Q : L2.St → Hp → Prop, (∀ σ', En (hid S H) σ' ρ' → Off vs σ σ' → Q σ' H) → g v σ H Q
def Gds (g : TGs) (xs : List PD) (ρ ρ' : Rho) (vs : List Nat) : Prop := ∀ S σ H ws, Al S H → En (hid S H) σ ρ → RpAll (hid S H) ws xs → ∀ Q : L2.St → Hp → Prop, (∀ σ', En (hid S H) σ' ρ' → Off vs σ σ' → Q σ' H) → g ws σ H Q
theorem g_name {i : Nat} {x : PD} : Gd (gName i) x ρ (ρ.set i (.dat x)) [i] := fun S σ H v al en r Q q => q _ (en.set i (.of r)) ⟨List.length_set, fun j hj => List.getElem?_set_ne fun z => hj (by rw [z]; exact List.mem_cons_self ..)⟩
theorem g_nil : Gds gNil [] ρ ρ [] := fun S σ H vs al en r Q q => by
  cases r
  exact ⟨rfl, q σ en ⟨rfl, fun _ _ => rfl⟩⟩
theorem g_cons {g : TG} {gs : TGs} {x : PD} {xs : List PD} {ρ1 : Rho} {vs ws : List Nat} (h : Gd g x ρ ρ1 vs) (hs : Gds gs xs ρ1 ρ' ws) : Gds (gCons g gs) (x :: xs) ρ ρ' (vs ++ ws) := fun S σ H zs al en r Q q => by
  cases r with
  | cons a b => exact ⟨_, _, rfl, h S σ H _ al en a _ fun σ1 en1 f1 => hs S σ1 H _ al en1 b Q fun σ2 en2 f2 => q σ2 en2 ⟨f2.1.trans f1.1, fun i hi =>
      (f2.2 i fun z => hi (List.mem_append_right _ z)).trans (f1.2 i fun z => hi (List.mem_append_left _ z))⟩⟩
theorem g_tup {n : Nat} {gs : TGs} {xs : List PD} {vs : List Nat} (h : Gds gs xs ρ ρ' vs) (hn : xs.length = n) : Gd (gTup K n gs) (.tuple xs) ρ ρ' vs := fun S σ H v al en r Q q => by
  cases r with
  | tup ha ra => exact ⟨_, _, rfl, .inl (.inl (hid_le _ _ ha)), by rw [ra.length]; exact hn, h S σ H _ al en ra Q q⟩
theorem g_unl {n : Nat} {gs : TGs} {xs : List PD} {vs : List Nat} (h : Gds gs xs ρ ρ' vs) (hn : xs.length = n) : Gd (gUnl K n gs) (.list xs) ρ ρ' vs := fun S σ H v al en r Q q => by
  cases r with
  | lst ha ra => exact ⟨_, _, rfl, .inl (.inl (hid_le _ _ ha)), by rw [ra.length]; exact hn, h S σ H _ al en ra Q q⟩
theorem sd_asgG {g : TG} {vs : List Nat} (h : Ed te ρ (.dat d)) (hg : Gd g d ρ ρ' vs) : Sd (tAsg te g) ρ (.nxt ρ') := fun S σ H D al en q =>
  h S σ H al en _ fun v H1 e1 rv => hg S σ H1 v (al.ex e1) (en.ex (hid_ex e1)) rv.val _ fun σ' en' _ => q σ' H1 e1 en'
/-! what is walked -/
def Wk (S : List Addr) (J : It) (xs : List PD) (H : Hp) : Prop := ∀ S' H2, Ex (hid S H) (hid S' H2) → Al S' H2 → J.stop xs.length H2 ∧ ∀ i x, xs[i]? = some x → J.go i H2 ∧ ∀ v H3, J.yld i H2 v H3 → Ex H2 H3 ∧ Rp (hid S' H3) v x
def Es (wi : TI) (ρ : Rho) (xs : List PD) : Prop := ∀ S σ H, Al S H → En (hid S H) σ ρ → ∀ R : It → Hp → Prop, (∀ J H1, Ex H H1 → Wk S J xs H1 → R J H1) → wi σ H R
theorem es_tup {tl : TE} {xs : List PD} (h : Ed tl ρ (.dat (.tuple xs))) : Es (iTup K tl) ρ xs := fun S σ H al en R q => h S σ H al en _ fun v H1 e1 rv => by
  cases rv.val with
  | tup ha ra =>
    refine ⟨_, rfl, ⟨_, .inl (.inl (hid_le _ _ ha))⟩, q _ H1 e1 fun S' H2 e2 al2 => ?_⟩
    have ha2 := e2 _ _ ha
    have ra2 := ra.ex e2
    have sq : SqT K H2 _ _ := .inl (.inl (hid_le _ _ ha2))
    refine ⟨⟨_, sq, Nat.le_of_eq ra2.length⟩, fun i x hx => ?_⟩
    obtain ⟨v, hv, rv⟩ := ra2.get hx
    exact ⟨⟨_, v, sq, hv⟩, fun w H3 y => ⟨by rw [y.1]; exact Ex.refl _, by
      have e := y.2 _ sq
      rw [hv] at e
      cases e
      rw [y.1]
      exact rv⟩⟩
theorem es_list {tl : TE} {xs : List PD} (h : Ed tl ρ (.dat (.list xs))) : Es (iList K tl) ρ xs := fun S σ H al en R q => h S σ H al en _ fun v H1 e1 rv => by
  cases rv.val with
  | lst ha ra =>
    refine ⟨_, rfl, ⟨_, .inl (.inl (hid_le _ _ ha))⟩, q _ H1 e1 fun S' H2 e2 al2 => ?_⟩
    have ha2 := e2 _ _ ha
    have ra2 := ra.ex e2
    have sq : SqL K H2 _ _ := .inl (.inl (hid_le _ _ ha2))
    refine ⟨⟨_, sq, Nat.le_of_eq ra2.length⟩, fun i x hx => ?_⟩
    obtain ⟨v, hv, rv⟩ := ra2.get hx
    exact ⟨⟨_, v, sq, hv⟩, fun w H3 y => ⟨by rw [y.1]; exact Ex.refl _, by
      have e := y.2 _ sq
      rw [hv] at e
      cases e
      rw [y.1]
      exact rv⟩⟩
def pairsOf (xs : List PD) : List PD := xs.zipIdx.map fun p => .tuple [.int (p.2 : Nat), p.1]
theorem es_enumT {ta : TA} {xs : List PD} (h : Ea ta ρ [.dat (.tuple xs)]) : Es (iEnumT K ta) ρ (pairsOf xs) := fun S σ H al en R q => h S σ H al en _ fun vs H1 e1 rs => by
  cases rs with
  | cons rv t =>
    cases t
    cases rv.val with
    | tup ha ra =>
      refine ⟨_, _, rfl, .inl (.inl (hid_le _ _ ha)), q _ H1 e1 fun S' H2 e2 al2 => ?_⟩
      have ha2 := e2 _ _ ha
      have ra2 := ra.ex e2
      have sq : SqT K H2 _ _ := .inl (.inl (hid_le _ _ ha2))
      refine ⟨⟨_, sq, by rw [ra2.length]; simp [pairsOf]⟩, fun i x hx => ?_⟩
      obtain ⟨y, hy, ey⟩ : ∃ y, xs[i]? = some y ∧ x = .tuple [.int (i : Nat), y] := by
        unfold pairsOf at hx
        rw [List.getElem?_map, List.getElem?_zipIdx] at hx
        cases q : xs[i]? with
        | none => rw [q] at hx; simp at hx
        | some y =>
          rw [q] at hx
          refine ⟨y, rfl, ?_⟩
          simp at hx
          exact hx.symm
      obtain ⟨v, hv, rv⟩ := ra2.get hy
      refine ⟨⟨_, v, sq, hv⟩, fun w H3 yl => ?_⟩
      obtain ⟨T, z, e1, e2, e3, e4⟩ := yl
      have ez := e4 _ sq
      rw [hv] at ez
      cases ez
      subst e1 e3 ey
      exact ⟨Ex.new e2, .tup (new_ok al2 e2) (.cons (.int _) (.cons (rv.ex (hid_ex (Ex.new e2))) .nil))⟩
theorem es_rng1 {ta : TA} {n : Int} (h : Ea ta ρ [.dat (.int n)]) (h1 : -(2 ^ 62) ≤ n) (h2 : n < 2 ^ 62) : Es (iRng1 ta) ρ ((List.range n.toNat).map fun k => .int (k : Nat)) := fun S σ H al en R q => h S σ H al en _ fun vs H1 e1 rs => by
  cases rs with
  | cons rv t =>
    cases t
    cases rv.val
    refine ⟨n, rfl, h1, h2, q _ H1 e1 fun S' H2 e2 al2 => ⟨by show n.toNat ≤ _; simp, fun i x hx => ?_⟩⟩
    rw [List.getElem?_map] at hx
    cases qq : (List.range n.toNat)[i]? with
    | none => rw [qq] at hx; cases hx
    | some k =>
      rw [qq] at hx
      obtain ⟨hi, ek⟩ := List.getElem?_eq_some_iff.mp qq
      have ek2 : i = k := by simpa using ek
      subst ek2
      cases hx
      refine ⟨by show i < n.toNat; simp at hi; omega, fun v H3 y => ?_⟩
      obtain ⟨y1, y2⟩ := y
      subst y1 y2
      refine ⟨Ex.refl _, ?_⟩
      have e0 : (0 : Int) + (i : Int) = (i : Int) := Int.zero_add _
      rw [e0]
      exact .int _
/-! loops -/
inductive Lp (g : TG) (tb : TS) : List PD → Rho → Ou → Prop
  | nil {ρ : Rho} : Lp g tb [] ρ (.nxt ρ)
  | next {x : PD} {xs : List PD} {ρ ρ1 ρ2 : Rho} {o : Ou} {vs : List Nat} : Gd g x ρ ρ1 vs → Sd tb ρ1 (.nxt ρ2) → Lp g tb xs ρ2 o → Lp g tb (x :: xs) ρ o
  | cont {x : PD} {xs : List PD} {ρ ρ1 ρ2 : Rho} {o : Ou} {vs : List Nat} : Gd g x ρ ρ1 vs → Sd tb ρ1 (.cnt ρ2) → Lp g tb xs ρ2 o → Lp g tb (x :: xs) ρ o
  | ret {x : PD} {xs : List PD} {ρ ρ1 : Rho} {d : PD} {vs : List Nat} : Gd g x ρ ρ1 vs → Sd tb ρ1 (.ret d) → Lp g tb (x :: xs) ρ (.ret d)
  | brk {x : PD} {xs : List PD} {ρ ρ1 ρ2 : Rho} {vs : List Nat} : Gd g x ρ ρ1 vs → Sd tb ρ1 (.brk ρ2) → Lp g tb (x :: xs) ρ (.nxt ρ2)
theorem sd_for {wi : TI} {g : TG} {tb : TS} {xs : List PD} (h : Es wi ρ xs) (hl : Lp g tb xs ρ o) (hr : ∀ ρ, o ≠ .brk ρ ∧ o ≠ .cnt ρ) : Sd (tFor wi g tb) ρ o := fun S σ H D al en q =>
  h S σ H al en _ fun J H1 e1 wk => by
    refine ⟨fun i m σ' H' => m = xs.length - i ∧ i ≤ xs.length ∧ Ex H1 H' ∧ ∃ ρi, En (hid S H') σ' ρi ∧ Lp g tb (xs.drop i) ρi o,
      ⟨_, rfl, Nat.zero_le _, Ex.refl _, ρ, en.ex (hid_ex e1), by simpa using hl⟩, fun i m σ' H' hw => ?_⟩
    obtain ⟨rfl, hi, e2, ρi, en2, lp⟩ := hw
    have al2 := (al.ex e1).ex e2
    obtain ⟨w1, w2⟩ := wk S H' (hid_ex e2) al2
    by_cases hlt : i < xs.length
    · obtain ⟨w3, w4⟩ := w2 i _ (List.getElem?_eq_getElem hlt)
      have ed : xs.drop i = xs[i] :: xs.drop (i + 1) := List.drop_eq_getElem_cons hlt
      rw [ed] at lp
      refine .inr ⟨w3, fun σ2 H2 => Ex H1 H2 ∧ ∃ ρj, En (hid S H2) σ2 ρj ∧ Lp g tb (xs.drop (i + 1)) ρj o, fun σ2 H2 hn => ⟨_, by omega, rfl, hlt, hn.1, hn.2⟩, fun v H3 y => ?_⟩
      obtain ⟨e3, rv⟩ := w4 v H3 y
      have al3 := al2.ex e3
      have q3 : OuOk S H3 D o := q.ex ((e1.trans e2).trans e3)
      generalize hx : xs[i] = x at lp rv
      generalize xs.drop (i + 1) = rest at lp ⊢
      cases lp with
      | next hg hb hr2 => exact hg S σ' H3 v al3 (en2.ex (hid_ex e3)) rv _ fun σ4 en4 _ => hb S σ4 H3 _ al3 en4 fun σ5 H5 e5 en5 => ⟨(e2.trans e3).trans e5, _, en5, hr2⟩
      | cont hg hb hr2 => exact hg S σ' H3 v al3 (en2.ex (hid_ex e3)) rv _ fun σ4 en4 _ => hb S σ4 H3 _ al3 en4 fun σ5 H5 e5 en5 => ⟨(e2.trans e3).trans e5, _, en5, hr2⟩
      | ret hg hb => exact hg S σ' H3 v al3 (en2.ex (hid_ex e3)) rv _ fun σ4 en4 _ => hb S σ4 H3 _ al3 en4 q3
      | brk hg hb => exact hg S σ' H3 v al3 (en2.ex (hid_ex e3)) rv _ fun σ4 en4 _ => hb S σ4 H3 _ al3 en4 q3
    · have ei : i = xs.length := by omega
      subst ei
      refine .inl ⟨w1, ?_⟩
      rw [List.drop_length] at lp
      cases lp
      exact q σ' H' (e1.trans e2) en2
end

/-! ### comprehensions -/
def rho0 (ρ : Rho) (vs : List Nat) : Prop := ∀ v ∈ vs, ∀ r, ρ[v]? = some r → r = .un
theorem wipe_en {H : Hp} {σ : L2.St} {ρ : Rho} (h : En H σ ρ) : ∀ {vs : List Nat}, rho0 ρ vs → En H (wipe σ vs) ρ
  | [], _ => h
  | v :: vs, h0 => by
    have t := wipe_en h (vs := vs) (fun w hw r hr => h0 w (List.mem_cons_of_mem _ hw) r hr)
    have e : ρ.set v Sl.un = ρ := by
      apply List.ext_getElem?
      intro i
      by_cases c : v = i
      · subst c
        cases q : ρ[v]? with
        | none =>
          have := List.getElem?_eq_none_iff.mp q
          exact List.getElem?_eq_none_iff.mpr (by rw [List.length_set]; exact this)
        | some r =>
          have hl := (List.getElem?_eq_some_iff.mp q).1
          rw [List.getElem?_set_self hl, h0 v (List.mem_cons_self ..) r q]
      · rw [List.getElem?_set_ne c]
    have s := t.set v (o := none) (r := Sl.un) trivial
    rw [e] at s
    exact s
theorem wipe_get {σ : L2.St} {i : Nat} : ∀ {vs : List Nat}, i ∉ vs → (wipe σ vs)[i]? = σ[i]?
  | [], _ => rfl
  | v :: vs, h => by
    unfold wipe
    rw [List.getElem?_set_ne (fun z => h (by rw [← z]; exact List.mem_cons_self ..))]
    exact wipe_get fun z => h (List.mem_cons_of_mem _ z)
theorem wipe_at {σ : L2.St} {i : Nat} : ∀ {vs : List Nat}, i ∈ vs → i < σ.length → (wipe σ vs)[i]? = some none
  | v :: vs, h, hl => by
    unfold wipe
    by_cases c : v = i
    · subst c
      exact List.getElem?_set_self (by rw [wipe_length]; exact hl)
    · rw [List.getElem?_set_ne c]
      rcases List.mem_cons.mp h with z | z
      · exact absurd z.symm c
      · exact wipe_at z hl
/-- two states that agree off vs are wiped alike -/
theorem wipe_eq {σ τ : L2.St} {vs : List Nat} (hl : σ.length = τ.length) (h : ∀ i, i ∉ vs → σ[i]? = τ[i]?) : wipe σ vs = wipe τ vs := by
  apply List.ext_getElem?
  intro i
  by_cases c : i ∈ vs
  · by_cases b : i < σ.length
    · rw [wipe_at c b, wipe_at c (by omega)]
    · rw [List.getElem?_eq_none (by rw [wipe_length]; omega), List.getElem?_eq_none (by rw [wipe_length]; omega)]
  · rw [wipe_get c, wipe_get c]
    exact h i c
/-- [e for target in source if test]: which items give, and what -/
theorem d_lc {ρ : Rho} {wi : TI} {g : TG} {tt : TT} {te : TE} {vs : List Nat} {xs : List PD} (f : PD → Bool) (w : PD → PD) (hs : Es wi ρ xs) (h0 : rho0 ρ vs) (hz : xs.length ≤ 40000)
    (hb : ∀ x, x ∈ xs → ∃ ρ' us, Gd g x ρ ρ' us ∧ (∀ i ∈ us, i ∈ vs) ∧ Et tt ρ' (f x) ∧ (f x = true → Ed te ρ' (.dat (w x)))) :
    Ed (tLc wi g tt te vs) ρ (.dat (.list ((xs.filter f).map w))) := fun S σ H al en Q q =>
  hs S σ H al en _ fun J H1 e1 wk D hD => by
    have al1 := al.ex e1
    have enW : En (hid (D :: S) (upd H1 D (.lst []))) (wipe σ vs) ρ := wipe_en (en.ex ((hid_ex e1).trans (hid_cons (Ex.new hD) hD))) h0
    refine ⟨fun i m H' => m = xs.length - i ∧ i ≤ xs.length ∧ Ex H1 H' ∧ Al (D :: S) H' ∧ ∃ acc, H' D = some (.lst acc) ∧ RpAll (hid (D :: S) H') acc (((xs.take i).filter f).map w),
      ⟨_, rfl, Nat.zero_le _, Ex.new hD, (al1.ex (Ex.new hD)).cons (by rw [upd_same]; exact fun z => nomatch z), [], upd_same, .nil⟩, fun i m H' hw => ?_⟩
    obtain ⟨rfl, hi, e2, al2, acc, hacc, ra⟩ := hw
    have ewk : Ex (hid S H1) (hid (D :: S) H') := hid_cons e2 hD
    obtain ⟨w1, w2⟩ := wk (D :: S) H' ewk al2
    by_cases hlt : i < xs.length
    · obtain ⟨w3, w4⟩ := w2 i _ (List.getElem?_eq_getElem hlt)
      refine .inr ⟨w3, fun H2 => Ex H1 H2 ∧ Al (D :: S) H2 ∧ ∃ acc, H2 D = some (.lst acc) ∧ RpAll (hid (D :: S) H2) acc (((xs.take (i + 1)).filter f).map w), fun H2 hn => ⟨_, by omega, rfl, hlt, hn⟩, fun v H3 y => ?_⟩
      obtain ⟨e3, rv⟩ := w4 v H3 y
      obtain ⟨ρ', us, hg, hus, ht, he⟩ := hb xs[i] (List.getElem_mem hlt)
      have al3 := al2.ex e3
      have en3 : En (hid (D :: S) H3) (wipe σ vs) ρ := wipe_en (en.ex (((hid_ex e1).trans ewk).trans (hid_ex e3))) h0
      refine hg (D :: S) (wipe σ vs) H3 v al3 en3 rv _ fun σ4 en4 off => ⟨?_, ?_⟩
      · have ew : wipe (wipe σ vs) vs = wipe σ vs := wipe_eq (wipe_length σ vs) fun j hj => wipe_get hj
        rw [← ew]
        exact wipe_eq off.1 fun j hj => off.2 j fun z => hj (hus j z)
      · refine ht (D :: S) σ4 H3 al3 en4 _ fun H5 e5 => ?_
        have tk : xs.take (i + 1) = xs.take i ++ [xs[i]] := (List.take_append_getElem hlt).symm
        have hacc5 : H5 D = some (.lst acc) := e5 _ _ (e3 _ _ hacc)
        have la : acc.length ≤ i := by
          rw [ra.length, List.length_map]
          refine Nat.le_trans (List.length_filter_le _ _) ?_
          rw [List.length_take]
          exact Nat.min_le_left _ _
        cases hf : f xs[i] with
        | true =>
          show te σ4 H5 _
          refine he hf (D :: S) σ4 H5 (al3.ex e5) (en4.ex (hid_ex e5)) _ fun z H6 e6 rz => ⟨acc, e6 _ _ hacc5, Evl.sz_lt (by omega), ?_, ?_, acc ++ [z], upd_same, ?_⟩
          · exact Ex.mut (((e2.trans e3).trans e5).trans e6) hD
          · intro x hx
            by_cases c : x = D
            · subst c
              rw [upd_same]
              exact fun q => nomatch q
            · rw [upd_ne c]
              exact ((al3.ex e5).ex e6) x hx
          · rw [tk, List.filter_append, List.map_append]
            have hu : Ex (hid (D :: S) H6) (hid (D :: S) (upd H6 D (.lst (acc ++ [z])))) := fun x o h => by
              obtain ⟨c, h⟩ := hid_some h
              rw [hid_out c, upd_ne (fun z => c (by rw [z]; exact List.mem_cons_self ..))]
              exact h
            have one : ([xs[i]].filter f).map w = [w xs[i]] := by
              rw [List.filter_cons, if_pos hf]
              rfl
            rw [one]
            exact RpAll.append (ra.ex ((((hid_ex e3).trans (hid_ex e5)).trans (hid_ex e6)).trans hu)) (.cons (rz.val.ex hu) .nil)
        | false =>
          refine ⟨(e2.trans e3).trans e5, al3.ex e5, acc, hacc5, ?_⟩
          rw [tk, List.filter_append, List.map_append]
          have one : ([xs[i]].filter f).map w = [] := by
            rw [List.filter_cons, if_neg (by rw [hf]; exact Bool.false_ne_true)]
            rfl
          rw [one, List.append_nil]
          exact ra.ex ((hid_ex e3).trans (hid_ex e5))
    · have ei : i = xs.length := by omega
      subst ei
      refine .inl ⟨w1, q _ H' (e1.trans e2) (.of (.lst (xs := acc) ?_ ?_))⟩
      · rw [hid_out (al1.new hD)]
        exact hacc
      · rw [List.take_length] at ra
        exact ra.ex hid_uncons
end Un

/-! ## UnLaw -/
namespace Un
open PySem PySem.Spec PyProof.Rows L2
open Evl (Ex)
/-! ### short names of readings -/
abbrev oAdd : R2 := rI0 fun i j => .int (i + j)
abbrev oSub : R2 := rI0 fun i j => .int (i - j)
abbrev oMul : R2 := rI CMul fun i j => .int (i * j)
abbrev oDivW : R2 := rI CDivW fun i j => .int (i / j)
abbrev oMod : R2 := rI (fun _ j => 0 < j) fun i j => .int (i % j)
abbrev oPow : R2 := rI CPow fun i j => .int (i ^ j.toNat)
abbrev oLt : R2 := rI0 fun i j => .bl (decide (i < j))
abbrev oLe : R2 := rI0 fun i j => .bl (decide (i ≤ j))
abbrev oGt : R2 := rI0 fun i j => .bl (decide (j < i))
abbrev oGe : R2 := rI0 fun i j => .bl (decide (j ≤ i))
abbrev oIsN : R2 := fun x y H Q => y = .non ∧ Q (.bl (decide (x = .non))) H
abbrev oNotN : R2 := fun x y H Q => y = .non ∧ Q (.bl (!decide (x = .non))) H
abbrev oNeg : V → Hp → VK → Prop := rU fun i => .int (-i)
abbrev rAbsQ : List V → Hp → VK → Prop := fun xs H Q => ∃ i, xs = [.int i] ∧ Q (.int (if i < 0 then -i else i)) H
abbrev rIntQ : List V → Hp → VK → Prop := fun xs H Q => (∃ i, xs = [.int i] ∧ Q (.int i) H) ∨ ∃ k, xs = [.bl k] ∧ Q (.int (if k then 1 else 0)) H
abbrev rInsQ : V → List V → Hp → VK → Prop := fun x vs H Q => ∃ (l : Addr) (xs : List V) (i : Int) (y : V), x = .ref l ∧ vs = [.int i, y] ∧ H l = some (.lst xs) ∧ xs.length < sizeLine ∧ 0 ≤ i ∧ i < 2 ^ 63 ∧
  Q .non (upd H l (.lst (xs.take i.toNat ++ [y] ++ xs.drop i.toNat)))
section
variable {K : PySem.W.Frag} {H : Hp} {a : Addr} {xs : List V} {i : Int} {v : V} {Q : VK}
theorem ixL (h : H a = some (.lst xs)) (e : atI xs i = some v) (q : Q v H) : rIx K (.ref a) (.int i) H Q := .inl ⟨a, xs, i, v, rfl, rfl, .inl (.inl h), e, q⟩
theorem ixT (h : H a = some (.tup xs)) (e : atI xs i = some v) (q : Q v H) : rIx K (.ref a) (.int i) H Q := .inr (.inl ⟨a, xs, i, v, rfl, rfl, .inl (.inl h), e, q⟩)
theorem ro_sqT {ds : List PD} {d : PD} (h : atI ds i = some d) : Ro (rIx K) (.dat (.tuple ds)) (.dat (.int i)) (.dat d) := fun S H vx vy al rx ry Q q => .inr (.inl (ro_ixT h S H vx vy al rx ry Q q))
theorem ro_sqL {ds : List PD} {d : PD} (h : atI ds i = some d) : Ro (rIx K) (.dat (.list ds)) (.dat (.int i)) (.dat d) := fun S H vx vy al rx ry Q q => .inl (ro_ixL h S H vx vy al rx ry Q q)
end
/-! ### the deck -/
def Kp (a b : Addr) (H H2 : Hp) : Prop := ∀ x o, x ≠ a → x ≠ b → H x = some o → H2 x = some o
theorem Kp.refl {a b : Addr} {H : Hp} : Kp a b H H := fun _ _ _ _ h => h
theorem Kp.trans {a b : Addr} {H H1 H2 : Hp} (p : Kp a b H H1) (q : Kp a b H1 H2) : Kp a b H H2 := fun x o h1 h2 h => q x o h1 h2 (p x o h1 h2 h)
theorem Kp.of {a b : Addr} {H H2 : Hp} (e : Ex H H2) : Kp a b H H2 := fun x o _ _ h => e x o h
theorem Kp.hid {a b : Addr} {S : List Addr} {H H2 : Hp} (k : Kp a b H H2) (ha : a ∈ S) (hb : b ∈ S) : Ex (hid S H) (hid S H2) := fun x o h => by
  obtain ⟨c, h⟩ := hid_some h
  rw [hid_out c]
  exact k x o (fun z => c (z ▸ ha)) (fun z => c (z ▸ hb)) h
theorem Kp.updA {a b : Addr} {H : Hp} {o : HO} : Kp a b H (upd H a o) := fun x u h1 _ h => by rw [upd_ne h1]; exact h
theorem Kp.updB {a b : Addr} {H : Hp} {o : HO} : Kp a b H (upd H b o) := fun x u _ h2 h => by rw [upd_ne h2]; exact h
structure Dk (a b c : Addr) (n : Nat) (H : Hp) : Prop where
  ex : ∃ (bs cs : List Int) (p : Int), H a = some (.lst [.ref b, .ref c, .int p]) ∧ H b = some (.lst (bs.map V.int)) ∧ H c = some (.lst (cs.map V.int)) ∧ b ≠ c ∧ cs ≠ [] ∧ 0 ≤ p ∧ p ≤ n ∧ bs.length ≤ 1000 ∧ cs.length ≤ 1000
theorem Dk.exx {a b c : Addr} {n : Nat} {H H' : Hp} (d : Dk a b c n H) (e : Ex H H') : Dk a b c n H' := by
  obtain ⟨bs, cs, p, h1, h2, h3, r⟩ := d.ex
  exact ⟨bs, cs, p, e _ _ h1, e _ _ h2, e _ _ h3, r⟩
theorem Dk.mono {a b c : Addr} {n m : Nat} {H : Hp} (d : Dk a b c n H) (h : n ≤ m) : Dk a b c m H := by
  obtain ⟨bs, cs, p, h1, h2, h3, r1, r2, r3, r4, r5⟩ := d.ex
  exact ⟨bs, cs, p, h1, h2, h3, r1, r2, r3, by omega, r5⟩
theorem Dk.al {a b c : Addr} {n : Nat} {S : List Addr} {H H2 : Hp} (d : Dk a b c n H2) (k : Kp a b H H2) (al : Al S H) : Al S H2 := fun x hx z => by
  obtain ⟨bs, cs, p, h1, h2, h3, r⟩ := d.ex
  by_cases ca : x = a
  · subst ca; rw [h1] at z; cases z
  · by_cases cb : x = b
    · subst cb; rw [h2] at z; cases z
    · cases q : H x with
      | none => exact al x hx q
      | some o => rw [k x o ca cb q] at z; cases z
theorem Dk.upd {a b c : Addr} {n : Nat} {H : Hp} {l : Addr} {o : HO} (d : Dk a b c n H) (h1 : l ≠ a) (h2 : l ≠ b) (h3 : l ≠ c) : Dk a b c n (upd H l o) := by
  obtain ⟨bs, cs, p, e1, e2, e3, r⟩ := d.ex
  exact ⟨bs, cs, p, by rw [upd_ne h1.symm]; exact e1, by rw [upd_ne h2.symm]; exact e2, by rw [upd_ne h3.symm]; exact e3, r⟩
/-- the promise of a def that draws: the deck first, then data -/
def spK (m : Nat) (Pre : List PD → Prop) (R : List PD → PD → Prop) : Sp := fun vs H Q _ => ∃ a b c n S ws ds, vs = V.ref a :: ws ∧ Dk a b c n H ∧ n + m ≤ 2 ^ 60 ∧ a ∈ S ∧ b ∈ S ∧ Al S H ∧ RpAll (hid S H) ws ds ∧ Pre ds ∧
  ∀ v d H2, R ds d → Kp a b H H2 → Dk a b c (n + m) H2 → Rp (hid S H2) v d → Q v H2
/-- a pure def's promise, as a relation -/
def spR (R : List PD → PD → Prop) : Sp := fun vs H Q _ => ∃ S ds d, Al S H ∧ RpAll (hid S H) vs ds ∧ R ds d ∧ ∀ v H2, Ex H H2 → Rp (hid S H2) v d → Q v H2
theorem d_callR {R : List PD → PD → Prop} {E : XK} {ts : TA} {ds : List PD} {d : PD} {ρ : Rho} (ha : Ea ts ρ (ds.map Sl.dat)) (hp : R ds d) : Ed (tCall (spR R) [] E ts) ρ (.dat d) := fun S σ H al en Q q =>
  ha S σ H al en _ fun vs H1 e1 rv => by
    rw [List.append_nil]
    exact ⟨S, ds, d, al.ex e1, rv.all, hp, fun v H2 e2 r2 => q v H2 (e1.trans e2) (.of r2)⟩
/-! ### _law_next -/
def sp__law_next : Sp := spK 1 (fun ds => ∃ m : Int, ds = [.int m] ∧ 0 < m ∧ m < 2 ^ 64) (fun ds d => ∃ m r : Int, ds = [.int m] ∧ d = .int r ∧ 0 ≤ r ∧ r < m)
def T__law_next (K : PySem.W.Frag) : TS :=
    tSeq (tWhile (tTest (tOp (rNeD K) (tOp (rIx K) (tVar 0) (tC (.int 0))) (tLst tNil))) (tSeq (tAsg (tOp (rIx K) (tOp (rIx K) (tVar 0) (tC (.int 0))) (tC (.int 0))) (gName 2))
    (tSeq (tIfS (tTest (tOp oGt (tVar 2) (tC (.int 0)))) (tSeq (tAsg (tOp oDivW (tVar 2) (tVar 1)) (gSub (tOp (rIx K) (tVar 0) (tC (.int 0))) (tC (.int 0)) rSetL))
    (tRet (tOp oMod (tVar 2) (tVar 1)))) tNext)
    (tDrop (tBM K "list" rPopAt (tOp (rIx K) (tVar 0) (tC (.int 0))) (tCons (tC (.int 0)) tNil))))))
    (tSeq (tAsg (tOp oAdd (tOp (rIx K) (tVar 0) (tC (.int 2))) (tC (.int 1))) (gSub (tVar 0) (tC (.int 2)) rSetL))
    (tSeq (tAsg (tOp oMod (tOp (rIx K) (tOp (rIx K) (tVar 0) (tC (.int 1))) (tOp oMod (tOp (rIx K) (tVar 0) (tC (.int 2))) (tCB (rLenQ K) (tCons (tOp (rIx K) (tVar 0) (tC (.int 1))) tNil)))) (tC (.int 2147483647))) (gName 3))
    (tSeq (tAsg (tOp oAdd (tOp oAdd (tOp oMul (tVar 3) (tOp oAdd (tC (.int 48271)) (tOp oMul (tC (.int 40692)) (tOp (rIx K) (tVar 0) (tC (.int 2)))))) (tOp oMul (tOp oMul (tC (.int 69621)) (tOp (rIx K) (tVar 0) (tC (.int 2)))) (tOp (rIx K) (tVar 0) (tC (.int 2))))) (tC (.int 13))) (gName 4))
    (tSeq (tAsg (tOp oMod (tVar 4) (tC (.int 2147483629))) (gName 4))
    (tRet (tOp oMod (tOp oDivW (tOp oMod (tOp oMul (tVar 4) (tVar 4)) (tC (.int 2147483587))) (tC (.int 16))) (tVar 1)))))))
theorem w_next {K : PySem.W.Frag} {a b c : Addr} {n : Nat} {m : Int} {H : Hp} {D : Ends} (dk : Dk a b c n H) (hn : n + 1 ≤ 2 ^ 60) (hm : 0 < m) (hm2 : m < 2 ^ 64)
    (q : ∀ r H2, 0 ≤ r → r < m → Kp a b H H2 → Dk a b c (n + 1) H2 → D.rt (.int r) H2) :
    T__law_next K D [some (.ref a), some (.int m), none, none, none] H := by
  have hdiv : ∀ x : Int, CDivW x m := fun x => ⟨hm, by
    have h1 : m.natAbs < 2 ^ 64 := by omega
    exact Nat.lt_of_lt_of_le (PySem.Flt.log2_lt_of (by decide) h1) (by decide)⟩
  refine ⟨fun k σ H' => ∃ (bs cs : List Int) (p : Int) (x2 : Option V), k = bs.length ∧ σ = [some (.ref a), some (.int m), x2, none, none] ∧ Kp a b H H' ∧ H' a = some (.lst [.ref b, .ref c, .int p]) ∧ H' b = some (.lst (bs.map V.int)) ∧ H' c = some (.lst (cs.map V.int)) ∧ b ≠ c ∧ cs ≠ [] ∧ 0 ≤ p ∧ p ≤ n ∧ bs.length ≤ 1000 ∧ cs.length ≤ 1000, ?_, ?_⟩
  · obtain ⟨bs, cs, p, h1, h2, h3, r1, r2, r3, r4, r5, r6⟩ := dk.ex
    exact ⟨_, bs, cs, p, none, rfl, rfl, Kp.refl, h1, h2, h3, r1, r2, r3, r4, r5, r6⟩
  · rintro k σ H' ⟨bs, cs, p, x2, rfl, rfl, kp, h1, h2, h3, r1, r2, r3, r4, r5, r6⟩
    have nab : a ≠ b := ne_of h1 h2 (fun z => by
      cases bs with
      | nil => cases z
      | cons x r => cases z)
    have nac : a ≠ c := ne_of h1 h3 (fun z => by
      cases cs with
      | nil => cases z
      | cons x r => cases z)
    -- the test
    refine ⟨.ref a, rfl, ixL h1 rfl ⟨Nat.zero_le _, fun l hl => ?_⟩⟩
    have nla : a ≠ l := ne_of_none h1 hl
    have nlb : b ≠ l := ne_of_none h2 hl
    have nlc : c ≠ l := ne_of_none h3 hl
    have g1 : (upd H' l (.lst [])) a = some (.lst [.ref b, .ref c, .int p]) := by rw [upd_ne nla]; exact h1
    have g2 : (upd H' l (.lst [])) b = some (.lst (bs.map V.int)) := by rw [upd_ne nlb]; exact h2
    have g3 : (upd H' l (.lst [])) c = some (.lst (cs.map V.int)) := by rw [upd_ne nlc]; exact h3
    have kp2 : Kp a b H (upd H' l (.lst [])) := kp.trans (Kp.of (Ex.new hl))
    have gl : (upd H' l (.lst [])) l = some (.lst []) := upd_same
    generalize upd H' l (.lst []) = G at g1 g2 g3 kp2 gl ⊢
    refine ⟨.list (bs.map PyData.int), .list [], (Rp.lst (H := G) g2 (RpAll.ofInts bs)).dp, (Rp.lst (H := G) gl .nil).dp, PySem.W.shaped_ints bs, rfl, _, rfl, ?_⟩
    cases bs with
    | nil =>
      have e0 : (!PyData.eqv (.list (([] : List Int).map PyData.int)) (.list [])) = false := rfl
      rw [e0]
      refine iteF ?_
      -- deck[2] = deck[2] + 1
      refine ⟨.ref a, rfl, ixL g1 rfl ⟨p, 1, rfl, rfl, .ref a, rfl, ⟨a, _, 2, 2, rfl, rfl, g1, rfl, ?_⟩⟩⟩
      have k1 : (upd G a (.lst ([V.ref b, .ref c, .int p].set 2 (.int (p + 1))))) a = some (.lst [.ref b, .ref c, .int (p + 1)]) := upd_same
      have k2 : (upd G a (.lst ([V.ref b, .ref c, .int p].set 2 (.int (p + 1))))) b = some (.lst (([] : List Int).map V.int)) := by rw [upd_ne nab.symm]; exact g2
      have k3 : (upd G a (.lst ([V.ref b, .ref c, .int p].set 2 (.int (p + 1))))) c = some (.lst (cs.map V.int)) := by rw [upd_ne nac.symm]; exact g3
      have kp3 : Kp a b H (upd G a (.lst ([V.ref b, .ref c, .int p].set 2 (.int (p + 1))))) := kp2.trans Kp.updA
      generalize upd G a (.lst ([V.ref b, .ref c, .int p].set 2 (.int (p + 1)))) = G2 at k1 k2 k3 kp3 ⊢
      -- the cell
      have hcl : 0 < cs.length := List.length_pos_iff.mpr r2
      have hlen : ((cs.map V.int).length : Int) = (cs.length : Int) := by rw [List.length_map]
      obtain ⟨j, hj, ej⟩ : ∃ j : Nat, j < cs.length ∧ (p + 1) % ((cs.map V.int).length : Int) = (j : Int) := by
        rw [hlen]
        refine ⟨((p + 1) % (cs.length : Int)).toNat, ?_, ?_⟩
        · have x1 := Int.emod_lt_of_pos (p + 1) (show (0 : Int) < cs.length by omega)
          have x2 := Int.emod_nonneg (p + 1) (show (cs.length : Int) ≠ 0 by omega)
          omega
        · have x2 := Int.emod_nonneg (p + 1) (show (cs.length : Int) ≠ 0 by omega)
          omega
      have hat : atI (cs.map V.int) ((p + 1) % ((cs.map V.int).length : Int)) = some (.int cs[j]) := by
        rw [ej]
        refine atI_nat ?_
        rw [List.getElem?_map, List.getElem?_eq_getElem hj]
        rfl
      refine ⟨.ref a, rfl, ixL k1 rfl ⟨.ref a, rfl, ixL k1 rfl ⟨.ref a, rfl, ixL k1 rfl ⟨c, _, rfl, .inl (.inl (.inl k3)), ⟨p + 1, _, rfl, rfl, by rw [hlen]; omega, ixL k3 hat ⟨_, 2147483647, rfl, rfl, (show (0 : Int) < 2147483647 by decide), ?_⟩⟩⟩⟩⟩⟩
      have c0 : (0 : Int) ≤ cs[j] % 2147483647 := Int.emod_nonneg _ (by decide)
      have c1 : cs[j] % 2147483647 < 2147483647 := Int.emod_lt_of_pos _ (by decide)
      obtain ⟨z, hz⟩ : ∃ z, z = cs[j] % 2147483647 := ⟨_, rfl⟩
      rw [← hz] at c0 c1
      have es : [some (V.ref a), some (V.int m), x2, none, none].set 3 (some (V.int (cs[j] % 2147483647))) = [some (V.ref a), some (V.int m), x2, some (V.int z), none] := by rw [← hz]; rfl
      show tSeq _ _ _ ([some (V.ref a), some (V.int m), x2, none, none].set 3 (some (V.int (cs[j] % 2147483647)))) _
      rw [es]
      -- mixed
      refine ⟨.int z, rfl, .ref a, rfl, ixL k1 rfl ⟨40692, p + 1, rfl, rfl, .inl (by decide), 48271, _, rfl, rfl, z, _, rfl, rfl, .inl ⟨by omega, by omega⟩, .ref a, rfl, ixL k1 rfl ⟨69621, p + 1, rfl, rfl, .inl (by decide), .ref a, rfl, ixL k1 rfl ⟨_, p + 1, rfl, rfl, .inr ⟨by omega, by omega⟩, _, _, rfl, rfl, _, 13, rfl, rfl, ?_⟩⟩⟩⟩
      refine ⟨_, rfl, _, 2147483629, rfl, rfl, (show (0 : Int) < 2147483629 by decide), ?_⟩
      have y0 : (0 : Int) ≤ (z * (48271 + 40692 * (p + 1)) + 69621 * (p + 1) * (p + 1) + 13) % 2147483629 := Int.emod_nonneg _ (by decide)
      have y1 : (z * (48271 + 40692 * (p + 1)) + 69621 * (p + 1) * (p + 1) + 13) % 2147483629 < 2147483629 := Int.emod_lt_of_pos _ (by decide)
      generalize hy : (z * (48271 + 40692 * (p + 1)) + 69621 * (p + 1) * (p + 1) + 13) % 2147483629 = y at y0 y1
      have ey : ([some (V.ref a), some (V.int m), x2, some (V.int z), none].set 4 (some (V.int (z * (48271 + 40692 * (p + 1)) + 69621 * (p + 1) * (p + 1) + 13)))).set 4 (some (V.int ((z * (48271 + 40692 * (p + 1)) + 69621 * (p + 1) * (p + 1) + 13) % 2147483629))) = [some (V.ref a), some (V.int m), x2, some (V.int z), some (V.int y)] := by rw [hy]; rfl
      show tRet (tOp oMod (tOp oDivW (tOp oMod (tOp oMul (tVar 4) (tVar 4)) (tC (.int 2147483587))) (tC (.int 16))) (tVar 1)) D (([some (V.ref a), some (V.int m), x2, some (V.int z), none].set 4 (some (V.int (z * (48271 + 40692 * (p + 1)) + 69621 * (p + 1) * (p + 1) + 13)))).set 4 (some (V.int ((z * (48271 + 40692 * (p + 1)) + 69621 * (p + 1) * (p + 1) + 13) % 2147483629)))) G2
      rw [ey]
      refine ⟨.int y, rfl, .int y, rfl, y, y, rfl, rfl, .inl ⟨by omega, by omega⟩, _, 2147483587, rfl, rfl, (show (0 : Int) < 2147483587 by decide), _, 16, rfl, rfl, ⟨by decide, by decide⟩, .int m, rfl, _, m, rfl, rfl, hm, ?_⟩
      exact q _ _ (Int.emod_nonneg _ (by omega)) (Int.emod_lt_of_pos _ hm) kp3 ⟨[], cs, p + 1, k1, k2, k3, r1, r2, by omega, by omega, by decide, r6⟩
    | cons x r =>
      have e0 : (!PyData.eqv (.list ((x :: r).map PyData.int)) (.list [])) = true := rfl
      rw [e0]
      refine iteT ?_
      refine ⟨fun σ' H2 => ∃ (p : Int) (x2 : Option V), σ' = [some (.ref a), some (.int m), x2, none, none] ∧ Kp a b H H2 ∧ H2 a = some (.lst [.ref b, .ref c, .int p]) ∧ H2 b = some (.lst (r.map V.int)) ∧ H2 c = some (.lst (cs.map V.int)) ∧ 0 ≤ p ∧ p ≤ n, ?_, ?_⟩
      · rintro σ' H2 ⟨p', y2, e, kk, m1, m2, m3, m4, m5⟩
        exact ⟨r.length, by rw [List.length_cons]; omega, r, cs, p', y2, rfl, e, kk, m1, m2, m3, r1, r2, m4, m5, by rw [List.length_cons] at r5; omega, r6⟩
      · -- rest = deck[0][0]
        refine ⟨.ref a, rfl, ixL g1 rfl (ixL g2 (v := .int x) (atI_nat (j := 0) rfl) ?_)⟩
        -- if rest > 0
        refine ⟨.int x, rfl, x, 0, rfl, rfl, _, rfl, ite2 (fun hx => ?_) (fun hx => ?_)⟩
        · refine ⟨.int x, rfl, .int m, rfl, x, m, rfl, rfl, hdiv x, .ref a, rfl, ixL g1 rfl ⟨b, _, 0, 0, rfl, rfl, g2, (by rw [List.length_map]; exact Evl.ixN_nat (j := 0) (Nat.succ_pos _)), ?_⟩⟩
          refine ⟨.int x, rfl, .int m, rfl, x, m, rfl, rfl, hm, ?_⟩
          refine q _ _ (Int.emod_nonneg _ (by omega)) (Int.emod_lt_of_pos _ hm) (kp2.trans Kp.updB) ⟨x / m :: r, cs, p, ?_, ?_, ?_, r1, r2, r3, by omega, r5, r6⟩
          · rw [upd_ne nab]; exact g1
          · rw [upd_same]; rfl
          · rw [upd_ne r1.symm]; exact g3
        · -- pop(0)
          refine ⟨.ref a, rfl, ixL g1 rfl ⟨.inl ⟨rfl, _, .inl (.inl g2)⟩, ⟨b, _, 0, 0, .int x, rfl, rfl, g2, by decide, by decide, ?_, rfl, ?_⟩⟩⟩
          · show seqIndex? 0 ((V.int x :: r.map V.int).length) = some 0
            exact (ixN_seq (n := (V.int x :: r.map V.int).length) (i := 0) (j := 0) (by rw [List.length_cons]; exact Evl.ixN_nat (j := 0) (Nat.succ_pos _))).1
          · refine ⟨p, some (.int x), rfl, kp2.trans Kp.updB, ?_, ?_, ?_, r3, r4⟩
            · rw [upd_ne nab]; exact g1
            · rw [upd_same]; rfl
            · rw [upd_ne r1.symm]; exact g3

/-! ### drawing expressions -/
def Ew (a : Addr) (te : TE) (ρ : Rho) (m : Nat) (P : PD → Prop) : Prop := ∀ b c n S σ H, a ∈ S → b ∈ S → Al S H → En (hid S H) σ ρ → Dk a b c n H → n + m ≤ 2 ^ 60 → ∀ Q : VK, (∀ v d H2, Kp a b H H2 → Dk a b c (n + m) H2 → Rp (hid S H2) v d → P d → Q v H2) → te σ H Q
def Ewa (a : Addr) (ta : TA) (ρ : Rho) (m : Nat) (P : List PD → Prop) : Prop := ∀ b c n S σ H, a ∈ S → b ∈ S → Al S H → En (hid S H) σ ρ → Dk a b c n H → n + m ≤ 2 ^ 60 → ∀ Q : List V → Hp → Prop, (∀ vs ds H2, Kp a b H H2 → Dk a b c (n + m) H2 → RpAll (hid S H2) vs ds → P ds → Q vs H2) → ta σ H Q
section
variable {K : PySem.W.Frag} {a : Addr} {ρ ρ' : Rho} {ta tb te : TE} {ts : TA} {m m1 m2 : Nat} {P P1 P2 : PD → Prop}
theorem ew_pure {d : PD} (h : Ed te ρ (.dat d)) : Ew a te ρ 0 (fun x => x = d) := fun b c n S σ H ha hb al en dk hn Q q => h S σ H al en Q fun v H2 e r => q v d H2 (Kp.of e) (dk.exx e) r.val rfl
theorem ew_mono (h : Ew a te ρ m1 P1) (hm : m1 ≤ m) (hp : ∀ d, P1 d → P d) : Ew a te ρ m P := fun b c n S σ H ha hb al en dk hn Q q => h b c n S σ H ha hb al en dk (by omega) Q fun v d H2 k2 d2 r p => q v d H2 k2 (d2.mono (by omega)) r (hp d p)
theorem ew_op {r : R2} (h1 : Ew a ta ρ m1 P1) (h2 : Ew a tb ρ m2 P2) (hr : ∀ x y, P1 x → P2 y → ∃ z, Ro r (.dat x) (.dat y) (.dat z) ∧ P z) : Ew a (tOp r ta tb) ρ (m1 + m2) P := fun b c n S σ H ha hb al en dk hn Q q =>
  h1 b c n S σ H ha hb al en dk (by omega) _ fun v x H1 k1 d1 r1 p1 => h2 b c (n + m1) S σ H1 ha hb (d1.al k1 al) (en.ex (k1.hid ha hb)) d1 (by omega) _ fun u y H2 k2 d2 r2 p2 => by
    obtain ⟨z, ro, pz⟩ := hr x y p1 p2
    refine ro S H2 v u (d2.al k2 (d1.al k1 al)) (.of (r1.ex (k2.hid ha hb))) (.of r2) Q fun w H3 e3 r3 => q w z H3 ((k1.trans k2).trans (Kp.of e3)) ?_ r3.val pz
    have e : n + m1 + m2 = n + (m1 + m2) := by omega
    rw [← e]
    exact d2.exx e3
theorem ewa_nil : Ewa a tNil ρ 0 (fun ds => ds = []) := fun b c n S σ H ha hb al en dk hn Q q => q [] [] H Kp.refl dk .nil rfl
theorem ewa_cons {Ps : List PD → Prop} (h1 : Ew a ta ρ m1 P1) (h2 : Ewa a ts ρ m2 Ps) : Ewa a (tCons ta ts) ρ (m1 + m2) (fun ds => ∃ d r, ds = d :: r ∧ P1 d ∧ Ps r) := fun b c n S σ H ha hb al en dk hn Q q =>
  h1 b c n S σ H ha hb al en dk (by omega) _ fun v x H1 k1 d1 r1 p1 => h2 b c (n + m1) S σ H1 ha hb (d1.al k1 al) (en.ex (k1.hid ha hb)) d1 (by omega) _ fun vs ds H2 k2 d2 r2 p2 => by
    refine q (v :: vs) (x :: ds) H2 (k1.trans k2) ?_ (.cons (r1.ex (k2.hid ha hb)) r2) ⟨x, ds, rfl, p1, p2⟩
    have e : n + m1 + m2 = n + (m1 + m2) := by omega
    rw [← e]
    exact d2
theorem ewa_pure {ds : List PD} (h : Ea ts ρ (ds.map Sl.dat)) : Ewa a ts ρ 0 (fun x => x = ds) := fun b c n S σ H ha hb al en dk hn Q q => h S σ H al en Q fun vs H2 e r => q vs ds H2 (Kp.of e) (dk.exx e) r.all rfl
theorem ewa_mono {Ps Pt : List PD → Prop} (h : Ewa a ts ρ m1 Ps) (hm : m1 ≤ m) (hp : ∀ ds, Ps ds → Pt ds) : Ewa a ts ρ m Pt := fun b c n S σ H ha hb al en dk hn Q q => h b c n S σ H ha hb al en dk (by omega) Q fun v d H2 k2 d2 r p => q v d H2 k2 (d2.mono (by omega)) r (hp d p)
theorem ewa_1 {d : PD} (h : Ed te ρ (.dat d)) : Ewa a (tCons te tNil) ρ 0 (fun x => x = [d]) := ewa_pure (ds := [d]) (a_cons h a_nil)
theorem ewa_2 {d e : PD} (h : Ed te ρ (.dat d)) (h2 : Ed ta ρ (.dat e)) : Ewa a (tCons te (tCons ta tNil)) ρ 0 (fun x => x = [d, e]) := ewa_pure (ds := [d, e]) (a_cons h (a_cons h2 a_nil))
theorem ew_lst {Ps : List PD → Prop} (h : Ewa a ts ρ m Ps) (hl : ∀ ds, Ps ds → ds.length ≤ 100000) : Ew a (tLst ts) ρ m (fun d => ∃ ds, d = .list ds ∧ Ps ds) := fun b c n S σ H ha hb al en dk hn Q q =>
  h b c n S σ H ha hb al en dk hn _ fun vs ds H1 k1 d1 r1 p1 => ⟨by rw [r1.length]; exact Evl.sz_of (hl ds p1), fun p hp =>
    q _ _ _ (k1.trans (Kp.of (Ex.new hp))) (d1.exx (Ex.new hp)) (.lst (new_ok (d1.al k1 al) hp) (r1.ex (hid_ex (Ex.new hp)))) ⟨ds, rfl, p1⟩⟩
theorem ew_tup {Ps : List PD → Prop} (h : Ewa a ts ρ m Ps) (hl : ∀ ds, Ps ds → ds.length ≤ 100000) : Ew a (tTup ts) ρ m (fun d => ∃ ds, d = .tuple ds ∧ Ps ds) := fun b c n S σ H ha hb al en dk hn Q q =>
  h b c n S σ H ha hb al en dk hn _ fun vs ds H1 k1 d1 r1 p1 => ⟨by rw [r1.length]; exact Evl.sz_of (hl ds p1), fun p hp =>
    q _ _ _ (k1.trans (Kp.of (Ex.new hp))) (d1.exx (Ex.new hp)) (.tup (new_ok (d1.al k1 al) hp) (r1.ex (hid_ex (Ex.new hp)))) ⟨ds, rfl, p1⟩⟩
theorem ew_cb {f : List V → Hp → VK → Prop} {Ps : List PD → Prop} (h : Ewa a ts ρ m Ps) (hr : ∀ ds, Ps ds → ∃ z, Rc f (ds.map Sl.dat) (.dat z) ∧ P z) : Ew a (tCB f ts) ρ m P := fun b c n S σ H ha hb al en dk hn Q q =>
  h b c n S σ H ha hb al en dk hn _ fun vs ds H1 k1 d1 r1 p1 => by
    obtain ⟨z, rc, pz⟩ := hr ds p1
    exact rc S H1 vs (d1.al k1 al) (SlsOk.ofAll r1) Q fun v H2 e2 r2 => q v z H2 (k1.trans (Kp.of e2)) (d1.exx e2) r2.val pz
theorem ew_call {Pre : List PD → Prop} {R : List PD → PD → Prop} {E : XK} {i : Nat} {Ps : List PD → Prop} (hi : ρ[i]? = some (.raw (.ref a))) (h : Ewa a ts ρ m1 Ps) (hp : ∀ ds, Ps ds → Pre ds) (hr : ∀ ds d, Ps ds → R ds d → P d) :
    Ew a (tCall (spK m Pre R) [] E (tCons (tVar i) ts)) ρ (m1 + m) P := fun b c n S σ H ha hb al en dk hn Q q => by
  refine ⟨.ref a, en.raw hi, ?_⟩
  refine h b c n S σ H ha hb al en dk (by omega) _ fun vs ds H1 k1 d1 r1 p1 => ?_
  refine ⟨a, b, c, n + m1, S, vs, ds, by rw [List.append_nil], d1, by omega, ha, hb, d1.al k1 al, r1, hp ds p1, fun v d H2 rr k2 d2 r2 => q v d H2 (k1.trans k2) ?_ r2 (hr ds d p1 rr)⟩
  have e : n + m1 + m = n + (m1 + m) := by omega
  rw [← e]
  exact d2
end
/-! ### drawing statements -/
def OuW (a b c : Addr) (k : Nat) (S : List Addr) (H : Hp) (D : Ends) : Ou → Prop
  | .ret d => ∀ v H2, Kp a b H H2 → Dk a b c k H2 → Rp (hid S H2) v d → D.rt v H2
  | .nxt ρ => ∀ σ H2, Kp a b H H2 → Dk a b c k H2 → En (hid S H2) σ ρ → D.nx σ H2
  | .brk ρ => ∀ σ H2, Kp a b H H2 → Dk a b c k H2 → En (hid S H2) σ ρ → D.bk σ H2
  | .cnt ρ => ∀ σ H2, Kp a b H H2 → Dk a b c k H2 → En (hid S H2) σ ρ → D.ct σ H2
def Sw (a : Addr) (t : TS) (ρ : Rho) (m : Nat) (P : Ou → Prop) : Prop := ∀ b c n S σ H D, a ∈ S → b ∈ S → Al S H → En (hid S H) σ ρ → Dk a b c n H → n + m ≤ 2 ^ 60 → (∀ o, P o → OuW a b c (n + m) S H D o) → t D σ H
section
variable {K : PySem.W.Frag} {a : Addr} {ρ ρ' : Rho} {te : TE} {ct : TT} {t u : TS} {m m1 m2 : Nat} {P P1 P2 : Ou → Prop} {Pd : PD → Prop}
theorem OuW.step {a b c : Addr} {k : Nat} {S : List Addr} {H H1 : Hp} {D : Ends} (kp : Kp a b H H1) : ∀ {o : Ou}, OuW a b c k S H D o → OuW a b c k S H1 D o
  | .ret _, h => fun v H2 k2 d2 r => h v H2 (kp.trans k2) d2 r
  | .nxt _, h => fun v H2 k2 d2 r => h v H2 (kp.trans k2) d2 r
  | .brk _, h => fun v H2 k2 d2 r => h v H2 (kp.trans k2) d2 r
  | .cnt _, h => fun v H2 k2 d2 r => h v H2 (kp.trans k2) d2 r
theorem OuW.less {a b c : Addr} {j k : Nat} {S : List Addr} {H : Hp} {D : Ends} (hj : j ≤ k) : ∀ {o : Ou}, OuW a b c k S H D o → OuW a b c j S H D o
  | .ret _, h => fun v H2 k2 d2 r => h v H2 k2 (d2.mono hj) r
  | .nxt _, h => fun v H2 k2 d2 r => h v H2 k2 (d2.mono hj) r
  | .brk _, h => fun v H2 k2 d2 r => h v H2 k2 (d2.mono hj) r
  | .cnt _, h => fun v H2 k2 d2 r => h v H2 k2 (d2.mono hj) r
theorem sw_pure {o : Ou} (h : Sd t ρ o) : Sw a t ρ 0 (fun x => x = o) := fun b c n S σ H D ha hb al en dk hn q => by
  have g := q o rfl
  refine h S σ H D al en ?_
  cases o with
  | ret d => exact fun v H2 e r => g v H2 (Kp.of e) (dk.exx e) r
  | nxt ρ => exact fun v H2 e r => g v H2 (Kp.of e) (dk.exx e) r
  | brk ρ => exact fun v H2 e r => g v H2 (Kp.of e) (dk.exx e) r
  | cnt ρ => exact fun v H2 e r => g v H2 (Kp.of e) (dk.exx e) r
theorem sw_mono (h : Sw a t ρ m1 P1) (hm : m1 ≤ m) (hp : ∀ o, P1 o → P o) : Sw a t ρ m P := fun b c n S σ H D ha hb al en dk hn q => h b c n S σ H D ha hb al en dk (by omega) fun o p => (q o (hp o p)).less (by omega)
theorem sw_seq (h : Sw a t ρ m1 P1) (h2 : ∀ o, P1 o → (∃ ρ', o = .nxt ρ' ∧ Sw a u ρ' m2 P) ∨ ((∀ ρ', o ≠ .nxt ρ') ∧ P o)) : Sw a (tSeq t u) ρ (m1 + m2) P := fun b c n S σ H D ha hb al en dk hn q => by
  have e : n + m1 + m2 = n + (m1 + m2) := by omega
  refine h b c n S σ H { D with nx := u D } ha hb al en dk (by omega) fun o p => ?_
  rcases h2 o p with ⟨ρ', rfl, h2⟩ | ⟨hne, p2⟩
  · exact fun σ2 H2 k2 d2 en2 => h2 b c (n + m1) S σ2 H2 D ha hb (d2.al k2 al) en2 d2 (by omega) fun o p => by
      rw [e]
      exact (q o p).step k2
  · have g := (q o p2).less (j := n + m1) (by omega)
    cases o with
    | ret d => exact g
    | nxt ρ => exact absurd rfl (hne ρ)
    | brk ρ => exact g
    | cnt ρ => exact g
/-- the plain case: what stands ahead goes on -/
theorem sw_then {Pr : Rho → Prop} (h : Sw a t ρ m1 (fun o => ∃ ρ', o = .nxt ρ' ∧ Pr ρ')) (h2 : ∀ ρ', Pr ρ' → Sw a u ρ' m2 P) : Sw a (tSeq t u) ρ (m1 + m2) P :=
  sw_seq h fun o p => let ⟨ρ', e, p⟩ := p; .inl ⟨ρ', e, h2 ρ' p⟩
theorem sw_asg {i : Nat} (h : Ew a te ρ m Pd) : Sw a (tAsg te (gName i)) ρ m (fun o => ∃ ρ', o = .nxt ρ' ∧ ∃ d, Pd d ∧ ρ' = ρ.set i (.dat d)) := fun b c n S σ H D ha hb al en dk hn q =>
  h b c n S σ H ha hb al en dk hn _ fun v d H2 k2 d2 r p => q _ ⟨_, rfl, d, p, rfl⟩ _ H2 k2 d2 ((en.ex (k2.hid ha hb)).set i (.of r))
theorem sw_asgG {g : TG} {Pr : Rho → Prop} (h : Ew a te ρ m Pd) (hg : ∀ d, Pd d → ∃ ρ' vs, Gd g d ρ ρ' vs ∧ Pr ρ') : Sw a (tAsg te g) ρ m (fun o => ∃ ρ', o = .nxt ρ' ∧ Pr ρ') := fun b c n S σ H D ha hb al en dk hn q =>
  h b c n S σ H ha hb al en dk hn _ fun v d H2 k2 d2 r p => by
    obtain ⟨ρ', vs, gd, pr⟩ := hg d p
    exact gd S σ H2 v (d2.al k2 al) (en.ex (k2.hid ha hb)) r _ fun σ' en' _ => q _ ⟨ρ', rfl, pr⟩ σ' H2 k2 d2 en'
theorem sw_ret (h : Ew a te ρ m Pd) : Sw a (tRet te) ρ m (fun o => ∃ d, o = .ret d ∧ Pd d) := fun b c n S σ H D ha hb al en dk hn q =>
  h b c n S σ H ha hb al en dk hn _ fun v d H2 k2 d2 r p => q _ ⟨d, rfl, p⟩ v H2 k2 d2 r
theorem sw_if {bb : Bool} (h : Et ct ρ bb) (h1 : bb = true → Sw a t ρ m P) (h2 : bb = false → Sw a u ρ m P) : Sw a (tIfS ct t u) ρ m P := fun b c n S σ H D ha hb al en dk hn q => h S σ H al en _ fun H1 e1 => by
  cases bb with
  | true => exact h1 rfl b c n S σ H1 D ha hb (al.ex e1) (en.ex (hid_ex e1)) (dk.exx e1) hn fun o p => (q o p).step (Kp.of e1)
  | false => exact h2 rfl b c n S σ H1 D ha hb (al.ex e1) (en.ex (hid_ex e1)) (dk.exx e1) hn fun o p => (q o p).step (Kp.of e1)
/-- a for whose source is data, by a word of the turn, the slots and the heap (H1: as the source has come) -/
theorem for_w {wi : TI} {g : TG} {tb : TS} {xs : List PD} {S : List Addr} {σ : L2.St} {H : Hp} {D : Ends} (hs : Es wi ρ xs) (al : Al S H) (en : En (hid S H) σ ρ) (S' : List Addr) (Iv : Hp → Nat → L2.St → Hp → Prop)
    (h0 : ∀ H1, Ex H H1 → Iv H1 0 σ H1) (hst : ∀ H1 i σ' H', Ex H H1 → Iv H1 i σ' H' → Al S' H' ∧ Ex (hid S H1) (hid S' H'))
    (step : ∀ H1 i x σ' H' v H3, Ex H H1 → xs[i]? = some x → Iv H1 i σ' H' → Ex H' H3 → Rp (hid S' H3) v x → g v σ' H3 fun σ2 H2 => tb { D with nx := Iv H1 (i + 1), ct := Iv H1 (i + 1), bk := D.nx } σ2 H2)
    (done : ∀ H1 σ' H', Ex H H1 → Iv H1 xs.length σ' H' → D.nx σ' H') : tFor wi g tb D σ H :=
  hs S σ H al en _ fun J H1 e1 wk => by
    refine ⟨fun i k σ' H' => k = xs.length - i ∧ i ≤ xs.length ∧ Iv H1 i σ' H', ⟨_, rfl, Nat.zero_le _, h0 H1 e1⟩, fun i k σ' H' hw => ?_⟩
    obtain ⟨rfl, hi, iv⟩ := hw
    obtain ⟨al2, ex2⟩ := hst H1 i σ' H' e1 iv
    obtain ⟨w1, w2⟩ := wk S' H' ex2 al2
    by_cases hlt : i < xs.length
    · obtain ⟨w3, w4⟩ := w2 i _ (List.getElem?_eq_getElem hlt)
      refine .inr ⟨w3, Iv H1 (i + 1), fun σ2 H2 hn => ⟨_, by omega, rfl, hlt, hn⟩, fun v H3 y => ?_⟩
      obtain ⟨e3, rv⟩ := w4 v H3 y
      exact step H1 i _ σ' H' v H3 e1 (List.getElem?_eq_getElem hlt) iv e3 rv
    · have ei : i = xs.length := by omega
      subst ei
      exact .inl ⟨w1, done H1 σ' H' e1 iv⟩
end
/-! ### defs of the text -/
structure Dfn (K : PySem.W.Frag) (mg : Str → Option Value) (x : Str) (st : Stmt) (ps : List Str) : Prop where
  ex : ∃ f fd, Fun K x x st f fd ∧ mg x = some (.ref f) ∧ Binds K fd ps []
theorem cal_of {P : Program} {w : World} {K : PySem.W.Frag} {mg : Str → Option Value} {base : Heap} {x : Str} {st : Stmt} {N ps : List Str} {k : Nat} {sp : Sp} (F : Dfn K mg x st ps) (S : FnScope N ps (defScope st))
    (len : ∀ vs H Q E, sp vs H Q E → vs.length = ps.length)
    (hb : ∀ (f : Addr) (cdv : Value) (A : Around) (outer : List Env) (s : Shared) (H : Hp) (E : XK), Room k (A.deeper (envOfC x (defScope st) s.heap.objs.size f cdv)) →
      ∃ t, PSs (cxOf CX0 P w K mg base N x (defScope st) f cdv A outer s H E).nox (defBody st) t ∧ ∀ vs Q, sp vs H Q E → t { nx := fun _ H' => Q .non H', rt := Q } (L2.start N vs) H) :
    C8.Cal P w K mg base (k + 1) x sp [] := by
  obtain ⟨f, fd, F, hm, b⟩ := F.ex
  refine ⟨f, fd, ps, [], F.ok S len fun cdv A outer s H vs Q E hr h => ?_, hm, F.kp, b, .nil⟩
  obtain ⟨t, h1, h2⟩ := hb f cdv A outer s H E hr
  exact ⟨t, h1, h2 vs Q h⟩
/-- a drawing def by its reading -/
theorem go_K {t : TS} {m : Nat} {Pre : List PD → Prop} {R : List PD → PD → Prop} {N : List Str} {vs : List V} {H : Hp} {Q : VK} {E : XK} (k : Nat)
    (hN : ∀ ds, Pre ds → N.length = ds.length + 1 + k)
    (h : ∀ a ds, Pre ds → Sw a t (.raw (.ref a) :: (ds.map Sl.dat ++ List.replicate k Sl.un)) m (fun o => ∃ d, o = .ret d ∧ R ds d)) (hs : spK m Pre R vs H Q E) : t { nx := fun _ H' => Q .non H', rt := Q } (L2.start N vs) H := by
  obtain ⟨a, b, c, n, S, ws, ds, rfl, dk, hn, ha, hb, al, ra, hp, q⟩ := hs
  refine h a ds hp b c n S _ H _ ha hb al ?_ dk hn fun o ho => ?_
  · unfold L2.start
    have e : N.length - (V.ref a :: ws).length = k := by rw [List.length_cons, ra.length, hN ds hp]; omega
    rw [e]
    exact en_args (H := hid S H) (rs := .raw (.ref a) :: ds.map Sl.dat) (.cons rfl (SlsOk.ofAll ra))
  · obtain ⟨d, rfl, hr⟩ := ho
    exact fun v H2 k2 d2 r => q v d H2 hr k2 d2 r
/-- a pure def by its reading -/
theorem go_R {t : TS} {R : List PD → PD → Prop} {N : List Str} {vs : List V} {H : Hp} {Q : VK} {E : XK} (k : Nat) (hN : ∀ ds d, R ds d → N.length = ds.length + k)
    (h : ∀ ds d, R ds d → Sd t (ds.map Sl.dat ++ List.replicate k Sl.un) (.ret d)) (hs : spR R vs H Q E) : t { nx := fun _ H' => Q .non H', rt := Q } (L2.start N vs) H := by
  obtain ⟨S, ds, d, al, ra, hr, q⟩ := hs
  refine h ds d hr S _ H _ al ?_ fun v H2 e r => q v H2 e r
  unfold L2.start
  have e : N.length - vs.length = k := by rw [ra.length, hN ds d hr]; omega
  rw [e]
  exact en_args (H := hid S H) (SlsOk.ofAll ra)
theorem go_next {K : PySem.W.Frag} {N : List Str} {vs : List V} {H : Hp} {Q : VK} {E : XK} (hN : N.length = 5) (hs : sp__law_next vs H Q E) : T__law_next K { nx := fun _ H' => Q .non H', rt := Q } (L2.start N vs) H := by
  obtain ⟨a, b, c, n, S, ws, ds, rfl, dk, hn, ha, hb, al, ra, ⟨m, rfl, hm, hm2⟩, q⟩ := hs
  cases ra with
  | cons h t =>
    cases t
    cases h
    unfold L2.start
    rw [hN]
    exact w_next dk hn hm hm2 fun r H2 h0 h1 k2 d2 => q (.int r) (.int r) H2 ⟨m, r, rfl, rfl, h0, h1⟩ k2 d2 (.int r)
/-! ### how many arguments -/
theorem len_R {R : List PD → PD → Prop} {n : Nat} {vs : List V} {H : Hp} {Q : VK} {E : XK} (hl : ∀ ds d, R ds d → ds.length = n) (h : spR R vs H Q E) : vs.length = n := by
  obtain ⟨S, ds, d, _, ra, hr, _⟩ := h
  rw [ra.length, hl ds d hr]
theorem len_K {m n : Nat} {Pre : List PD → Prop} {R : List PD → PD → Prop} {vs : List V} {H : Hp} {Q : VK} {E : XK} (hl : ∀ ds, Pre ds → ds.length + 1 = n) (h : spK m Pre R vs H Q E) : vs.length = n := by
  obtain ⟨a, b, c, k, S, ws, ds, rfl, _, _, _, _, _, ra, hp, _⟩ := h
  rw [List.length_cons, ra.length, hl ds hp]
theorem dfn_mk {K : PySem.W.Frag} {h : Heap} {mg : Str → Option Value} {x : Str} {st : Stmt} {ps : List Str} {f : Addr} {od an : Option Addr} {sl : Array (Option Value)} {oc kV dc pm cd ct : Value} (X : K.In h) (G : h.Ns mainGlobals mg)
    (a1 : PySem.W.nsIn K mainGlobals x = some (some (.ref f))) (l1 : K.lookup f = some ⟨oc, od, .func (PySem.W.fnOf x x (defArgs st) (defBody st) (defScope st) .none kV dc pm an cd ct), sl⟩) (c1 : PySem.W.codeIn K cd x = true) (k1 : PySem.W.keepIn K (.ref f) = true)
    (hb : ∀ (kV doc pm : Value) (an : Option Addr) (cdv ct : Value) (us : List Value), us.length = ps.length → bindArgs (PySem.W.fnOf x x (defArgs st) (defBody st) (defScope st) .none kV doc pm an cdv ct) ⟨us, []⟩ = pure (ps.zip us)) : Dfn K mg x st ps := by
  have F := fun_mk (st := st) l1 c1 k1
  exact ⟨f, _, F, PySem.W.mg_of X G a1, F.binds hb⟩
end Un

/-! ## UnWeb -/
namespace Un
open PySem PySem.Spec PyProof.Rows L2
open Evl (Ex)
/-! ### webs as data -/
structure Road where
  b : Option Nat
  e : Option Nat
  r : Int
structure Web where
  roads : List Road
  gives : List (List Nat)
  takes : List (List Nat)
def optD : Option Nat → PD
  | none => .none
  | some k => .int (k : Nat)
def natD (k : Nat) : PD := .int (k : Nat)
def roadD (r : Road) : PD := .tuple [optD r.b, optD r.e, .int r.r]
def natsD (l : List Nat) : PD := .tuple (l.map natD)
def webD (W : Web) : PD := .tuple [.tuple (W.roads.map roadD), .tuple (W.gives.map natsD), .tuple (W.takes.map natsD)]
/-- the roads that begin at a house, that end there, rising -/
def begins (W : Web) (h : Nat) : List Nat := (List.range W.roads.length).filter fun k => (W.roads[k]?.map Road.b) == some (some h)
def ends (W : Web) (h : Nat) : List Nat := (List.range W.roads.length).filter fun k => (W.roads[k]?.map Road.e) == some (some h)
structure IsWeb (W : Web) (far : Int) : Prop where
  houses : 1 ≤ W.gives.length ∧ W.gives.length ≤ 8
  same : W.takes.length = W.gives.length
  count : 1 ≤ W.roads.length ∧ W.roads.length ≤ 20
  road : ∀ r ∈ W.roads, r.b ≠ r.e ∧ (∀ h, r.b = some h → h < W.gives.length) ∧ (∀ h, r.e = some h → h < W.gives.length) ∧ 0 ≤ r.r ∧ r.r ≤ far
  give : ∀ (h : Nat) (l : List Nat), W.gives[h]? = some l → l.Perm (begins W h)
  take : ∀ (h : Nat) (l : List Nat), W.takes[h]? = some l → l.Perm (ends W h)
/-! ### _law_one -/
def sp__law_one : Sp := spK 1 (fun ds => ∃ xs, ds = [.list xs] ∧ xs ≠ [] ∧ xs.length ≤ 1000) (fun ds d => ∃ xs, ds = [.list xs] ∧ d ∈ xs)
def T__law_one (K : PySem.W.Frag) : TS :=
    tRet (tOp (rIx K) (tVar 1) (tCall sp__law_next [] E0 (tCons (tVar 0) (tCons (tCB (rLenQ K) (tCons (tVar 1) tNil)) tNil))))
section
variable {K : PySem.W.Frag}
theorem go_one {N : List Str} {vs : List V} {H : Hp} {Q : VK} {E : XK} (hN : N.length = 2) (hs : sp__law_one vs H Q E) : T__law_one K { nx := fun _ H' => Q .non H', rt := Q } (L2.start N vs) H := by
  refine go_K 0 (fun ds ⟨xs, e, _⟩ => by subst e; exact hN) (fun a ds hp => ?_) hs
  obtain ⟨xs, rfl, hne, hl⟩ := hp
  have hpos : 0 < xs.length := List.length_pos_iff.mpr hne
  refine sw_mono (sw_ret (ew_op (ew_pure (d_var rfl)) (ew_call rfl (ewa_1 (d_cb (a_cons (d_var rfl) a_nil) rc_lenL)) (fun ds e => ?_) (P := fun d => ∃ r : Nat, d = .int (r : Nat) ∧ r < xs.length) (fun ds d e hr => ?_)) (P := fun d => d ∈ xs) (fun x y hx hy => ?_))) (by decide) (fun o ⟨d, e, hd⟩ => ⟨d, e, xs, rfl, hd⟩)
  · exact ⟨(xs.length : Int), e, by omega, by omega⟩
  · obtain ⟨m, r, e1, e2, h0, h1⟩ := hr
    subst e
    have em : m = (xs.length : Int) := by
      have z := List.cons.inj e1
      exact (PyData.int.inj z.1).symm
    exact ⟨r.toNat, by rw [e2]; congr 1; omega, by omega⟩
  · obtain ⟨r, rfl, hr⟩ := hy
    subst hx
    refine ⟨xs[r], ro_sqL (atI_nat (List.getElem?_eq_getElem hr)), List.getElem_mem hr⟩
/-! ### _law_room -/
def sp__law_room : Sp := spK 4 (fun ds => ∃ f : Bool, ds = [.bool f]) (fun ds d => ∃ r : Int, d = .int r ∧ 0 ≤ r ∧ r ≤ 1000000000000 ∧ (ds = [.bool false] → r ≤ 5))
def T__law_room (K : PySem.W.Frag) : TS :=
    tSeq (tAsg (tCall sp__law_one [] E0 (tCons (tVar 0) (tCons (tLst (tCons (tC (.int 0)) (tCons (tC (.int 1)) (tCons (tC (.int 1)) (tCons (tC (.int 2)) (tCons (tC (.int 3)) (tCons (tC (.int 5)) tNil))))))) tNil))) (gName 2))
    (tSeq (tAsg (tCall sp__law_one [] E0 (tCons (tVar 0) (tCons (tLst (tCons (tC (.int 1)) (tCons (tC (.int 2)) (tCons (tOp oPow (tC (.int 10)) (tC (.int 12))) (tCons (tOp oSub (tOp oPow (tC (.int 10)) (tC (.int 12))) (tCall sp__law_next [] E0 (tCons (tVar 0) (tCons (tC (.int 3)) tNil)))) (tCons (tCall sp__law_next [] E0 (tCons (tVar 0) (tCons (tOp oPow (tC (.int 10)) (tC (.int 12))) tNil))) tNil)))))) tNil))) (gName 3))
    (tRet (tOp (rIx K) (tLst (tCons (tVar 2) (tCons (tVar 3) tNil))) (tCB rIntQ (tCons (tVar 1) tNil)))))
theorem rc_intB {b : Bool} : Rc rIntQ [.dat (.bool b)] (.dat (.int (if b then 1 else 0))) := fun S H vs al rv Q q => by
  cases rv with
  | cons h t =>
    cases t
    cases h.val
    exact .inr ⟨b, rfl, q _ H (Ex.refl H) (.of (.int _))⟩
theorem d_1e12 {ρ : Rho} : Ed (tOp oPow (tC (.int 10)) (tC (.int 12))) ρ (.dat (.int 1000000000000)) := d_is (d_op d_int d_int (ro_IC ⟨by decide, by decide, by decide⟩)) rfl
theorem go_room {N : List Str} {vs : List V} {H : Hp} {Q : VK} {E : XK} (hN : N.length = 4) (hs : sp__law_room vs H Q E) : T__law_room K { nx := fun _ H' => Q .non H', rt := Q } (L2.start N vs) H := by
  refine go_K 2 (fun ds ⟨f, e⟩ => by subst e; exact hN) (fun a ds hp => ?_) hs
  obtain ⟨f, rfl⟩ := hp
  refine sw_mono (sw_then (sw_asg (ew_call rfl (ewa_1 (d_lst (ds := [.int 0, .int 1, .int 1, .int 2, .int 3, .int 5]) (a_cons d_int (a_cons d_int (a_cons d_int (a_cons d_int (a_cons d_int (a_cons d_int a_nil)))))) (by decide))) (fun ds e => ⟨_, e, by simp, by simp⟩) (P := fun d => ∃ r : Int, d = .int r ∧ 0 ≤ r ∧ r ≤ 5) ?h1)) ?h2) (m1 := 1 + 3) (by decide) (fun o h => h)
  case h1 =>
    intro ds d e hr
    subst e
    obtain ⟨xs, e1, hd⟩ := hr
    have ex := (PyData.list.inj (List.cons.inj e1).1).symm
    subst ex
    simp at hd
    rcases hd with h | h | h | h | h <;> (subst h; exact ⟨_, rfl, by decide, by decide⟩)
  case h2 =>
    rintro ρ' ⟨d, ⟨r, rfl, h0, h5⟩, rfl⟩
    refine sw_mono (sw_then (sw_asg (ew_call rfl (ewa_cons (ew_lst (ewa_cons (ew_pure d_int) (ewa_cons (ew_pure d_int) (ewa_cons (ew_pure d_1e12) (ewa_cons
      (ew_op (ew_pure d_1e12) (ew_call rfl (ewa_1 d_int) (fun ds e => ⟨3, e, by decide, by decide⟩) (P := fun d => ∃ r : Int, d = .int r ∧ 0 ≤ r ∧ r < 3) ?h3) (P := fun d => ∃ r : Int, d = .int r ∧ 0 ≤ r ∧ r ≤ 1000000000000) ?h4)
      (ewa_cons (ew_call rfl (ewa_1 d_1e12) (fun ds e => ⟨1000000000000, e, by decide, by decide⟩) (P := fun d => ∃ r : Int, d = .int r ∧ 0 ≤ r ∧ r ≤ 1000000000000) ?h5) ewa_nil))))) ?h6) ewa_nil) ?h7 (P := fun d => ∃ r : Int, d = .int r ∧ 0 ≤ r ∧ r ≤ 1000000000000) ?h8)) ?h9) (m1 := 3 + 0) (by decide) (fun o h => h)
    case h3 =>
      intro ds d e hr
      subst e
      obtain ⟨m, q, e1, e2, x0, x1⟩ := hr
      have em := PyData.int.inj (List.cons.inj e1).1
      exact ⟨q, e2, x0, by omega⟩
    case h4 =>
      rintro x y rfl ⟨q, rfl, x0, x1⟩
      exact ⟨_, ro_Ii, _, rfl, by omega, by omega⟩
    case h5 =>
      intro ds d e hr
      subst e
      obtain ⟨m, q, e1, e2, x0, x1⟩ := hr
      have em := PyData.int.inj (List.cons.inj e1).1
      exact ⟨q, e2, x0, by omega⟩
    case h6 =>
      rintro ds ⟨d1, r1, rfl, _, d2, r2, rfl, _, d3, r3, rfl, _, d4, r4, rfl, _, d5, r5, rfl, _, rfl⟩
      simp
    case h7 =>
      rintro ds ⟨d, r, rfl, ⟨xs, rfl, d1, r1, rfl, _, d2, r2, rfl, _, d3, r3, rfl, _, d4, r4, rfl, _, d5, r5, rfl, _, rfl⟩, rfl⟩
      exact ⟨_, rfl, by simp, by simp⟩
    case h8 =>
      rintro ds d ⟨z, w, rfl, ⟨xs, rfl, d1, r1, rfl, rfl, d2, r2, rfl, rfl, d3, r3, rfl, rfl, d4, r4, rfl, p4, d5, r5, rfl, p5, rfl⟩, rfl⟩ ⟨ys, e1, hd⟩
      have ex := (PyData.list.inj (List.cons.inj e1).1).symm
      subst ex
      simp at hd
      rcases hd with h | h | h | h | h
      · subst h; exact ⟨_, rfl, by decide, by decide⟩
      · subst h; exact ⟨_, rfl, by decide, by decide⟩
      · subst h; exact ⟨_, rfl, by decide, by decide⟩
      · subst h; exact p4
      · subst h; exact p5
    case h9 =>
      rintro ρ' ⟨d, ⟨s, rfl, s0, s5⟩, rfl⟩
      refine sw_mono (sw_ret (ew_pure (d_op (d_lst (ds := [.int r, .int s]) (a_cons (d_var rfl) (a_cons (d_var rfl) a_nil)) (by simp)) (d_cb (a_cons (d_var rfl) a_nil) rc_intB) (ro_sqL (d := if f then .int s else .int r) ?_)))) (by decide) ?_
      · cases f <;> rfl
      · rintro o ⟨d, rfl, rfl⟩
        refine ⟨_, rfl, ?_⟩
        cases f
        · exact ⟨r, rfl, h0, by omega, fun _ => h5⟩
        · exact ⟨s, rfl, s0, s5, fun e => by simp at e⟩
end
end Un

/-! ## UnWeb2 -/
namespace Un
open PySem PySem.Spec PyProof.Rows L2
open Evl (Ex)
theorem t_yes {ρ : Rho} : Et tYes ρ true := fun S σ H al en Q q => q H (Ex.refl H)
section
variable {K : PySem.W.Frag}
/-! ### _law_order -/
def sp__law_order : Sp := spK 40 (fun ds => ∃ xs, ds = [.list xs] ∧ xs.length ≤ 40) (fun ds d => ∃ xs ys, ds = [.list xs] ∧ d = .tuple ys ∧ ys.Perm xs)
def T__law_order (K : PySem.W.Frag) : TS :=
    tSeq (tAsg (tLst tNil) (gName 2))
    (tSeq (tFor (iList K (tVar 1)) (gName 3) (tDrop (tBM K "list" rInsQ (tVar 2) (tCons (tCall sp__law_next [] E0 (tCons (tVar 0) (tCons (tOp oAdd (tCB (rLenQ K) (tCons (tVar 2) tNil)) (tC (.int 1))) tNil))) (tCons (tVar 3) tNil)))))
    (tRet (tCB (rTupQ K) (tCons (tVar 2) tNil))))
theorem RpAll.ins {H : Hp} {vs : List V} {ds : List PD} {v : V} {d : PD} (r : RpAll H vs ds) (h : Rp H v d) (k : Nat) : RpAll H (vs.take k ++ [v] ++ vs.drop k) (ds.take k ++ [d] ++ ds.drop k) := by
  have tk : ∀ {vs : List V} {ds : List PD} (k : Nat), RpAll H vs ds → RpAll H (vs.take k) (ds.take k) := by
    intro vs ds k
    induction k generalizing vs ds with
    | zero => intro _; exact .nil
    | succ k ih =>
      intro r
      cases r with
      | nil => exact .nil
      | cons a b => exact .cons a (ih b)
  have dp : ∀ {vs : List V} {ds : List PD} (k : Nat), RpAll H vs ds → RpAll H (vs.drop k) (ds.drop k) := by
    intro vs ds k
    induction k generalizing vs ds with
    | zero => intro r; exact r
    | succ k ih =>
      intro r
      cases r with
      | nil => exact .nil
      | cons a b => exact ih b
  exact ((tk k r).append (.cons h .nil)).append (dp k r)
theorem go_order {N : List Str} {vs : List V} {H : Hp} {Q : VK} {E : XK} (hN : N.length = 4) (hs : sp__law_order vs H Q E) : T__law_order K { nx := fun _ H' => Q .non H', rt := Q } (L2.start N vs) H := by
  refine go_K 2 (fun ds ⟨f, e, _⟩ => by subst e; exact hN) (fun a ds hp => ?_) hs
  obtain ⟨xs, rfl, hl⟩ := hp
  intro b c n S σ H D ha hb al en dk hn q
  -- found = []
  refine ⟨Nat.zero_le _, fun l hl0 => ?_⟩
  have enl : En (hid (l :: S) (upd H l (.lst []))) (σ.set 2 (some (.ref l))) [.raw (.ref a), .dat (.list xs), .raw (.ref l), .un] :=
    (en.ex (hid_cons (Ex.new hl0) hl0)).set 2 (r := .raw (.ref l)) rfl
  have all : Al (l :: S) (upd H l (.lst [])) := (al.ex (Ex.new hl0)).cons (by rw [upd_same]; exact fun z => nomatch z)
  obtain ⟨_, _, _, hA, hB, hC, _⟩ := dk.ex
  have nla : l ≠ a := (ne_of_none hA hl0).symm
  have nlb : l ≠ b := (ne_of_none hB hl0).symm
  have nlc : l ≠ c := (ne_of_none hC hl0).symm
  refine for_w (S := l :: S) (es_list (d_var rfl)) all enl (l :: S) (fun H1 i σ' H' => ∃ vs ys, En (hid (l :: S) H') σ' [.raw (.ref a), .dat (.list xs), .raw (.ref l), .un] ∧ Kp a b H H' ∧ Dk a b c (n + i) H' ∧ Al (l :: S) H' ∧ H' l = some (.lst vs) ∧ RpAll (hid (l :: S) H') vs ys ∧ ys.Perm (xs.take i) ∧ i ≤ xs.length ∧ Ex (hid (l :: S) H1) (hid (l :: S) H'))
    (fun H1 e1 => ?_) (fun H1 i σ' H' e1 hv => ?_) (fun H1 i x σ' H' v H3 e1 hx hv e3 rv => ?_) (fun H1 σ' H' e1 hv => ?_)
  · exact ⟨[], [], enl.ex (hid_ex e1), (Kp.of ((Ex.new hl0).trans e1)), (dk.exx ((Ex.new hl0).trans e1)), all.ex e1, e1 _ _ upd_same, .nil, by simp, Nat.zero_le _, Ex.refl _⟩
  · obtain ⟨vs, ys, _, _, _, al2, _, _, _, _, ee⟩ := hv
    exact ⟨al2, ee⟩
  · obtain ⟨vs, ys, en2, kp2, dk2, al2, hl2, ra2, pm, hi, ee⟩ := hv
    have hi2 : i < xs.length := (List.getElem?_eq_some_iff.mp hx).1
    have en3 : En (hid (l :: S) H3) (σ'.set 3 (some v)) [.raw (.ref a), .dat (.list xs), .raw (.ref l), .dat x] := (en2.ex (hid_ex e3)).set 3 (.of rv)
    have dk3 := dk2.exx e3
    have al3 := al2.ex e3
    have hl3 := e3 _ _ hl2
    have ly : ys.length ≤ 40 := by
      rw [pm.length_eq, List.length_take]
      omega
    refine ⟨.ref l, en3.raw (i := 2) rfl, .inl ⟨rfl, vs, .inl (.inl hl3)⟩, .ref a, en3.raw (i := 0) rfl, .ref l, en3.raw (i := 2) rfl, l, vs, rfl, .inl (.inl (.inl hl3)), vs.length, 1, rfl, rfl, ?_⟩
    refine ⟨a, b, c, n + i, l :: S, [.int ((vs.length : Int) + 1)], [.int ((vs.length : Int) + 1)], rfl, dk3, by omega, List.mem_cons_of_mem _ ha, List.mem_cons_of_mem _ hb, al3, .cons (.int _) .nil, ⟨_, rfl, by omega, by rw [ra2.length]; omega⟩, fun w d H4 hr k4 d4 rw4 => ?_⟩
    obtain ⟨m, r, e1', e2', h0, h1⟩ := hr
    have em := PyData.int.inj (List.cons.inj e1').1
    subst e2'
    cases rw4
    obtain ⟨v', hv', rv'⟩ := (en3.ex (k4.hid (List.mem_cons_of_mem _ ha) (List.mem_cons_of_mem _ hb))).dat (i := 3) rfl
    have hl4 : H4 l = some (.lst vs) := k4 l _ nla nlb hl3
    refine ⟨v', hv', l, vs, r, v', rfl, rfl, hl4, by rw [ra2.length]; exact Evl.sz_lt (by omega), h0, by rw [ra2.length] at em; omega, ?_⟩
    have hu : Ex (hid (l :: S) H4) (hid (l :: S) (upd H4 l (.lst (vs.take r.toNat ++ [v'] ++ vs.drop r.toNat)))) := fun x o h => by
      obtain ⟨c, h⟩ := hid_some h
      rw [hid_out c, upd_ne (fun z => c (by rw [z]; exact List.mem_cons_self ..))]
      exact h
    have kh := k4.hid (S := l :: S) (List.mem_cons_of_mem _ ha) (List.mem_cons_of_mem _ hb)
    have en4 : En (hid (l :: S) (upd H4 l (.lst (vs.take r.toNat ++ [v'] ++ vs.drop r.toNat)))) (σ'.set 3 (some v)) [.raw (.ref a), .dat (.list xs), .raw (.ref l), .un] := by
      have z := ((en2.ex (hid_ex e3)).ex (kh.trans hu)).set 3 (o := some v) (r := .un) trivial
      exact z
    refine ⟨_, ys.take r.toNat ++ [x] ++ ys.drop r.toNat, en4, ?_, ?_, ?_, upd_same, (RpAll.ins (ra2.ex ((hid_ex e3).trans kh)) rv' r.toNat).ex hu, ?_, hi2, ((ee.trans (hid_ex e3)).trans kh).trans hu⟩
    · exact fun y o y1 y2 hy => by
        have z := k4 y o y1 y2 (e3 _ _ (kp2 y o y1 y2 hy))
        rw [upd_ne (ne_of_none hy hl0)]
        exact z
    · exact (d4.upd nla nlb nlc)
    · intro y hy
      by_cases cy : y = l
      · subst cy
        rw [upd_same]
        exact fun q => nomatch q
      · rw [upd_ne cy]
        exact (d4.al k4 al3) y hy
    · have tk : xs.take (i + 1) = xs.take i ++ [x] := by
        rw [List.take_add_one, hx]
        rfl
      rw [tk]
      have p1 : (ys.take r.toNat ++ [x] ++ ys.drop r.toNat).Perm (x :: (ys.take r.toNat ++ ys.drop r.toNat)) := by
        rw [List.append_assoc]
        exact List.perm_middle
      rw [List.take_append_drop] at p1
      refine p1.trans ((List.Perm.cons x pm).trans ?_)
      exact (List.perm_append_singleton x (xs.take i)).symm
  · obtain ⟨vs, ys, en2, kp2, dk2, al2, hl2, ra2, pm, hi, ee⟩ := hv
    rw [List.take_length] at pm
    refine ⟨.ref l, en2.raw (i := 2) rfl, l, vs, rfl, .inl ⟨.inl (.inl hl2), fun p hp => ?_⟩⟩
    refine q (.ret (.tuple ys)) ⟨_, rfl, xs, ys, rfl, rfl, pm⟩ _ _ (kp2.trans (Kp.of (Ex.new hp))) ((dk2.mono (by omega)).exx (Ex.new hp)) ?_
    have np : p ∉ S := fun z => al2 p (List.mem_cons_of_mem _ z) hp
    refine .tup (xs := vs) (by rw [hid_out np, upd_same]) ?_
    exact (ra2.ex hid_uncons).ex (hid_ex (Ex.new hp))
/-! ### _law_road -/
def endD (n : Int) : PD := if 0 < n then .int (n - 1) else .none
def endOf (n : Int) : Option Nat := if 0 < n then some (n - 1).toNat else none
theorem endD_of (n : Int) : endD n = optD (endOf n) := by
  unfold endD endOf
  by_cases h : 0 < n
  · rw [if_pos h, if_pos h]
    show PyData.int (n - 1) = PyData.int _
    congr 1
    omega
  · rw [if_neg h, if_neg h]
    rfl
def sp__law_road : Sp := spK 6 (fun ds => ∃ (h : Nat) (f : Bool), ds = [natD h, .bool f] ∧ 1 ≤ h ∧ h ≤ 1000)
  (fun ds d => ∃ (h : Nat) (f : Bool) (r : Road), ds = [natD h, .bool f] ∧ d = roadD r ∧ r.b ≠ r.e ∧ (∀ k, r.b = some k → k < h) ∧ (∀ k, r.e = some k → k < h) ∧ 0 ≤ r.r ∧ r.r ≤ 1000000000000 ∧ (f = false → r.r ≤ 5))
def T__law_road (K : PySem.W.Frag) : TS :=
    tSeq (tAsg (tCall sp__law_next [] E0 (tCons (tVar 0) (tCons (tOp oAdd (tVar 1) (tC (.int 1))) tNil))) (gName 3))
    (tSeq (tAsg (tOp oMod (tOp oAdd (tOp oAdd (tVar 3) (tC (.int 1))) (tCall sp__law_next [] E0 (tCons (tVar 0) (tCons (tVar 1) tNil)))) (tOp oAdd (tVar 1) (tC (.int 1)))) (gName 4))
    (tSeq (tAsg (tLc (iTup K (tTup (tCons (tVar 3) (tCons (tVar 4) tNil)))) (gName 7) tYes (tOp (rIx K) (tLst (tCons (tC .non) (tCons (tOp oSub (tVar 7) (tC (.int 1))) tNil))) (tCB rIntQ (tCons (tOp oGt (tVar 7) (tC (.int 0))) tNil))) [7]) (gUnl K 2 (gCons (gName 5) (gCons (gName 6) gNil))))
    (tRet (tTup (tCons (tVar 5) (tCons (tVar 6) (tCons (tCall sp__law_room [] E0 (tCons (tVar 0) (tCons (tVar 2) tNil))) tNil)))))))
def endW : PD → PD
  | .int n => endD n
  | d => d
theorem rho0_of {ρ : Rho} {j : Nat} (h : ρ[j]? = some .un) : rho0 ρ [j] := fun v hv r hr => by
  have e : v = j := by simpa using hv
  subst e
  rw [h] at hr
  cases hr
  rfl
theorem go_road {N : List Str} {vs : List V} {H : Hp} {Q : VK} {E : XK} (hN : N.length = 8) (hs : sp__law_road vs H Q E) : T__law_road K { nx := fun _ H' => Q .non H', rt := Q } (L2.start N vs) H := by
  refine go_K 5 (fun ds ⟨h, f, e, _⟩ => by subst e; exact hN) (fun a ds hp => ?_) hs
  obtain ⟨h, f, rfl, h1, h2⟩ := hp
  refine sw_mono (sw_then (sw_asg (ew_call rfl (ewa_1 (d_op (d_var rfl) d_int ro_Ii)) (fun ds e => ⟨_, e, by omega, by omega⟩) (P := fun d => ∃ r : Int, d = .int r ∧ 0 ≤ r ∧ r ≤ h) ?c1)) ?c2) (m1 := 1 + 5) (by decide) (fun o h => h)
  case c1 =>
    intro ds d e hr
    subst e
    obtain ⟨m, q, e1, e2, x0, x1⟩ := hr
    have em := PyData.int.inj (List.cons.inj e1).1
    exact ⟨q, e2, x0, by omega⟩
  case c2 =>
    rintro ρ' ⟨d, ⟨x, rfl, x0, x1⟩, rfl⟩
    refine sw_mono (sw_then (sw_asg (ew_op (ew_op (ew_pure (d_op (d_var rfl) d_int ro_Ii)) (ew_call rfl (ewa_1 (d_var rfl)) (fun ds e => ⟨(h : Int), e, by omega, by omega⟩) (P := fun d => ∃ r : Int, d = .int r ∧ 0 ≤ r ∧ r < h) ?c3) (P := fun d => ∃ r : Int, d = .int (x + 1 + r) ∧ 0 ≤ r ∧ r < h) ?c4) (ew_pure (d_op (d_var rfl) d_int ro_Ii)) (P := fun d => ∃ r : Int, d = .int ((x + 1 + r) % (h + 1)) ∧ 0 ≤ r ∧ r < h) ?c5)) ?c6) (m1 := 1 + 4) (by decide) (fun o h => h)
    case c3 =>
      intro ds d e hr
      subst e
      obtain ⟨m, q, e1, e2, y0, y1⟩ := hr
      have em := PyData.int.inj (List.cons.inj e1).1
      exact ⟨q, e2, y0, by omega⟩
    case c4 =>
      rintro u w rfl ⟨q, rfl, y0, y1⟩
      exact ⟨_, ro_Ii, q, rfl, y0, y1⟩
    case c5 =>
      rintro u w ⟨q, rfl, y0, y1⟩ rfl
      exact ⟨_, ro_IC (show (0 : Int) < (h : Int) + 1 by omega), q, rfl, y0, y1⟩
    case c6 =>
      rintro ρ' ⟨d, ⟨r, rfl, r0, r1⟩, rfl⟩
      obtain ⟨y, hy⟩ : ∃ y, y = (x + 1 + r) % ((h : Int) + 1) := ⟨_, rfl⟩
      rw [← hy]
      have y0 : 0 ≤ y := by rw [hy]; exact Int.emod_nonneg _ (by omega)
      have y1 : y ≤ h := by
        have := Int.emod_lt_of_pos (x + 1 + r) (show (0 : Int) < (h : Int) + 1 by omega)
        omega
      have yx : y ≠ x := by
        intro e
        rw [hy] at e
        by_cases c : x + 1 + r < (h : Int) + 1
        · rw [Int.emod_eq_of_lt (by omega) c] at e
          omega
        · have e2 : (x + 1 + r) % ((h : Int) + 1) = x + 1 + r - ((h : Int) + 1) := by
            rw [← Int.sub_emod_right, Int.emod_eq_of_lt (by omega) (by omega)]
          rw [e2] at e
          omega
      have el : ∀ z : Int, Ed (tOp (rIx K) (tLst (tCons (tC .non) (tCons (tOp oSub (tVar 7) (tC (.int 1))) tNil))) (tCB rIntQ (tCons (tOp oGt (tVar 7) (tC (.int 0))) tNil))) [.raw (.ref a), .dat (natD h), .dat (.bool f), .dat (.int x), .dat (.int y), .un, .un, .dat (.int z)] (.dat (endD z)) := fun z => by
        refine d_op (d_lst (ds := [.none, .int (z - 1)]) (a_cons d_non (a_cons (d_op (d_var rfl) d_int ro_Ii) a_nil)) (by simp)) (d_cb (a_cons (d_op (d_var rfl) d_int ro_Ib) a_nil) rc_intB) (ro_sqL ?_)
        unfold endD
        by_cases c : 0 < z
        · rw [decide_eq_true c, if_pos c]
          rfl
        · rw [decide_eq_false c, if_neg c]
          rfl
      refine sw_mono (sw_then (sw_asgG (Pr := fun ρ' => ρ' = [.raw (.ref a), .dat (natD h), .dat (.bool f), .dat (.int x), .dat (.int y), .dat (endD x), .dat (endD y), .un]) (ew_pure (d_lc (fun _ => true) endW (es_tup (d_tup (ds := [.int x, .int y]) (a_cons (d_var rfl) (a_cons (d_var rfl) a_nil)) (by simp))) (rho0_of rfl) (by simp) ?c7)) ?c8) ?c9) (m1 := 0 + 4) (by decide) (fun o h => h)
      case c7 =>
        intro z hz
        simp at hz
        rcases hz with e | e <;> (subst e; exact ⟨_, _, g_name, fun i hi => hi, t_yes, fun _ => el _⟩)
      case c8 =>
        rintro d rfl
        exact ⟨_, _, g_unl (g_cons g_name (g_cons g_name g_nil)) rfl, rfl⟩
      case c9 =>
        rintro ρ' rfl
        refine sw_mono (sw_ret (ew_tup (ewa_cons (ew_pure (d_var rfl)) (ewa_cons (ew_pure (d_var rfl)) (ewa_cons (ew_call rfl (ewa_1 (d_var rfl)) (fun ds e => ⟨f, e⟩) (P := fun d => ∃ r : Int, d = .int r ∧ 0 ≤ r ∧ r ≤ 1000000000000 ∧ (f = false → r ≤ 5)) ?c10) ewa_nil))) ?c11)) (m1 := 4) (by decide) ?c12
        case c10 =>
          intro ds d e hr
          subst e
          obtain ⟨q, e2, z0, z1, z2⟩ := hr
          exact ⟨q, e2, z0, z1, fun e => z2 (by rw [e])⟩
        case c11 =>
          rintro ds ⟨d1, r1, rfl, _, d2, r2, rfl, _, d3, r3, rfl, _, rfl⟩
          simp
        case c12 =>
          rintro o ⟨d, rfl, ds, rfl, d1, r1, rfl, rfl, d2, r2, rfl, rfl, d3, r3, rfl, ⟨q, rfl, z0, z1, z2⟩, rfl⟩
          refine ⟨_, rfl, h, f, ⟨endOf x, endOf y, q⟩, rfl, ?_, ?_, ?_, ?_, z0, z1, z2⟩
          · rw [endD_of, endD_of]
            rfl
          · show endOf x ≠ endOf y
            unfold endOf
            by_cases cx : 0 < x <;> by_cases cy : 0 < y
            · rw [if_pos cx, if_pos cy]
              intro e
              have := Option.some.inj e
              omega
            · rw [if_pos cx, if_neg cy]
              exact fun e => nomatch e
            · rw [if_neg cx, if_pos cy]
              exact fun e => nomatch e
            · omega
          · intro k hk
            change endOf x = some k at hk
            unfold endOf at hk
            by_cases cx : 0 < x
            · rw [if_pos cx] at hk
              have := Option.some.inj hk
              omega
            · rw [if_neg cx] at hk
              cases hk
          · intro k hk
            change endOf y = some k at hk
            unfold endOf at hk
            by_cases cx : 0 < y
            · rw [if_pos cx] at hk
              have := Option.some.inj hk
              omega
            · rw [if_neg cx] at hk
              cases hk
end
end Un

/-! ## UnWeb3 -/
namespace Un
open PySem PySem.Spec PyProof.Rows L2
open Evl (Ex)
section
variable {K : PySem.W.Frag}
/-- [e for k in range(n)], both drawn -/
theorem ew_lcR {a : Addr} {ta : TA} {te : TE} {ρ : Rho} {j m1 m2 B : Nat} {P : PD → Prop} {Pk : Nat → Prop} (h1 : Ewa a ta ρ m1 (fun ds => ∃ k : Nat, ds = [natD k] ∧ k ≤ B ∧ Pk k)) (hB : B ≤ 1000)
    (h2 : ∀ i : Nat, Ew a te (ρ.set j (.dat (natD i))) m2 P) (h0 : ρ[j]? = some .un) :
    Ew a (tLc (iRng1 ta) (gName j) tYes te [j]) ρ (m1 + B * m2) (fun d => ∃ ds, d = .list ds ∧ Pk ds.length ∧ ds.length ≤ B ∧ ∀ x ∈ ds, P x) := fun b c n S σ H ha hb al en dk hn Q q =>
  h1 b c n S σ H ha hb al en dk (by omega) _ fun vs ds H1 k1 d1 r1 p1 => by
    obtain ⟨k, rfl, hk, pk⟩ := p1
    cases r1 with
    | cons hv t =>
      cases t
      cases hv
      refine ⟨(k : Int), rfl, by omega, by omega, fun D hD => ?_⟩
      have ek : ((k : Nat) : Int).toNat = k := by omega
      rw [ek]
      have al1 := d1.al k1 al
      obtain ⟨_, _, _, hA, hBb, hC, _⟩ := d1.ex
      have nDa : D ≠ a := (ne_of_none hA hD).symm
      have nDb : D ≠ b := (ne_of_none hBb hD).symm
      have nDc : D ≠ c := (ne_of_none hC hD).symm
      have h00 := rho0_of h0
      refine lc_range (lo := 0) (n := k) (fun i H' => ∃ acc ds, Kp a b H1 H' ∧ Dk a b c (n + m1 + i * m2) H' ∧ Al (D :: S) H' ∧ i ≤ k ∧ H' D = some (.lst acc) ∧ RpAll (hid (D :: S) H') acc ds ∧ ds.length = i ∧ ∀ x ∈ ds, P x) ?_ ?_ ?_
      · exact ⟨[], [], Kp.of (Ex.new hD), by simpa using d1.exx (Ex.new hD), (al1.ex (Ex.new hD)).cons (by rw [upd_same]; exact fun z => nomatch z), Nat.zero_le _, upd_same, .nil, rfl, fun x hx => nomatch hx⟩
      · rintro i H' hi ⟨acc, ds, k2, d2, al2, _, hacc, ra, hl, hP⟩
        have e0 : (0 : Int) + (i : Int) = (i : Int) := Int.zero_add _
        show wipe ((wipe σ [j]).set j (some (.int ((0 : Int) + (i : Int))))) [j] = wipe σ [j] ∧ tYes ((wipe σ [j]).set j (some (.int ((0 : Int) + (i : Int))))) H' _
        rw [e0]
        have eh : Ex (hid S H1) (hid (D :: S) H') := fun x o hx => by
          obtain ⟨cc, hx⟩ := hid_some hx
          have nx : x ∉ D :: S := fun z => by
            rcases List.mem_cons.mp z with z | z
            · subst z; rw [hD] at hx; cases hx
            · exact cc z
          rw [hid_out nx]
          exact k2 x o (fun z => cc (z ▸ ha)) (fun z => cc (z ▸ hb)) hx
        have enw : En (hid (D :: S) H') (wipe σ [j]) ρ := wipe_en (en.ex ((k1.hid ha hb).trans eh)) h00
        have eni := enw.set j (r := .dat (natD i)) (o := some (.int (i : Int))) (.of (.int _))
        refine ⟨?_, ?_⟩
        · refine wipe_eq (by rw [List.length_set]; exact wipe_length σ [j]) fun x hx => ?_
          rw [List.getElem?_set_ne (fun z => hx (by rw [z]; exact List.mem_cons_self ..)), wipe_get hx]
        · have hB2 : i * m2 + m2 ≤ B * m2 := by
            have z : (i + 1) * m2 ≤ B * m2 := Nat.mul_le_mul_right _ (by omega)
            rw [Nat.add_mul, Nat.one_mul] at z
            exact z
          refine h2 i b c (n + m1 + i * m2) (D :: S) _ H' (List.mem_cons_of_mem _ ha) (List.mem_cons_of_mem _ hb) al2 eni d2 (by omega) _ fun v d H2 k3 d3 rv pv => ?_
          have hacc2 : H2 D = some (.lst acc) := k3 D _ nDa nDb hacc
          have hu : Ex (hid (D :: S) H2) (hid (D :: S) (upd H2 D (.lst (acc ++ [v])))) := fun x o hx => by
            obtain ⟨cc, hx⟩ := hid_some hx
            rw [hid_out cc, upd_ne (fun z => cc (by rw [z]; exact List.mem_cons_self ..))]
            exact hx
          refine ⟨acc, hacc2, Evl.sz_lt (by rw [ra.length]; omega), acc ++ [v], ds ++ [d], ?_, ?_, ?_, hi, upd_same, ?_, by rw [List.length_append, hl]; rfl, ?_⟩
          · exact fun x o x1 x2 hx => by
              rw [upd_ne (ne_of_none hx hD)]
              exact k3 x o x1 x2 (k2 x o x1 x2 hx)
          · have e : n + m1 + i * m2 + m2 = n + m1 + (i + 1) * m2 := by rw [Nat.add_mul, Nat.one_mul]; omega
            rw [← e]
            exact d3.upd nDa nDb nDc
          · intro x hx
            by_cases cx : x = D
            · subst cx
              rw [upd_same]
              exact fun z => nomatch z
            · rw [upd_ne cx]
              exact (d3.al k3 al2) x hx
          · exact RpAll.append (ra.ex ((k3.hid (List.mem_cons_of_mem _ ha) (List.mem_cons_of_mem _ hb)).trans hu)) (.cons (rv.ex hu) .nil)
          · intro x hx
            rcases List.mem_append.mp hx with z | z
            · exact hP x z
            · have e : x = d := by simpa using z
              subst e
              exact pv
      · rintro H' ⟨acc, ds, k2, d2, al2, _, hacc, ra, hl, hP⟩
        have hB2 : k * m2 ≤ B * m2 := Nat.mul_le_mul_right _ hk
        refine q _ (.list ds) H' (k1.trans k2) (d2.mono (by omega)) (.lst (xs := acc) (by rw [hid_out (al1.new hD)]; exact hacc) (ra.ex hid_uncons)) ⟨ds, rfl, by rw [hl]; exact pk, by omega, hP⟩
/-! ### _law_web -/
def sp__law_web : Sp := spK 2000 (fun ds => ∃ (h r : Nat) (f : Bool), ds = [natD h, natD r, .bool f] ∧ 1 ≤ h ∧ h ≤ 8 ∧ 1 ≤ r ∧ r ≤ 20)
  (fun ds d => ∃ (h r : Nat) (f : Bool) (W : Web), ds = [natD h, natD r, .bool f] ∧ d = webD W ∧ IsWeb W 1000000000000 ∧ W.gives.length ≤ h ∧ W.roads.length ≤ r ∧ (f = false → ∀ x ∈ W.roads, x.r ≤ 5))
def T__law_web (K : PySem.W.Frag) : TS :=
    tSeq (tAsg (tOp oAdd (tC (.int 1)) (tCall sp__law_next [] E0 (tCons (tVar 0) (tCons (tVar 1) tNil)))) (gName 4))
    (tSeq (tAsg (tLc (iRng1 (tCons (tOp oAdd (tC (.int 1)) (tCall sp__law_next [] E0 (tCons (tVar 0) (tCons (tVar 2) tNil)))) tNil)) (gName 10) tYes (tCall sp__law_road [] E0 (tCons (tVar 0) (tCons (tVar 4) (tCons (tVar 3) tNil)))) [10]) (gName 5))
    (tSeq (tAsg (tLst tNil) (gName 6))
    (tSeq (tFor (iTup K (tTup (tCons (tC (.int 0)) (tCons (tC (.int 1)) tNil)))) (gName 7) (tSeq (tAsg (tLst tNil) (gName 8))
    (tSeq (tFor (iRng1 (tCons (tVar 4) tNil)) (gName 9) (tDrop (tBM K "list" rAppend (tVar 8) (tCons (tCall sp__law_order [] E0 (tCons (tVar 0) (tCons (tLc (iRng1 (tCons (tCB (rLenQ K) (tCons (tVar 5) tNil)) tNil)) (gName 10) (tTest (tOp (rEqD K) (tOp (rIx K) (tOp (rIx K) (tVar 5) (tVar 10)) (tVar 7)) (tVar 9))) (tVar 10) [10]) tNil))) tNil))))
    (tDrop (tBM K "list" rAppend (tVar 6) (tCons (tCB (rTupQ K) (tCons (tVar 8) tNil)) tNil))))))
    (tRet (tTup (tCons (tCB (rTupQ K) (tCons (tVar 5) tNil)) (tCons (tOp (rIx K) (tVar 6) (tC (.int 0))) (tCons (tOp (rIx K) (tVar 6) (tC (.int 1))) tNil))))))))
/-- of the roads those whose end on this side is the house -/
def sideOf (s : Nat) (r : Road) : Option Nat := if s = 0 then r.b else r.e
def atSide (rs : List Road) (s h : Nat) : List Nat := (List.range rs.length).filter fun k => (rs[k]?.map (sideOf s)) == some (some h)
theorem begins_eq (W : Web) (h : Nat) : begins W h = atSide W.roads 0 h := rfl
theorem ends_eq (W : Web) (h : Nat) : ends W h = atSide W.roads 1 h := rfl
theorem road_side {r : Road} {s : Nat} (hs : s < 2) : atI [optD r.b, optD r.e, .int r.r] (s : Int) = some (optD (sideOf s r)) := by
  rcases (show s = 0 ∨ s = 1 by omega) with e | e <;> (subst e; rfl)
theorem shaped_opt (o : Option Nat) : SeqAt.shaped (optD o) = true := by
  cases o <;> rfl
theorem shaped_nat (k : Nat) : SeqAt.shaped (natD k) = true := rfl
theorem eqv_opt (o : Option Nat) (h : Nat) : PyData.eqv (optD o) (natD h) = (o == some h) := by
  cases o with
  | none => rfl
  | some k =>
    show ((k : Int) == (h : Int)) = (some k == some h)
    rw [Bool.eq_iff_iff]
    simp
    omega
/-- the comprehension of a house's roads -/
theorem d_side {ρ : Rho} {rs : List Road} {s h : Nat} (hs : s < 2) (h5 : ρ[5]? = some (.dat (.list (rs.map roadD)))) (h7 : ρ[7]? = some (.dat (natD s))) (h9 : ρ[9]? = some (.dat (natD h))) (h10 : ρ[10]? = some .un) (hl : rs.length ≤ 1000) :
    Ed (tLc (iRng1 (tCons (tCB (rLenQ K) (tCons (tVar 5) tNil)) tNil)) (gName 10) (tTest (tOp (rEqD K) (tOp (rIx K) (tOp (rIx K) (tVar 5) (tVar 10)) (tVar 7)) (tVar 9))) (tVar 10) [10]) ρ (.dat (.list ((atSide rs s h).map natD))) := by
  have hlen : (((rs.map roadD).length : Nat) : Int).toNat = rs.length := by rw [List.length_map]; omega
  have src : Es (iRng1 (tCons (tCB (rLenQ K) (tCons (tVar 5) tNil)) tNil)) ρ ((List.range rs.length).map natD) := by
    have z := es_rng1 (ρ := ρ) (n := ((rs.map roadD).length : Int)) (a_cons (d_cb (a_cons (d_var h5) a_nil) (rc_lenL (K := K))) a_nil) (by omega) (by rw [List.length_map]; omega)
    rw [hlen] at z
    exact z
  let f : PD → Bool := fun d => match d with
    | .int k => (rs[k.toNat]?.map (sideOf s)) == some (some h)
    | _ => false
  refine d_is (d_lc f id src (rho0_of h10) (by rw [List.length_map, List.length_range]; omega) fun x hx => ?_) ?_
  · obtain ⟨k, hk, rfl⟩ := List.mem_map.mp hx
    have hk2 : k < rs.length := List.mem_range.mp hk
    have set5 : (ρ.set 10 (.dat (natD k)))[5]? = some (.dat (.list (rs.map roadD))) := by rw [List.getElem?_set_ne (by decide)]; exact h5
    have set7 : (ρ.set 10 (.dat (natD k)))[7]? = some (.dat (natD s)) := by rw [List.getElem?_set_ne (by decide)]; exact h7
    have set9 : (ρ.set 10 (.dat (natD k)))[9]? = some (.dat (natD h)) := by rw [List.getElem?_set_ne (by decide)]; exact h9
    have set10 : (ρ.set 10 (.dat (natD k)))[10]? = some (.dat (natD k)) := List.getElem?_set_self (List.getElem?_eq_some_iff.mp h10).1
    refine ⟨_, _, g_name, fun i hi => hi, ?_, fun _ => d_var set10⟩
    have at1 : atI (rs.map roadD) (k : Int) = some (roadD rs[k]) := atI_nat (by rw [List.getElem?_map, List.getElem?_eq_getElem hk2]; rfl)
    refine t_is (t_test (d_op (d_op (d_op (d_var set5) (d_var set10) (ro_sqL at1)) (d_var set7) (ro_sqT (road_side hs))) (d_var set9) (ro_eqD (shaped_opt _) (shaped_nat h)))) ?_
    rw [eqv_opt]
    show _ = ((rs[((k : Nat) : Int).toNat]?.map (sideOf s)) == some (some h))
    rw [show ((k : Nat) : Int).toNat = k by omega, List.getElem?_eq_getElem hk2]
    rfl
  · congr 2
    rw [List.map_id]
    unfold atSide
    rw [List.filter_map]
    congr 1
theorem nats_of_perm {l : List PD} {ns : List Nat} (h : l.Perm (ns.map natD)) : ∃ ms : List Nat, l = ms.map natD ∧ ms.Perm ns := by
  let g : PD → Nat := fun d => match d with
    | .int k => k.toNat
    | _ => 0
  have gn : ∀ k, g (natD k) = k := fun k => by
    show ((k : Nat) : Int).toNat = k
    omega
  have p2 := h.map g
  rw [List.map_map] at p2
  have e2 : (ns.map (g ∘ natD)) = ns := by
    have : (g ∘ natD) = id := funext gn
    rw [this, List.map_id]
  rw [e2] at p2
  refine ⟨l.map g, ?_, p2⟩
  rw [List.map_map]
  have : ∀ x ∈ l, (natD ∘ g) x = x := fun x hx => by
    obtain ⟨k, _, rfl⟩ := List.mem_map.mp (h.mem_iff.mp hx)
    show natD (g (natD k)) = natD k
    rw [gn]
  rw [List.map_congr_left this]
  simp

def OkSide (rs : List Road) (cnt s : Nat) (o : PD) : Prop := ∃ ls : List (List Nat), o = .tuple (ls.map natsD) ∧ ls.length = cnt ∧ ∀ (h : Nat) (l : List Nat), ls[h]? = some l → l.Perm (atSide rs s h)
theorem all_roads {G : Road → Prop} : ∀ {ds : List PD}, (∀ x ∈ ds, ∃ r, x = roadD r ∧ G r) → ∃ rs : List Road, ds = rs.map roadD ∧ ∀ r ∈ rs, G r
  | [], _ => ⟨[], rfl, fun _ h => nomatch h⟩
  | d :: ds, h => by
    obtain ⟨r, e, g⟩ := h d (List.mem_cons_self ..)
    obtain ⟨rs, e2, g2⟩ := all_roads fun x hx => h x (List.mem_cons_of_mem _ hx)
    refine ⟨r :: rs, by rw [e, e2]; rfl, fun x hx => ?_⟩
    rcases List.mem_cons.mp hx with z | z
    · rw [z]; exact g
    · exact g2 x z
theorem upd_hid {S : List Addr} {H : Hp} {l : Addr} {o : HO} (h : l ∈ S) : Ex (hid S H) (hid S (upd H l o)) := fun x u hx => by
  obtain ⟨c, hx⟩ := hid_some hx
  rw [hid_out c, upd_ne (fun z => c (by rw [z]; exact h))]
  exact hx
theorem Al.upd {S : List Addr} {H : Hp} {l : Addr} {o : HO} (al : Al S H) : Al S (upd H l o) := fun x hx => by
  by_cases c : x = l
  · subst c
    rw [upd_same]
    exact fun z => nomatch z
  · rw [upd_ne c]
    exact al x hx
theorem go_web {N : List Str} {vs : List V} {H : Hp} {Q : VK} {E : XK} (hN : N.length = 11) (hs : sp__law_web vs H Q E) : T__law_web K { nx := fun _ H' => Q .non H', rt := Q } (L2.start N vs) H := by
  refine go_K 7 (fun ds ⟨h, r, f, e, _⟩ => by subst e; exact hN) (fun a ds hp => ?_) hs
  obtain ⟨h, r, f, rfl, h1, h2, r1, r2⟩ := hp
  refine sw_mono (sw_then (sw_asg (ew_op (ew_pure d_int) (ew_call rfl (ewa_1 (d_var rfl)) (fun ds e => ⟨(h : Int), e, by omega, by omega⟩) (P := fun d => ∃ q : Nat, d = natD q ∧ q < h) ?c1) (P := fun d => ∃ q : Nat, d = natD q ∧ 1 ≤ q ∧ q ≤ h) ?c2)) ?c3) (m1 := 1 + 1900) (by decide) (fun o h => h)
  case c1 =>
    intro ds d e hr
    subst e
    obtain ⟨m, q, e1, e2, y0, y1⟩ := hr
    have em := PyData.int.inj (List.cons.inj e1).1
    exact ⟨q.toNat, by rw [e2]; show PyData.int q = PyData.int _; congr 1; omega, by omega⟩
  case c2 =>
    rintro u w rfl ⟨q, rfl, hq⟩
    exact ⟨_, ro_Ii, q + 1, by show PyData.int (1 + (q : Int)) = PyData.int ((q + 1 : Nat) : Int); congr 1; omega, by omega, by omega⟩
  case c3 =>
    rintro ρ' ⟨d, ⟨cnt, rfl, q1, q2⟩, rfl⟩
    refine sw_mono (sw_then (sw_asg (ew_lcR (B := 20) (m2 := 6) (Pk := fun k => 1 ≤ k ∧ k ≤ r) (P := fun d => ∃ x : Road, d = roadD x ∧ (x.b ≠ x.e ∧ (∀ k, x.b = some k → k < cnt) ∧ (∀ k, x.e = some k → k < cnt) ∧ 0 ≤ x.r ∧ x.r ≤ 1000000000000 ∧ (f = false → x.r ≤ 5)))
      (ewa_mono (ewa_cons (ew_op (ew_pure d_int) (ew_call rfl (ewa_1 (d_var rfl)) (fun ds e => ⟨(r : Int), e, by omega, by omega⟩) (P := fun d => ∃ q : Nat, d = natD q ∧ q < r) ?c4) (P := fun d => ∃ q : Nat, d = natD q ∧ 1 ≤ q ∧ q ≤ r) ?c5) ewa_nil) (Nat.le_refl _) ?c6) (by decide) (fun i => ew_call rfl (ewa_2 (d_var rfl) (d_var rfl)) (fun ds e => ⟨cnt, f, e, by omega, by omega⟩) ?c7) rfl)) ?c8) (m1 := 121 + 1700) (by decide) (fun o h => h)
    case c4 =>
      intro ds d e hr
      subst e
      obtain ⟨m, q, e1, e2, y0, y1⟩ := hr
      have em := PyData.int.inj (List.cons.inj e1).1
      exact ⟨q.toNat, by rw [e2]; show PyData.int q = PyData.int _; congr 1; omega, by omega⟩
    case c5 =>
      rintro u w rfl ⟨q, rfl, hq⟩
      exact ⟨_, ro_Ii, q + 1, by show PyData.int (1 + (q : Int)) = PyData.int ((q + 1 : Nat) : Int); congr 1; omega, by omega, by omega⟩
    case c6 =>
      rintro ds ⟨d, rr, rfl, ⟨q, rfl, z1, z2⟩, rfl⟩
      exact ⟨q, rfl, by omega, z1, z2⟩
    case c7 =>
      intro ds d e hr
      subst e
      obtain ⟨h', f', x, e1, e2, z⟩ := hr
      have i1 := List.cons.inj e1
      have eh : h' = cnt := by
        have z2 := PyData.int.inj i1.1
        omega
      have ef : f' = f := (PyData.bool.inj (List.cons.inj i1.2).1).symm
      subst eh ef
      exact ⟨x, e2, z⟩
    case c8 =>
      rintro ρ' ⟨d, ⟨ds, rfl, ⟨k1, k2⟩, k3, hall⟩, rfl⟩
      obtain ⟨rs, rfl, good⟩ := all_roads hall
      rw [List.length_map] at k1 k2 k3
      intro b c n S σ H D ha hb al en dk hn q
      -- orders = []
      refine ⟨Nat.zero_le _, fun lo hlo => ?_⟩
      have en1 : En (hid (lo :: S) (upd H lo (.lst []))) (σ.set 6 (some (.ref lo))) [.raw (.ref a), .dat (natD h), .dat (natD r), .dat (.bool f), .dat (natD cnt), .dat (.list (rs.map roadD)), .raw (.ref lo), .un, .un, .un, .un] :=
        (en.ex (hid_cons (Ex.new hlo) hlo)).set 6 (r := .raw (.ref lo)) rfl
      have al1 : Al (lo :: S) (upd H lo (.lst [])) := (al.ex (Ex.new hlo)).cons (by rw [upd_same]; exact fun z => nomatch z)
      obtain ⟨_, _, _, hA, hB, hC, _⟩ := dk.ex
      have na : lo ≠ a := (ne_of_none hA hlo).symm
      have nb : lo ≠ b := (ne_of_none hB hlo).symm
      have nc : lo ≠ c := (ne_of_none hC hlo).symm
      have haS : a ∈ lo :: S := List.mem_cons_of_mem _ ha
      have hbS : b ∈ lo :: S := List.mem_cons_of_mem _ hb
      refine for_w (S := lo :: S) (es_tup (d_tup (ds := [.int 0, .int 1]) (a_cons d_int (a_cons d_int a_nil)) (by decide))) al1 en1 (lo :: S)
        (fun H1 i σ' H' => ∃ ws os, En (hid (lo :: S) H') σ' [.raw (.ref a), .dat (natD h), .dat (natD r), .dat (.bool f), .dat (natD cnt), .dat (.list (rs.map roadD)), .raw (.ref lo), .un, .un, .un, .un] ∧ Kp a b H H' ∧ Dk a b c (n + i * 320) H' ∧ Al (lo :: S) H' ∧ H' lo = some (.lst ws) ∧ RpAll (hid (lo :: S) H') ws os ∧ os.length = i ∧ (∀ (j : Nat) o, os[j]? = some o → OkSide rs cnt j o) ∧ i ≤ 2 ∧ Ex (hid (lo :: S) H1) (hid (lo :: S) H'))
        (fun H1 e1 => ?_) (fun H1 i σ' H' e1 hv => ?_) (fun H1 i x σ' H' v H3 e1 hx hv e3 rv => ?_) (fun H1 σ' H' e1 hv => ?_)
      · exact ⟨[], [], en1.ex (hid_ex e1), Kp.of ((Ex.new hlo).trans e1), by simpa using dk.exx ((Ex.new hlo).trans e1), al1.ex e1, e1 _ _ upd_same, .nil, rfl, fun j o ho => by simp at ho, Nat.zero_le _, Ex.refl _⟩
      · obtain ⟨ws, os, _, _, _, al2, _, _, _, _, _, ee⟩ := hv
        exact ⟨al2, ee⟩
      · -- one side
        obtain ⟨ws, os, en2, kp2, dk2, al2, hlo2, ra2, hos, hok, hi2, ee⟩ := hv
        have hi : i < 2 := (List.getElem?_eq_some_iff.mp hx).1
        have ex' : x = natD i := by
          rcases (show i = 0 ∨ i = 1 by omega) with z | z
          · subst z
            have z2 : PyData.int 0 = x := Option.some.inj hx
            rw [← z2]; rfl
          · subst z
            have z2 : PyData.int 1 = x := Option.some.inj hx
            rw [← z2]; rfl
        subst ex'
        have en3 : En (hid (lo :: S) H3) (σ'.set 7 (some v)) [.raw (.ref a), .dat (natD h), .dat (natD r), .dat (.bool f), .dat (natD cnt), .dat (.list (rs.map roadD)), .raw (.ref lo), .dat (natD i), .un, .un, .un] := (en2.ex (hid_ex e3)).set 7 (.of rv)
        have al3 := al2.ex e3
        have dk3 := dk2.exx e3
        have hlo3 := e3 _ _ hlo2
        have ra3 := ra2.ex (hid_ex e3)
        have kp3 : Kp a b H H3 := kp2.trans (Kp.of e3)
        have ee3 := ee.trans (hid_ex e3)
        -- rows = []
        refine ⟨Nat.zero_le _, fun lr hlr => ?_⟩
        obtain ⟨_, _, _, hA3, hB3, hC3, _⟩ := dk3.ex
        have ma : lr ≠ a := (ne_of_none hA3 hlr).symm
        have mb : lr ≠ b := (ne_of_none hB3 hlr).symm
        have mc : lr ≠ c := (ne_of_none hC3 hlr).symm
        have mo : lr ≠ lo := (ne_of_none hlo3 hlr).symm
        have haR : a ∈ lr :: lo :: S := List.mem_cons_of_mem _ haS
        have hbR : b ∈ lr :: lo :: S := List.mem_cons_of_mem _ hbS
        have en4 : En (hid (lr :: lo :: S) (upd H3 lr (.lst []))) ((σ'.set 7 (some v)).set 8 (some (.ref lr))) [.raw (.ref a), .dat (natD h), .dat (natD r), .dat (.bool f), .dat (natD cnt), .dat (.list (rs.map roadD)), .raw (.ref lo), .dat (natD i), .raw (.ref lr), .un, .un] :=
          (en3.ex (hid_cons (Ex.new hlr) hlr)).set 8 (r := .raw (.ref lr)) rfl
        have al4 : Al (lr :: lo :: S) (upd H3 lr (.lst [])) := (al3.ex (Ex.new hlr)).cons (by rw [upd_same]; exact fun z => nomatch z)
        have hx3 : Ex (hid (lo :: S) H3) (hid (lr :: lo :: S) (upd H3 lr (.lst []))) := hid_cons (Ex.new hlr) hlr
        refine for_w (S := lr :: lo :: S) (es_rng1 (n := (cnt : Int)) (a_cons (d_var rfl) a_nil) (by omega) (by omega)) al4 en4 (lr :: lo :: S)
          (fun G1 j σ2 G => ∃ (us : List V) (ls : List (List Nat)), En (hid (lr :: lo :: S) G) σ2 [.raw (.ref a), .dat (natD h), .dat (natD r), .dat (.bool f), .dat (natD cnt), .dat (.list (rs.map roadD)), .raw (.ref lo), .dat (natD i), .raw (.ref lr), .un, .un] ∧ Kp a b H3 G ∧ Dk a b c (n + i * 320 + j * 40) G ∧ Al (lr :: lo :: S) G ∧ G lo = some (.lst ws) ∧ RpAll (hid (lr :: lo :: S) G) ws os ∧ G lr = some (.lst us) ∧ RpAll (hid (lr :: lo :: S) G) us (ls.map natsD) ∧ ls.length = j ∧ (∀ (k : Nat) (l : List Nat), ls[k]? = some l → l.Perm (atSide rs i k)) ∧ j ≤ cnt ∧ Ex (hid (lr :: lo :: S) G1) (hid (lr :: lo :: S) G) ∧ Ex (hid (lo :: S) H3) (hid (lr :: lo :: S) G))
          (fun G1 f1 => ?_) (fun G1 j σ2 G f1 hv => ?_) (fun G1 j y σ2 G w G3 f1 hy hv f3 rw3 => ?_) (fun G1 σ2 G f1 hv => ?_)
        · exact ⟨[], [], en4.ex (hid_ex f1), Kp.of ((Ex.new hlr).trans f1), by simpa using dk3.exx ((Ex.new hlr).trans f1), al4.ex f1, f1 _ _ (by rw [upd_ne mo.symm]; exact hlo3), (ra3.ex hx3).ex (hid_ex f1), f1 _ _ upd_same, .nil, rfl, fun k l hk => by simp at hk, Nat.zero_le _, Ex.refl _, hx3.trans (hid_ex f1)⟩
        · obtain ⟨us, ls, _, _, _, alg, _, _, _, _, _, _, _, eg, _⟩ := hv
          exact ⟨alg, eg⟩
        · -- one house
          obtain ⟨us, ls, eng, kpg, dkg, alg, hlog, rag, hlrg, rug, hls, hpm, hj, eg, eg3⟩ := hv
          have hj2 : j < cnt := by
            have z := (List.getElem?_eq_some_iff.mp hy).1
            simpa using z
          have ey : y = natD j := by
            rw [List.getElem?_map] at hy
            have z : (List.range ((cnt : Int).toNat))[j]? = some j := by
              rw [List.getElem?_eq_getElem (by simpa using hj2)]
              simp
            rw [z] at hy
            exact (Option.some.inj hy).symm
          subst ey
          have eng3 : En (hid (lr :: lo :: S) G3) (σ2.set 9 (some w)) [.raw (.ref a), .dat (natD h), .dat (natD r), .dat (.bool f), .dat (natD cnt), .dat (.list (rs.map roadD)), .raw (.ref lo), .dat (natD i), .raw (.ref lr), .dat (natD j), .un] := (eng.ex (hid_ex f3)).set 9 (.of rw3)
          have hlrg3 := f3 _ _ hlrg
          refine ⟨.ref lr, eng3.raw (i := 8) rfl, .inl ⟨rfl, us, .inl (.inl hlrg3)⟩, ?_⟩
          -- the call of order
          have ordr : Ew a (tCall sp__law_order [] E0 (tCons (tVar 0) (tCons (tLc (iRng1 (tCons (tCB (rLenQ K) (tCons (tVar 5) tNil)) tNil)) (gName 10) (tTest (tOp (rEqD K) (tOp (rIx K) (tOp (rIx K) (tVar 5) (tVar 10)) (tVar 7)) (tVar 9))) (tVar 10) [10]) tNil)))
              [.raw (.ref a), .dat (natD h), .dat (natD r), .dat (.bool f), .dat (natD cnt), .dat (.list (rs.map roadD)), .raw (.ref lo), .dat (natD i), .raw (.ref lr), .dat (natD j), .un] (0 + 40) (fun d => ∃ l : List Nat, d = natsD l ∧ l.Perm (atSide rs i j)) := by
            refine ew_call rfl (ewa_1 (d_side hi rfl rfl rfl rfl (by omega))) (fun ds e => ⟨_, e, ?_⟩) (fun ds d e hr => ?_)
            · rw [List.length_map]
              refine Nat.le_trans (List.length_filter_le _ _) ?_
              rw [List.length_range]
              omega
            · subst e
              obtain ⟨xs, ys, e1, e2, pm⟩ := hr
              have z := PyData.list.inj (List.cons.inj e1).1
              subst z
              obtain ⟨ms, e3, pm3⟩ := nats_of_perm pm
              exact ⟨ms, by rw [e2, e3]; rfl, pm3⟩
          refine ordr b c (n + i * 320 + j * 40) (lr :: lo :: S) _ G3 haR hbR (alg.ex f3) eng3 (dkg.exx f3) (by omega) _ fun u d G4 k4 d4 r4 p4 => ?_
          obtain ⟨l, rfl, pl⟩ := p4
          have kh := k4.hid (S := lr :: lo :: S) haR hbR
          have hlrg4 : G4 lr = some (.lst us) := k4 lr _ ma mb hlrg3
          have hlog4 : G4 lo = some (.lst ws) := k4 lo _ na nb (f3 _ _ hlog)
          refine ⟨lr, us, u, rfl, rfl, hlrg4, Evl.sz_lt (by rw [rug.length, List.length_map]; omega), ?_⟩
          have hu : Ex (hid (lr :: lo :: S) G4) (hid (lr :: lo :: S) (upd G4 lr (.lst (us ++ [u])))) := upd_hid (List.mem_cons_self ..)
          have all4 := ((hid_ex f3).trans kh).trans hu
          refine ⟨us ++ [u], ls ++ [l], ?_, ?_, ?_, (d4.al k4 (alg.ex f3)).upd, by rw [upd_ne mo.symm]; exact hlog4, rag.ex all4, upd_same, ?_, by rw [List.length_append, hls]; rfl, ?_, hj2, eg.trans all4, eg3.trans all4⟩
          · have z := ((eng.ex (hid_ex f3)).ex (kh.trans hu)).set 9 (o := some w) (r := .un) trivial
            exact z
          · exact fun y o y1 y2 hy => by
              rw [upd_ne (ne_of_none hy hlr)]
              exact k4 y o y1 y2 (f3 _ _ (kpg y o y1 y2 hy))
          · have e : n + i * 320 + j * 40 + (0 + 40) = n + i * 320 + (j + 1) * 40 := by omega
            rw [← e]
            exact d4.upd ma mb mc
          · rw [List.map_append]
            exact RpAll.append (rug.ex all4) (.cons (r4.ex hu) .nil)
          · intro k l' hk
            by_cases ck : k < ls.length
            · rw [List.getElem?_append_left ck] at hk
              exact hpm k l' hk
            · rw [List.getElem?_append_right (by omega)] at hk
              have ek : k - ls.length = 0 := by
                have z := (List.getElem?_eq_some_iff.mp hk).1
                simp at z
                omega
              rw [ek] at hk
              have el : l = l' := Option.some.inj hk
              have ek2 : k = j := by omega
              subst el ek2
              exact pl
        · -- behind the houses: orders.append(tuple(rows))
          obtain ⟨us, ls, eng, kpg, dkg, alg, hlog, rag, hlrg, rug, hls, hpm, hj, eg, eg3⟩ := hv
          have ecl : ((List.range ((cnt : Int).toNat)).map fun k => PyData.int (k : Nat)).length = cnt := by
            rw [List.length_map, List.length_range]
            omega
          rw [ecl] at hls dkg
          refine ⟨.ref lo, eng.raw (i := 6) rfl, .inl ⟨rfl, ws, .inl (.inl hlog)⟩, .ref lr, eng.raw (i := 8) rfl, lr, us, rfl, .inl ⟨.inl (.inl hlrg), fun p hp => ?_⟩⟩
          have np : lo ≠ p := ne_of_none hlog hp
          have nps : p ∉ lr :: lo :: S := fun z => alg p z hp
          refine ⟨lo, ws, .ref p, rfl, rfl, by rw [upd_ne np]; exact hlog, Evl.sz_lt (by rw [rag.length, hos]; omega), ?_⟩
          have hq1 : Ex (hid (lr :: lo :: S) G) (hid (lo :: S) (upd G p (.tup us))) := hid_uncons.trans (hid_ex (Ex.new hp))
          have hq2 : Ex (hid (lo :: S) (upd G p (.tup us))) (hid (lo :: S) (upd (upd G p (.tup us)) lo (.lst (ws ++ [.ref p])))) := upd_hid (List.mem_cons_self ..)
          have hq := hq1.trans hq2
          refine ⟨ws ++ [.ref p], os ++ [.tuple (ls.map natsD)], ?_, ?_, ?_, ?_, upd_same, ?_, by rw [List.length_append, hos]; rfl, ?_, hi, ?_⟩
          · have z := (((eng.ex hq).set 7 (o := σ2[7]?.join) (r := .un) trivial).set 8 (o := σ2[8]?.join) (r := .un) trivial)
            have e7 : (σ2.set 7 σ2[7]?.join).set 8 σ2[8]?.join = σ2 := by
              have l11 : σ2.length = 11 := eng.1
              apply List.ext_getElem?
              intro k
              by_cases c8 : 8 = k
              · subst c8
                rw [List.getElem?_set_self (by rw [List.length_set]; omega), List.getElem?_eq_getElem (show 8 < σ2.length by omega)]
                rfl
              · rw [List.getElem?_set_ne c8]
                by_cases c7 : 7 = k
                · subst c7
                  rw [List.getElem?_set_self (by omega), List.getElem?_eq_getElem (show 7 < σ2.length by omega)]
                  rfl
                · rw [List.getElem?_set_ne c7]
            rw [e7] at z
            exact z
          · exact fun y o y1 y2 hy => by
              have z := kpg y o y1 y2 (kp3 y o y1 y2 hy)
              rw [upd_ne (ne_of_none hy hlo), upd_ne (ne_of_none z hp)]
              exact z
          · have z : Dk a b c (n + (i + 1) * 320) G := dkg.mono (by omega)
            exact (z.exx (Ex.new hp)).upd na nb nc
          · exact Al.upd fun y hy => ((alg.ex (Ex.new hp)) y (List.mem_cons_of_mem _ hy))
          · refine RpAll.append (rag.ex hq) (.cons (.tup (xs := us) ?_ (rug.ex hq)) .nil)
            rw [hid_out (fun z => nps (List.mem_cons_of_mem _ z)), upd_ne np.symm, upd_same]
          · intro k o hk
            by_cases ck : k < os.length
            · rw [List.getElem?_append_left ck] at hk
              exact hok k o hk
            · rw [List.getElem?_append_right (by omega)] at hk
              have ek : k - os.length = 0 := by
                have z := (List.getElem?_eq_some_iff.mp hk).1
                simp at z
                omega
              rw [ek] at hk
              have el : PyData.tuple (ls.map natsD) = o := Option.some.inj hk
              have ek2 : k = i := by omega
              subst el ek2
              exact ⟨ls, rfl, hls, hpm⟩
          · exact (ee3.trans eg3).trans hq
      · -- return
        obtain ⟨ws, os, en2, kp2, dk2, al2, hlo2, ra2, hos, hok, hi2, ee⟩ := hv
        have hos2 : os.length = 2 := hos
        match os, hos2, ra2, hok with
        | [o0, o1], _, .cons (v := w0) ha0 (.cons (v := w1) ha1 .nil), hok =>
          obtain ⟨l0, e0, n0, p0⟩ := hok 0 o0 rfl
          obtain ⟨l1, e1', n1, p1⟩ := hok 1 o1 rfl
          subst e0 e1'
          have hf : En (hid (lo :: S) H') σ' [.raw (.ref a), .dat (natD h), .dat (natD r), .dat (.bool f), .dat (natD cnt), .dat (.list (rs.map roadD)), .raw (.ref lo), .un, .un, .un, .un] := en2
          obtain ⟨vf, hvf, rvf⟩ := hf.dat (i := 5) rfl
          generalize hfd : PyData.list (rs.map roadD) = fd at rvf
          cases rvf with
          | non => cases hfd
          | bl _ => cases hfd
          | int _ => cases hfd
          | str _ => cases hfd
          | tup _ _ => cases hfd
          | @lst fa xf fds hfa rfa =>
            have efd := PyData.list.inj hfd
            subst efd
            refine ⟨_, hvf, fa, xf, rfl, .inl ⟨.inl (.inl (hid_le _ _ hfa)), fun p hp => ?_⟩⟩
            have np : lo ≠ p := ne_of_none hlo2 hp
            have hlo5 : (upd H' p (.tup xf)) lo = some (.lst [w0, w1]) := by rw [upd_ne np]; exact hlo2
            refine ⟨.ref lo, hf.raw (i := 6) rfl, ixL hlo5 (v := w0) rfl ⟨.ref lo, hf.raw (i := 6) rfl, ixL hlo5 (v := w1) rfl ⟨by show 3 ≤ sizeLine; decide, fun t ht => ?_⟩⟩⟩
            have nps : p ∉ lo :: S := fun z => al2 p z hp
            have npS : p ∉ S := fun z => nps (List.mem_cons_of_mem _ z)
            have npt : p ≠ t := ne_of_none (show (upd H' p (.tup xf)) p = some (.tup xf) from upd_same) ht
            have ntS : t ∉ S := fun z => (al2.ex (Ex.new hp)) t (List.mem_cons_of_mem _ z) ht
            have hx1 : Ex (hid (lo :: S) H') (hid S (upd (upd H' p (.tup xf)) t (.tup [.ref p, w0, w1]))) := hid_uncons.trans ((hid_ex (Ex.new hp)).trans (hid_ex (Ex.new ht)))
            refine q (.ret (webD ⟨rs, l0, l1⟩)) ⟨_, rfl, h, r, f, ⟨rs, l0, l1⟩, rfl, rfl, ⟨⟨by show 1 ≤ l0.length; omega, by show l0.length ≤ 8; omega⟩, by show l1.length = l0.length; omega, ⟨k1, by show rs.length ≤ 20; omega⟩, fun x hx => ?_, fun k l hk => ?_, fun k l hk => ?_⟩, by show l0.length ≤ h; omega, k2, fun ef x hx => (good x hx).2.2.2.2.2 ef⟩ _ _ ((kp2.trans (Kp.of (Ex.new hp))).trans (Kp.of (Ex.new ht))) (((dk2.mono (by show n + 2 * 320 ≤ _; omega)).exx (Ex.new hp)).exx (Ex.new ht)) ?_
            · obtain ⟨g1, g2, g3, g4, g5, g6⟩ := good x hx
              exact ⟨g1, fun k hk => by show k < l0.length; have := g2 k hk; omega, fun k hk => by show k < l0.length; have := g3 k hk; omega, g4, g5⟩
            · rw [begins_eq]
              exact p0 k l hk
            · rw [ends_eq]
              exact p1 k l hk
            · refine .tup (xs := [.ref p, w0, w1]) (by rw [hid_out ntS, upd_same]) (.cons (.tup (xs := xf) (by rw [hid_out npS, upd_ne npt, upd_same]) (rfa.ex hx1)) (.cons (ha0.ex hx1) (.cons (ha1.ex hx1) .nil)))
end
end Un

/-! ## UnSame -/
namespace Un
open PySem PySem.Spec PyProof.Rows L2
open Evl (Ex)
section
variable {K : PySem.W.Frag}
/-! ### isinstance -/
def tyN : PD → String
  | .none => "NoneType"
  | .bool _ => "bool"
  | .int _ => "int"
  | .str _ => "str"
  | .list _ => "list"
  | .tuple _ => "tuple"
  | .dict _ => "dict"
theorem Rp.ty {H : Hp} {v : V} {d : PD} (r : Rp H v d) : TyX K H v (.type (tyN d)) := by
  cases r with
  | non => exact .base .non
  | bl b => exact .base (.bl b)
  | int i => exact .base (.int i)
  | str x => exact .base (.str x)
  | lst h _ => exact .base (.lst h)
  | tup h _ => exact .base (.tup h)
theorem rc_isi {d : PD} {n : String} {b : Bool} (h : kitB (tyN d) n = some b) : Rc (rIsi K) [.dat d, .raw (.ty n)] (.dat (.bool b)) := fun S H vs al rv Q q => by
  cases rv with
  | cons h1 t =>
    cases t with
    | cons h2 t2 =>
      cases t2
      have e : _ = V.ty n := Option.some.inj h2
      subst e
      exact ⟨_, .ty n, _, .type n, b, rfl, .ty n, (h1.val.ex hid_le).ty, kit_ty h, q _ H (Ex.refl H) (.of (.bl b))⟩
theorem k_tt : kitB "tuple" "tuple" = some true := by decide +kernel
theorem k_nt : kitB "NoneType" "tuple" = some false := by decide +kernel
theorem k_bt : kitB "bool" "tuple" = some false := by decide +kernel
theorem k_it : kitB "int" "tuple" = some false := by decide +kernel
theorem k_st : kitB "str" "tuple" = some false := by decide +kernel
theorem k_lt : kitB "list" "tuple" = some false := by decide +kernel
theorem k_bb : kitB "bool" "bool" = some true := by decide +kernel
theorem k_ib : kitB "int" "bool" = some false := by decide +kernel
theorem k_sb : kitB "str" "bool" = some false := by decide +kernel
theorem k_nb : kitB "NoneType" "bool" = some false := by decide +kernel
theorem k_tb : kitB "tuple" "bool" = some false := by decide +kernel
theorem k_lb : kitB "list" "bool" = some false := by decide +kernel
theorem k_ss : kitB "str" "str" = some true := by decide +kernel
theorem k_is' : kitB "int" "str" = some false := by decide +kernel
theorem k_ii : kitB "int" "int" = some true := by decide +kernel
theorem k_bi : kitB "bool" "int" = some true := by decide +kernel
theorem k_ni : kitB "NoneType" "int" = some false := by decide +kernel
theorem k_si : kitB "str" "int" = some false := by decide +kernel
theorem k_ti : kitB "tuple" "int" = some false := by decide +kernel
theorem k_li : kitB "list" "int" = some false := by decide +kernel
/-! ### _law_same, of a thing and itself -/
def atom : PD → Bool
  | .none => true
  | .bool _ => true
  | .int _ => true
  | .str s => SeqAt.shaped (.str s)
  | _ => false
def Pln : Nat → PD → Prop
  | 0, d => atom d = true
  | n + 1, d => atom d = true ∨ ∃ xs, d = .tuple xs ∧ xs.length ≤ 1000 ∧ ∀ y ∈ xs, Pln n y
def Rsame (n : Nat) : List PD → PD → Prop := fun ds d => ∃ x, ds = [x, x] ∧ Pln n x ∧ d = .bool true
def sp__law_same (n : Nat) : Sp := spR (Rsame n)
def T__law_same (K : PySem.W.Frag) (sp : Sp) : TS :=
    tSeq (tIfS (tB (tCB (rIsi K) (tCons (tVar 1) (tCons (tC (.ty "tuple")) tNil)))) (tSeq (tIfS (tOr (tNot (tB (tCB (rIsi K) (tCons (tVar 0) (tCons (tC (.ty "tuple")) tNil))))) (tTest (tOp (rNeD K) (tCB (rLenQ K) (tCons (tVar 0) tNil)) (tCB (rLenQ K) (tCons (tVar 1) tNil))))) (tRet (tC (.bl false))) tNext)
    (tRet (tCB (rAll K) (tCons (tLc (iRng1 (tCons (tCB (rLenQ K) (tCons (tVar 1) tNil)) tNil)) (gName 2) tYes (tCall sp [] E0 (tCons (tOp (rIx K) (tVar 0) (tVar 2)) (tCons (tOp (rIx K) (tVar 1) (tVar 2)) tNil))) [2]) tNil)))) tNext)
    (tSeq (tIfS (tTest (tOp oIsN (tVar 1) (tC .non))) (tRet (tOp oIsN (tVar 0) (tC .non))) tNext)
    (tSeq (tIfS (tOr (tB (tCB (rIsi K) (tCons (tVar 1) (tCons (tC (.ty "bool")) tNil)))) (tB (tCB (rIsi K) (tCons (tVar 0) (tCons (tC (.ty "bool")) tNil))))) (tRet (tAndV (tCB (rIsi K) (tCons (tVar 1) (tCons (tC (.ty "bool")) tNil))) (tAndV (tCB (rIsi K) (tCons (tVar 0) (tCons (tC (.ty "bool")) tNil))) (tOp (rEqD K) (tVar 0) (tVar 1))))) tNext)
    (tSeq (tIfS (tB (tCB (rIsi K) (tCons (tVar 1) (tCons (tC (.ty "str")) tNil)))) (tRet (tAndV (tCB (rIsi K) (tCons (tVar 0) (tCons (tC (.ty "str")) tNil))) (tOp (rEqD K) (tVar 0) (tVar 1)))) tNext)
    (tRet (tAndV (tCB (rIsi K) (tCons (tVar 0) (tCons (tC (.ty "int")) tNil))) (tOp (rEqD K) (tVar 0) (tVar 1)))))))
theorem isi_at {ρ : Rho} {i : Nat} {d : PD} {n : String} {b : Bool} (hi : ρ[i]? = some (.dat d)) (h : kitB (tyN d) n = some b) : Ed (tCB (rIsi K) (tCons (tVar i) (tCons (tC (.ty n)) tNil))) ρ (.dat (.bool b)) :=
  d_cb (a_cons (d_var hi) (a_cons d_c a_nil)) (rc_isi h)
theorem d_boolIs {te : TE} {ρ : Rho} {a b : Bool} (h : Ed te ρ (.dat (.bool a))) (e : a = b) : Ed te ρ (.dat (.bool b)) := e ▸ h
theorem sd_no {c : TT} {t : TS} {ρ : Rho} (h : Et c ρ false) : Sd (tIfS c t tNext) ρ (.nxt ρ) := sd_if h (fun z => nomatch z) fun _ => sd_next
theorem sd_yes {c : TT} {t u : TS} {ρ : Rho} {o : Ou} (h : Et c ρ true) (h2 : Sd t ρ o) : Sd (tIfS c t u) ρ o := sd_if h (fun _ => h2) fun z => nomatch z
theorem e_same {R' : List PD → PD → Prop} {n : Nat} (hR : ∀ m x, n = m + 1 → Pln m x → R' [x, x] (.bool true)) {ds : List PD} {d : PD} (h : Rsame n ds d) : Sd (T__law_same K (spR R')) (ds.map Sl.dat ++ List.replicate 1 Sl.un) (.ret d) := by
  obtain ⟨x, rfl, hp, rfl⟩ := h
  have at1 : atom x = true → Sd (T__law_same K (spR R')) ([x, x].map Sl.dat ++ List.replicate 1 Sl.un) (.ret (.bool true)) := fun hat => by
    cases x with
    | none =>
      refine sd_seq (sd_no (t_B (isi_at (d := .none) rfl k_nt))) (sd_seqR (sd_yes (t_is (t_test (d_op (d_var rfl) d_non ro_isN)) rfl) (sd_ret (d_boolIs (d_op (d_var rfl) d_non ro_isN) rfl))))
    | bool b =>
      refine sd_seq (sd_no (t_B (isi_at (d := .bool b) rfl k_bt))) (sd_seq (sd_no (t_is (t_test (d_op (d_var rfl) d_non ro_isN)) rfl)) (sd_seqR (sd_yes (t_is (t_or (t_B (isi_at (d := .bool b) rfl k_bb)) (b := true) (fun z => nomatch z)) rfl) (sd_ret (d_boolIs (d_and (isi_at (d := .bool b) rfl k_bb) fun _ => d_and (isi_at (d := .bool b) rfl k_bb) fun _ => d_op (d_var rfl) (d_var rfl) (ro_eqD rfl rfl)) ?_)))))
      cases b <;> rfl
    | int i =>
      refine sd_seq (sd_no (t_B (isi_at (d := .int i) rfl k_it))) (sd_seq (sd_no (t_is (t_test (d_op (d_var rfl) d_non ro_isN)) rfl)) (sd_seq (sd_no (t_or (t_B (isi_at (d := .int i) rfl k_ib)) fun _ => t_B (isi_at (d := .int i) rfl k_ib))) (sd_seq (sd_no (t_B (isi_at (d := .int i) rfl k_is'))) (sd_ret (d_boolIs (d_and (isi_at (d := .int i) rfl k_ii) fun _ => d_op (d_var rfl) (d_var rfl) (ro_eqD rfl rfl)) ?_)))))
      show (true && (i == i)) = true
      simp
    | str s =>
      refine sd_seq (sd_no (t_B (isi_at (d := .str s) rfl k_st))) (sd_seq (sd_no (t_is (t_test (d_op (d_var rfl) d_non ro_isN)) rfl)) (sd_seq (sd_no (t_or (t_B (isi_at (d := .str s) rfl k_sb)) fun _ => t_B (isi_at (d := .str s) rfl k_sb))) (sd_seqR (sd_yes (t_B (isi_at (d := .str s) rfl k_ss)) (sd_ret (d_boolIs (d_and (isi_at (d := .str s) rfl k_ss) fun _ => d_op (d_var rfl) (d_var rfl) (ro_eqD hat hat)) ?_))))))
      show (true && (s == s)) = true
      simp
    | list _ => cases hat
    | tuple _ => cases hat
    | dict _ => cases hat
  cases n with
  | zero => exact at1 hp
  | succ m =>
    rcases hp with hat | ⟨xs, rfl, hl, hy⟩
    · exact at1 hat
    · have len0 : ∀ i : Nat, ([PyData.tuple xs, PyData.tuple xs].map Sl.dat ++ List.replicate 1 Sl.un)[i]? = some (.dat (.tuple xs)) → Ed (tCB (rLenQ K) (tCons (tVar i) tNil)) ([PyData.tuple xs, PyData.tuple xs].map Sl.dat ++ List.replicate 1 Sl.un) (.dat (.int (xs.length : Int))) := fun i hi => d_cb (a_cons (d_var hi) a_nil) rc_lenT
      refine sd_seqR (sd_yes (t_B (isi_at (d := .tuple xs) rfl k_tt)) (sd_seq (sd_no (t_is (t_or (t_not (t_B (isi_at (d := .tuple xs) rfl k_tt))) fun _ => t_test (d_op (len0 0 rfl) (len0 1 rfl) (ro_neD rfl rfl))) ?_)) (sd_ret ?_)))
      · show (false || !((xs.length : Int) == (xs.length : Int))) = false
        simp
      · have src : Es (iRng1 (tCons (tCB (rLenQ K) (tCons (tVar 1) tNil)) tNil)) ([PyData.tuple xs, PyData.tuple xs].map Sl.dat ++ List.replicate 1 Sl.un) ((List.range xs.length).map natD) := by
          have z := es_rng1 (n := (xs.length : Int)) (a_cons (len0 1 rfl) a_nil) (by omega) (by omega)
          rw [show ((xs.length : Nat) : Int).toNat = xs.length by omega] at z
          exact z
        have lc := d_lc (te := tCall (spR R') [] E0 (tCons (tOp (rIx K) (tVar 0) (tVar 2)) (tCons (tOp (rIx K) (tVar 1) (tVar 2)) tNil))) (g := gName 2) (tt := tYes) (vs := [2]) (fun _ => true) (fun _ => PyData.bool true) src (rho0_of rfl) (by rw [List.length_map, List.length_range]; omega) (fun y hyy => by
          obtain ⟨k, hk, rfl⟩ := List.mem_map.mp hyy
          have hk2 : k < xs.length := List.mem_range.mp hk
          have at2 : atI xs (k : Int) = some xs[k] := atI_nat (List.getElem?_eq_getElem hk2)
          refine ⟨_, _, g_name, fun i hi => hi, t_yes, fun _ => ?_⟩
          exact d_callR (ds := [xs[k], xs[k]]) (a_cons (d_op (d_var rfl) (d_var rfl) (ro_sqT at2)) (a_cons (d_op (d_var rfl) (d_var rfl) (ro_sqT at2)) a_nil)) (hR m _ rfl (hy _ (List.getElem_mem hk2))))
        have e : (((List.range xs.length).map natD).filter fun _ => true).map (fun _ => PyData.bool true) = (List.replicate xs.length true).map PyData.bool := by
          rw [List.filter_eq_self.mpr (fun _ _ => rfl), List.map_map, List.map_replicate]
          apply List.ext_getElem
          · simp
          · intro i h1 h2
            simp
        rw [e] at lc
        refine d_boolIs (d_cb (a_cons lc a_nil) rc_all) ?_
        simp
/-! ### _law_deck -/
def sp__law_deck (K : PySem.W.Frag) : Sp := fun vs H Q _ => ∃ (s : Addr) (ns : List Int), vs = [.ref s] ∧ SqL K H s (ns.map V.int) ∧ ns.length ≤ 63 ∧ ∀ a b c H2, H a = none → H b = none → H c = none → Ex H H2 → Dk a b c 0 H2 → Q (.ref a) H2
def T__law_deck (K : PySem.W.Frag) : TS :=
    tSeq (tAsg (tLc (iList K (tVar 0)) (gName 2) tYes (tCB rAbsQ (tCons (tVar 2) tNil)) [2]) (gName 1))
    (tRet (tLst (tCons (tLc (iList K (tVar 1)) (gName 2) (tTest (tOp oGe (tVar 2) (tOp oPow (tC (.int 10)) (tC (.int 18))))) (tVar 2) [2]) (tCons (tOp rCat (tVar 1) (tLst (tCons (tOp oAdd (tCB (rLenQ K) (tCons (tVar 1) tNil)) (tC (.int 5))) tNil))) (tCons (tC (.int 0)) tNil)))))
def absI (i : Int) : Int := if i < 0 then -i else i
theorem given_ints {n : Nat} {f : Nat → Bool} {g : Nat → Int} : Evl.given n f (fun i => .int (g i)) = (((List.range n).filter f).map g).map V.int := by
  unfold Evl.given
  rw [List.map_map]
  rfl
theorem go_deck {N : List Str} {vs : List V} {H : Hp} {Q : VK} {E : XK} (hN : N.length = 3) (hs : sp__law_deck K vs H Q E) : T__law_deck K { nx := fun _ H' => Q .non H', rt := Q } (L2.start N vs) H := by
  obtain ⟨s, ns, rfl, hS, hl, q⟩ := hs
  unfold L2.start
  rw [hN]
  -- cells
  have c1 := Evl.el_lcL (K := K) (σ := [some (.ref s), none, none]) (H := H) (t := tYes) (te := tCB rAbsQ (tCons (tVar 2) tNil)) (j := 2) (vs := [2]) (tl := tVar 0) (a := s) (xs := ns.map V.int) (fun _ => true) (fun i => .int (absI (ns.getD i 0))) (Evl.ev_var rfl) hS (by rw [List.length_map]; omega) (fun x => rfl)
    (fun i x H1 e hx => fun H2 e2 Q q => q H2 (Ex.refl H2)) (fun i x H1 e hx _ => by
      rw [List.getElem?_map] at hx
      cases hi : ns[i]? with
      | none => rw [hi] at hx; cases hx
      | some z =>
        rw [hi] at hx
        have ex : V.int z = x := Option.some.inj hx
        subst ex
        have eg : ns.getD i 0 = z := by rw [List.getD_eq_getElem?_getD, hi]; rfl
        rw [eg]
        exact fun H2 e2 Q q => ⟨_, rfl, z, rfl, q H2 (Ex.refl H2)⟩)
  simp only [T__law_deck, tSeq, tAsg]
  show tLc (iList K (tVar 0)) (gName 2) tYes (tCB rAbsQ (tCons (tVar 2) tNil)) [2] [some (V.ref s), none, none] H _
  refine c1 H (Ex.refl H) _ fun l H1 hl1 e1 hlc => ?_
  rw [given_ints] at hlc
  generalize hcs : (((List.range (ns.map V.int).length).filter fun _ => true).map fun i => absI (ns.getD i 0)) = cs at hlc
  have hcl : cs.length ≤ 63 := by
    rw [← hcs, List.length_map]
    refine Nat.le_trans (List.length_filter_le _ _) ?_
    rw [List.length_range, List.length_map]
    exact hl
  -- the great ones
  have c2 := Evl.el_lcL (K := K) (σ := [some (.ref s), some (.ref l), none]) (H := H1) (t := tTest (tOp oGe (tVar 2) (tOp oPow (tC (.int 10)) (tC (.int 18))))) (te := tVar 2) (j := 2) (vs := [2]) (tl := tVar 1) (a := l) (xs := cs.map V.int) (fun i => decide ((10 : Int) ^ (18 : Int).toNat ≤ cs.getD i 0)) (fun i => .int (cs.getD i 0)) (Evl.ev_var rfl) (.inl (.inl hlc)) (by rw [List.length_map]; omega) (fun x => rfl)
    (fun i x H2 e hx => by
      rw [List.getElem?_map] at hx
      cases hi : cs[i]? with
      | none => rw [hi] at hx; cases hx
      | some z =>
        rw [hi] at hx
        have ex : V.int z = x := Option.some.inj hx
        subst ex
        have eg : cs.getD i 0 = z := by rw [List.getD_eq_getElem?_getD, hi]; rfl
        rw [eg]
        exact fun H3 e3 Q q => ⟨_, rfl, 10, 18, rfl, rfl, ⟨by decide, by decide, by decide⟩, z, _, rfl, rfl, _, rfl, q H3 (Ex.refl H3)⟩)
    (fun i x H2 e hx _ => by
      rw [List.getElem?_map] at hx
      cases hi : cs[i]? with
      | none => rw [hi] at hx; cases hx
      | some z =>
        rw [hi] at hx
        have ex : V.int z = x := Option.some.inj hx
        subst ex
        have eg : cs.getD i 0 = z := by rw [List.getD_eq_getElem?_getD, hi]; rfl
        rw [eg]
        exact fun H3 e3 Q q => ⟨_, rfl, q H3 (Ex.refl H3)⟩)
  simp only [gName, tRet, tLst, tCons]
  show tLc (iList K (tVar 1)) (gName 2) (tTest (tOp oGe (tVar 2) (tOp oPow (tC (.int 10)) (tC (.int 18))))) (tVar 2) [2] [some (V.ref s), some (V.ref l), none] H1 _
  refine c2 H1 (Ex.refl H1) _ fun b H2 hb2 e2 hbb => ?_
  rw [given_ints] at hbb
  generalize hbs : (((List.range (cs.map V.int).length).filter fun i => decide ((10 : Int) ^ (18 : Int).toNat ≤ cs.getD i 0)).map fun i => cs.getD i 0) = bs at hbb
  have hbl : bs.length ≤ 63 := by
    rw [← hbs, List.length_map]
    refine Nat.le_trans (List.length_filter_le _ _) ?_
    rw [List.length_range, List.length_map]
    exact hcl
  have hlc2 := e2 _ _ hlc
  -- cells + [len(cells) + 5]
  refine ⟨.ref l, rfl, .ref l, rfl, l, _, rfl, .inl (.inl (.inl hlc2)), _, 5, rfl, rfl, by show 1 ≤ sizeLine; decide, fun p hp => ?_⟩
  have npl : l ≠ p := ne_of_none hlc2 hp
  have npb : b ≠ p := ne_of_none hbb hp
  refine ⟨l, p, _, _, rfl, rfl, by rw [upd_ne npl]; exact hlc2, upd_same, by rw [List.length_map]; exact Evl.sz_of (by show cs.length + 1 ≤ 100000; omega), fun c hc => ?_⟩
  have ncb : b ≠ c := ne_of_none (show (upd H2 p (.lst [.int (((cs.map V.int).length : Int) + 5)])) b = some _ by rw [upd_ne npb]; exact hbb) hc
  have ncp : p ≠ c := ne_of_none (show (upd H2 p (.lst [.int (((cs.map V.int).length : Int) + 5)])) p = some _ from upd_same) hc
  refine ⟨by show 3 ≤ sizeLine; decide, fun a ha => ?_⟩
  have nab : b ≠ a := ne_of_none (show (upd (upd H2 p (.lst [.int (((cs.map V.int).length : Int) + 5)])) c (.lst (cs.map V.int ++ [.int (((cs.map V.int).length : Int) + 5)]))) b = some _ by rw [upd_ne ncb, upd_ne npb]; exact hbb) ha
  have nac : c ≠ a := ne_of_none (show (upd (upd H2 p (.lst [.int (((cs.map V.int).length : Int) + 5)])) c (.lst (cs.map V.int ++ [.int (((cs.map V.int).length : Int) + 5)]))) c = some _ from upd_same) ha
  have e12 : Ex H H2 := e1.trans e2
  have e23 : Ex H2 (upd (upd H2 p (.lst [.int (((cs.map V.int).length : Int) + 5)])) c (.lst (cs.map V.int ++ [.int (((cs.map V.int).length : Int) + 5)]))) := (Ex.new hp).trans (Ex.new hc)
  refine q a b c _ (Evl.fresh_back (e12.trans e23) ha) (Evl.fresh_back e1 hb2) (Evl.fresh_back (e12.trans (Ex.new hp)) hc) ((e12.trans e23).trans (Ex.new ha)) ⟨bs, cs ++ [((cs.map V.int).length : Int) + 5], 0, upd_same, ?_, ?_, ncb, by simp, by decide, by decide, by omega, by rw [List.length_append]; show cs.length + 1 ≤ 1000; omega⟩
  · rw [upd_ne nab, upd_ne ncb, upd_ne npb]
    exact hbb
  · rw [upd_ne nac, upd_same, List.map_append]
    rfl
end
/-! ### the built-ins' names are the built-ins -/
structure Bm (mg : Str → Option Value) : Prop where
  n_len : mg "len" = none
  n_range : mg "range" = none
  n_tuple : mg "tuple" = none
  n_list : mg "list" = none
  n_int : mg "int" = none
  n_bool : mg "bool" = none
  n_str : mg "str" = none
  n_dict : mg "dict" = none
  n_set : mg "set" = none
  n_abs : mg "abs" = none
  n_sum : mg "sum" = none
  n_all : mg "all" = none
  n_any : mg "any" = none
  n_min : mg "min" = none
  n_max : mg "max" = none
  n_sorted : mg "sorted" = none
  n_zip : mg "zip" = none
  n_enumerate : mg "enumerate" = none
  n_reversed : mg "reversed" = none
  n_isinstance : mg "isinstance" = none
/-- a def that is never called: any promise that asks what can't be -/
theorem cal_bot {P : Program} {w : World} {K : PySem.W.Frag} {mg : Str → Option Value} {base : Heap} {x : Str} {st : Stmt} {ps : List Str} {k : Nat} (F : Dfn K mg x st ps) : C8.Cal P w K mg base k x (spR fun _ _ => False) [] := by
  obtain ⟨f, fd, F, hm, b⟩ := F.ex
  exact ⟨f, fd, ps, [], ⟨fun vs H Q E h => by obtain ⟨_, _, _, _, _, z, _⟩ := h; exact z.elim, fun A outer s H args us vs Q E _ _ _ _ h => by obtain ⟨_, _, _, _, _, z, _⟩ := h; exact z.elim⟩, hm, F.kp, b, .nil⟩
end Un

/-! ## UnDoors -/
namespace Un
open PySem PySem.Spec PyProof.Rows L2
open Evl (Ex)
/-! ### weaker slots; a for that draws in each turn -/
inductive Wkn : Rho → Rho → Prop
  | nil : Wkn [] []
  | same {r : Sl} {ρ ρ' : Rho} : Wkn ρ ρ' → Wkn (r :: ρ) (r :: ρ')
  | un {r : Sl} {ρ ρ' : Rho} : Wkn ρ ρ' → Wkn (r :: ρ) (.un :: ρ')
theorem Wkn.refl : ∀ ρ : Rho, Wkn ρ ρ
  | [] => .nil
  | _ :: ρ => .same (Wkn.refl ρ)
theorem En.weak {H : Hp} : ∀ {ρ ρ' : Rho} {σ : L2.St}, Wkn ρ ρ' → En H σ ρ → En H σ ρ'
  | _, _, _, .nil, h => h
  | _, _, [], .same _, h => nomatch h.1
  | _, _, [], .un _, h => nomatch h.1
  | _, _, o :: σ, .same (r := r) (ρ := ρ) w, h => by
    have t : En H σ ρ := ⟨by have := h.1; simpa using this, fun i q hi => h.2 (i + 1) q (by simpa using hi)⟩
    obtain ⟨o', h1, h2⟩ := h.2 0 r rfl
    have e : o = o' := by simpa using h1
    subst e
    exact en_cons h2 (En.weak w t)
  | _, _, o :: σ, .un (ρ := ρ) w, h => by
    have t : En H σ ρ := ⟨by have := h.1; simpa using this, fun i q hi => h.2 (i + 1) q (by simpa using hi)⟩
    exact en_cons trivial (En.weak w t)
theorem sw_for {a : Addr} {wi : TI} {g : TG} {tb : TS} {xs : List PD} {ρ : Rho} {m : Nat} (hs : Es wi ρ xs)
    (hb : ∀ x ∈ xs, ∃ ρ1 vs, Gd g x ρ ρ1 vs ∧ Sw a tb ρ1 m (fun o => ∃ ρ', (o = .nxt ρ' ∨ o = .cnt ρ') ∧ Wkn ρ' ρ)) : Sw a (tFor wi g tb) ρ (xs.length * m) (fun o => ∃ ρ', o = .nxt ρ' ∧ ρ' = ρ) := fun b c n S σ H D ha hb' al en dk hn q => by
  refine for_w hs al en S (fun H1 i σ' H' => En (hid S H') σ' ρ ∧ Kp a b H H' ∧ Dk a b c (n + i * m) H' ∧ Al S H' ∧ i ≤ xs.length ∧ Ex (hid S H1) (hid S H')) (fun H1 e1 => ?_) (fun H1 i σ' H' e1 hv => ⟨hv.2.2.2.1, hv.2.2.2.2.2⟩) (fun H1 i x σ' H' v H3 e1 hx hv e3 rv => ?_) (fun H1 σ' H' e1 hv => ?_)
  · exact ⟨en.ex (hid_ex e1), Kp.of e1, by simpa using dk.exx e1, al.ex e1, Nat.zero_le _, Ex.refl _⟩
  · obtain ⟨en2, kp2, dk2, al2, hi, ee⟩ := hv
    have hi2 : i < xs.length := (List.getElem?_eq_some_iff.mp hx).1
    obtain ⟨ρ1, vs, gd, sw⟩ := hb x (List.mem_of_getElem? hx)
    have hm : i * m + m ≤ xs.length * m := by
      have z : (i + 1) * m ≤ xs.length * m := Nat.mul_le_mul_right _ hi2
      rw [Nat.add_mul, Nat.one_mul] at z
      exact z
    refine gd S σ' H3 v (al2.ex e3) (en2.ex (hid_ex e3)) rv _ fun σ4 en4 _ => sw b c (n + i * m) S σ4 H3 _ ha hb' (al2.ex e3) en4 (dk2.exx e3) (by omega) fun o ho => ?_
    obtain ⟨ρ', ho, wk⟩ := ho
    have fin : ∀ σ5 H5, Kp a b H3 H5 → Dk a b c (n + i * m + m) H5 → En (hid S H5) σ5 ρ' → En (hid S H5) σ5 ρ ∧ Kp a b H H5 ∧ Dk a b c (n + (i + 1) * m) H5 ∧ Al S H5 ∧ i + 1 ≤ xs.length ∧ Ex (hid S H1) (hid S H5) := fun σ5 H5 k5 d5 en5 => by
      refine ⟨en5.weak wk, (kp2.trans (Kp.of e3)).trans k5, ?_, d5.al k5 (al2.ex e3), hi2, (ee.trans (hid_ex e3)).trans (k5.hid ha hb')⟩
      have e : n + i * m + m = n + (i + 1) * m := by rw [Nat.add_mul, Nat.one_mul]; omega
      rw [← e]
      exact d5
    rcases ho with rfl | rfl
    · exact fin
    · exact fin
  · obtain ⟨en2, kp2, dk2, al2, hi, ee⟩ := hv
    exact q _ ⟨ρ, rfl, rfl⟩ σ' H' kp2 dk2 en2
theorem sw_weak {a : Addr} {t : TS} {ρ ρ' : Rho} {m : Nat} {P : Ou → Prop} (w : Wkn ρ ρ') (h : Sw a t ρ' m P) : Sw a t ρ m P := fun b c n S σ H D ha hb al en dk hn q => h b c n S σ H D ha hb al (en.weak w) dk hn q
/-! ### in_doors, out_doors, doors -/
theorem pairs_eq (xs : List PD) : pairsOf xs = (List.range xs.length).map fun i => .tuple [natD i, xs.getD i .none] := by
  unfold pairsOf
  apply List.ext_getElem
  · simp
  · intro i h1 h2
    simp at h1
    simp [natD, h1]
/-- which items of an enumerated tuple give, and what -/
theorem enum_pick {α : Type} (xs : List α) (enc : α → PD) (p : α → Bool) (f : PD → Bool) (w : PD → PD) (hf : ∀ i x, f (.tuple [natD i, enc x]) = p x) (hw : ∀ i x, w (.tuple [natD i, enc x]) = natD i) :
    ((pairsOf (xs.map enc)).filter f).map w = ((List.range xs.length).filter fun i => (xs[i]?.map p) == some true).map natD := by
  rw [pairs_eq, List.length_map, List.filter_map, List.map_map]
  have e : ∀ i ∈ List.range xs.length, (f ∘ fun i => PyData.tuple [natD i, (xs.map enc).getD i .none]) i = ((xs[i]?.map p) == some true) := fun i hi => by
    have hl := List.mem_range.mp hi
    show f (.tuple [natD i, (xs.map enc).getD i .none]) = _
    rw [List.getD_eq_getElem?_getD, List.getElem?_map, List.getElem?_eq_getElem hl]
    show f (.tuple [natD i, enc xs[i]]) = (some (p xs[i]) == some true)
    rw [hf]
    cases p xs[i] <;> rfl
  rw [List.filter_congr e]
  apply List.map_congr_left
  intro i hi
  have hl := List.mem_range.mp (List.mem_filter.mp hi).1
  show w (.tuple [natD i, (xs.map enc).getD i .none]) = natD i
  rw [List.getD_eq_getElem?_getD, List.getElem?_map, List.getElem?_eq_getElem hl]
  exact hw i _
def isIn (r : Road) : Bool := r.b.isNone
def isOut (r : Road) : Bool := r.e.isNone
def pick (rs : List Road) (p : Road → Bool) : List Nat := (List.range rs.length).filter fun i => (rs[i]?.map p) == some true
def inDoors (W : Web) : List Nat := pick W.roads isIn
def outDoors (W : Web) : List Nat := pick W.roads isOut
def doorsOf (W : Web) : List Nat := pick W.roads fun r => isIn r || isOut r
theorem isNone_opt (o : Option Nat) : isNone (optD o) = o.isNone := by cases o <;> rfl
section
variable {K : PySem.W.Frag}
theorem d_roads {ρ : Rho} {i : Nat} {W : Web} (h : ρ[i]? = some (.dat (webD W))) : Ed (tOp (rIx K) (tVar i) (tC (.int 0))) ρ (.dat (.tuple (W.roads.map roadD))) :=
  d_op (d_var (d := .tuple [.tuple (W.roads.map roadD), .tuple (W.gives.map natsD), .tuple (W.takes.map natsD)]) h) d_int (ro_sqT rfl)
theorem d_gives {ρ : Rho} {i : Nat} {W : Web} (h : ρ[i]? = some (.dat (webD W))) : Ed (tOp (rIx K) (tVar i) (tC (.int 1))) ρ (.dat (.tuple (W.gives.map natsD))) :=
  d_op (d_var (d := .tuple [.tuple (W.roads.map roadD), .tuple (W.gives.map natsD), .tuple (W.takes.map natsD)]) h) d_int (ro_sqT rfl)
theorem d_takes {ρ : Rho} {i : Nat} {W : Web} (h : ρ[i]? = some (.dat (webD W))) : Ed (tOp (rIx K) (tVar i) (tC (.int 2))) ρ (.dat (.tuple (W.takes.map natsD))) :=
  d_op (d_var (d := .tuple [.tuple (W.roads.map roadD), .tuple (W.gives.map natsD), .tuple (W.takes.map natsD)]) h) d_int (ro_sqT rfl)
def Rdoor (g : Web → List Nat) : List PD → PD → Prop := fun ds d => ∃ W, ds = [webD W] ∧ W.roads.length ≤ 1000 ∧ d = natsD (g W)
def sp_in_doors : Sp := spR (Rdoor inDoors)
def sp_out_doors : Sp := spR (Rdoor outDoors)
def sp_doors : Sp := spR (Rdoor doorsOf)
def T_in_doors (K : PySem.W.Frag) : TS :=
    tRet (tCB (rTupQ K) (tCons (tLc (iEnumT K (tCons (tOp (rIx K) (tVar 0) (tC (.int 0))) tNil)) (gTup K 2 (gCons (gName 1) (gCons (gName 2) gNil))) (tTest (tOp oIsN (tOp (rIx K) (tVar 2) (tC (.int 0))) (tC .non))) (tVar 1) [1, 2]) tNil))
def T_out_doors (K : PySem.W.Frag) : TS :=
    tRet (tCB (rTupQ K) (tCons (tLc (iEnumT K (tCons (tOp (rIx K) (tVar 0) (tC (.int 0))) tNil)) (gTup K 2 (gCons (gName 1) (gCons (gName 2) gNil))) (tTest (tOp oIsN (tOp (rIx K) (tVar 2) (tC (.int 1))) (tC .non))) (tVar 1) [1, 2]) tNil))
def T_doors (K : PySem.W.Frag) : TS :=
    tRet (tCB (rTupQ K) (tCons (tLc (iEnumT K (tCons (tOp (rIx K) (tVar 0) (tC (.int 0))) tNil)) (gTup K 2 (gCons (gName 1) (gCons (gName 2) gNil))) (tOr (tTest (tOp oIsN (tOp (rIx K) (tVar 2) (tC (.int 0))) (tC .non))) (tTest (tOp oIsN (tOp (rIx K) (tVar 2) (tC (.int 1))) (tC .non)))) (tVar 1) [1, 2]) tNil))
theorem e_doorlike {tt : TT} {p : Road → Bool} (ht : ∀ (i : Nat) (r : Road) (W : Web), Et tt [.dat (webD W), .dat (natD i), .dat (roadD r)] (p r)) {ds : List PD} {d : PD} (h : Rdoor (fun W => pick W.roads p) ds d) :
    Sd (tRet (tCB (rTupQ K) (tCons (tLc (iEnumT K (tCons (tOp (rIx K) (tVar 0) (tC (.int 0))) tNil)) (gTup K 2 (gCons (gName 1) (gCons (gName 2) gNil))) tt (tVar 1) [1, 2]) tNil))) (ds.map Sl.dat ++ List.replicate 2 Sl.un) (.ret d) := by
  obtain ⟨W, rfl, hl, rfl⟩ := h
  let dec : PD → Option Nat := fun d => match d with
    | .none => none
    | .int k => some k.toNat
    | _ => none
  have hdec : ∀ o, dec (optD o) = o := fun o => by
    cases o with
    | none => rfl
    | some k => show some ((k : Nat) : Int).toNat = some k; congr 1
  let f : PD → Bool := fun d => match d with
    | .tuple [_, .tuple [x, y, .int z]] => p ⟨dec x, dec y, z⟩
    | _ => false
  let w : PD → PD := fun d => match d with
    | .tuple (x :: _) => x
    | d => d
  have hf : ∀ i x, f (.tuple [natD i, roadD x]) = p x := fun i x => by
    show p ⟨dec (optD x.b), dec (optD x.e), x.r⟩ = p x
    rw [hdec, hdec]
  have lc := d_lc (te := tVar 1) (tt := tt) (g := gTup K 2 (gCons (gName 1) (gCons (gName 2) gNil))) (vs := [1, 2]) (ρ := [webD W].map Sl.dat ++ List.replicate 2 Sl.un) f w
    (es_enumT (K := K) (xs := W.roads.map roadD) (a_cons (d_roads (K := K) (i := 0) rfl) a_nil)) (by
      intro v hv r hr
      have e : v = 1 ∨ v = 2 := by simpa using hv
      rcases e with e | e <;> (subst e; exact (Option.some.inj hr).symm)) (by rw [pairs_eq]; simp; omega) (fun x hx => by
      rw [pairs_eq] at hx
      obtain ⟨i, hi, rfl⟩ := List.mem_map.mp hx
      have hi2 : i < W.roads.length := by
        have z := List.mem_range.mp hi
        simpa using z
      have e1 : (W.roads.map roadD).getD i .none = roadD W.roads[i] := by
        rw [List.getD_eq_getElem?_getD, List.getElem?_map, List.getElem?_eq_getElem hi2]
        rfl
      rw [e1, hf]
      exact ⟨_, _, g_tup (g_cons g_name (g_cons g_name g_nil)) rfl, fun j hj => hj, ht i _ W, fun _ => d_var rfl⟩)
  rw [enum_pick W.roads roadD p f w hf (fun i x => rfl)] at lc
  exact sd_ret (d_cb (a_cons lc a_nil) rc_tupL)
theorem e_in {ds : List PD} {d : PD} (h : Rdoor inDoors ds d) : Sd (T_in_doors K) (ds.map Sl.dat ++ List.replicate 2 Sl.un) (.ret d) :=
  e_doorlike (p := isIn) (fun i r W => t_is (t_test (d_op (d_op (d_var (d := .tuple [optD r.b, optD r.e, .int r.r]) rfl) d_int (ro_sqT rfl)) d_non ro_isN)) (isNone_opt _)) h
theorem e_out {ds : List PD} {d : PD} (h : Rdoor outDoors ds d) : Sd (T_out_doors K) (ds.map Sl.dat ++ List.replicate 2 Sl.un) (.ret d) :=
  e_doorlike (p := isOut) (fun i r W => t_is (t_test (d_op (d_op (d_var (d := .tuple [optD r.b, optD r.e, .int r.r]) rfl) d_int (ro_sqT rfl)) d_non ro_isN)) (isNone_opt _)) h
theorem e_doors {ds : List PD} {d : PD} (h : Rdoor doorsOf ds d) : Sd (T_doors K) (ds.map Sl.dat ++ List.replicate 2 Sl.un) (.ret d) :=
  e_doorlike (p := fun r => isIn r || isOut r) (fun i r W => t_is (t_or (t_test (d_op (d_op (d_var (d := .tuple [optD r.b, optD r.e, .int r.r]) rfl) d_int (ro_sqT rfl)) d_non ro_isN)) fun _ => t_test (d_op (d_op (d_var (d := .tuple [optD r.b, optD r.e, .int r.r]) rfl) d_int (ro_sqT rfl)) d_non ro_isN)) (by rw [isNone_opt, isNone_opt]; rfl)) h
end
end Un

/-! ## UnRound -/
namespace Un
open PySem PySem.Spec PyProof.Rows L2
open Evl (Ex)
/-! ### more on data -/
theorem En.re {H : Hp} {σ : L2.St} {ρ : Rho} {i : Nat} {o : Option V} {r : Sl} (h : En H σ ρ) (hi : σ[i]? = some o) (hr : SlOk H o r) : En H σ (ρ.set i r) := by
  have e : σ.set i o = σ := by
    apply List.ext_getElem?
    intro k
    by_cases c : i = k
    · subst c
      rw [List.getElem?_set_self (List.getElem?_eq_some_iff.mp hi).1, hi]
    · rw [List.getElem?_set_ne c]
  have z := h.set i hr
  rw [e] at z
  exact z
section
variable {K : PySem.W.Frag} {ρ : Rho}
theorem ro_cat {xs ys : List PD} (h : xs.length + ys.length ≤ 100000) : Ro rCat (.dat (.list xs)) (.dat (.list ys)) (.dat (.list (xs ++ ys))) := fun S H vx vy al rx ry Q q => by
  cases rx.val with
  | lst ha ra =>
    cases ry.val with
    | lst hb rb =>
      exact ⟨_, _, _, _, rfl, rfl, hid_le _ _ ha, hid_le _ _ hb, by rw [ra.length, rb.length]; exact Evl.sz_of h, fun p hp => q _ _ (Ex.new hp) (.of (.lst (new_ok al hp) ((ra.append rb).ex (hid_ex (Ex.new hp)))))⟩
theorem d_neg {te : TE} {i : Int} (h : Ed te ρ (.dat (.int i))) : Ed (tUn oNeg te) ρ (.dat (.int (-i))) := fun S σ H al en Q q => h S σ H al en _ fun v H1 e1 rv => by
  cases rv.val
  exact ⟨i, rfl, q _ H1 e1 (.of (.int _))⟩
def optV : Option Nat → V
  | none => .non
  | some k => .int (k : Nat)
theorem Rp.opt {H : Hp} {v : V} {o : Option Nat} (r : Rp H v (optD o)) : v = optV o := by
  cases o with
  | none => cases r; rfl
  | some k => cases r; rfl
theorem RpAll.opts {H : Hp} : ∀ {vs : List V} {l : List (Option Nat)}, RpAll H vs (l.map optD) → vs = l.map optV
  | _, [], .nil => rfl
  | _, o :: l, .cons h t => by rw [h.opt, RpAll.opts t]; rfl
theorem eqV_opt (o p : Option Nat) : eqV (optV o) (optV p) = (o == p) := by
  cases o <;> cases p
  · rfl
  · rfl
  · rfl
  · rename_i a b
    show ((a : Int) == (b : Int)) = (some a == some b)
    rw [Bool.eq_iff_iff]
    simp
    omega
theorem flat_opts (l : List (Option Nat)) : (l.map optV).all flatV = true := by
  rw [List.all_map]
  refine List.all_eq_true.mpr fun o _ => ?_
  cases o <;> rfl
theorem flat_opt (o : Option Nat) : flatV (optV o) = true := by cases o <;> rfl
theorem inV_opts (o : Option Nat) (l : List (Option Nat)) : inV (optV o) (l.map optV) = l.contains o := by
  unfold inV
  rw [List.any_map, List.contains_eq_any_beq]
  congr 1
  funext y
  show eqV (optV y) (optV o) = _
  rw [eqV_opt, Bool.eq_iff_iff]
  simp
  exact eq_comm
theorem ro_notIn {o : Option Nat} {l : List (Option Nat)} : Ro (rIn K true) (.dat (optD o)) (.dat (.list (l.map optD))) (.dat (.bool (!l.contains o))) := fun S H vx vy al rx ry Q q => by
  have ex := rx.val.opt
  subst ex
  generalize hd : PyData.list (l.map optD) = d at ry
  cases ry.val with
  | lst ha ra =>
    have e := PyData.list.inj hd
    subst e
    have ey := ra.opts
    subst ey
    refine ⟨_, _, rfl, .inl (.inl (.inl (hid_le _ _ ha))), flat_opt o, flat_opts l, q _ H (Ex.refl H) (.of ?_)⟩
    show Rp _ (V.bl (!inV _ _)) _
    rw [inV_opts]
    exact .bl _
  | _ => cases hd
theorem ro_inT {o : Option Nat} {l : List (Option Nat)} : Ro (rIn K false) (.dat (optD o)) (.dat (.tuple (l.map optD))) (.dat (.bool (l.contains o))) := fun S H vx vy al rx ry Q q => by
  have ex := rx.val.opt
  subst ex
  generalize hd : PyData.tuple (l.map optD) = d at ry
  cases ry.val with
  | tup ha ra =>
    have e := PyData.tuple.inj hd
    subst e
    have ey := ra.opts
    subst ey
    refine ⟨_, _, rfl, .inr (.inl (.inl (hid_le _ _ ha))), flat_opt o, flat_opts l, q _ H (Ex.refl H) (.of ?_)⟩
    show Rp _ (V.bl (inV _ _)) _
    rw [inV_opts]
    exact .bl _
  | _ => cases hd
/-- xs.index(y), y in xs -/
theorem d_index {te tf : TE} {o : Option Nat} {l : List (Option Nat)} {j : Nat} (h1 : Ed te ρ (.dat (.list (l.map optD)))) (h2 : Ed tf ρ (.dat (optD o))) (hj : l[j]? = some o) (hf : ∀ m : Nat, m < j → l[m]? ≠ some o) :
    Ed (tBM K "list" (rIndex K) te (tCons tf tNil)) ρ (.dat (natD j)) := fun S σ H al en Q q => h1 S σ H al en _ fun v H1 e1 rv => by
  have rv' := rv.val
  generalize hd : PyData.list (l.map optD) = d at rv'
  cases rv' with
  | lst ha ra =>
    have e := PyData.list.inj hd
    subst e
    have ey := ra.opts
    subst ey
    refine ⟨.inl ⟨rfl, _, .inl (.inl (hid_le _ _ ha))⟩, h2 S σ H1 (al.ex e1) (en.ex (hid_ex e1)) _ fun w H2 e2 rw2 => ?_⟩
    have ew := rw2.val.opt
    subst ew
    refine ⟨_, _, _, j, optV o, rfl, rfl, .inl (.inl (e2 _ _ (hid_le _ _ ha))), flat_opt o, flat_opts l, by rw [List.getElem?_map, hj]; rfl, by rw [eqV_opt]; simp, fun m z hm hz => ?_, q _ H2 (e1.trans e2) (.of (.int _))⟩
    rw [List.getElem?_map] at hz
    cases hq : l[m]? with
    | none => rw [hq] at hz; cases hz
    | some p =>
      rw [hq] at hz
      have ez : optV p = z := Option.some.inj hz
      subst ez
      rw [eqV_opt]
      have ne := hf m hm
      rw [hq] at ne
      simpa using ne
  | _ => cases hd
theorem RpAll.drop {H : Hp} : ∀ (k : Nat) {vs : List V} {ds : List PD}, RpAll H vs ds → RpAll H (vs.drop k) (ds.drop k)
  | 0, _, _, r => r
  | _ + 1, _, _, .nil => .nil
  | k + 1, _, _, .cons _ t => RpAll.drop k t
/-- xs[j:] -/
theorem d_from {te tf : TE} {xs : List PD} {j : Nat} (h1 : Ed te ρ (.dat (.list xs))) (h2 : Ed tf ρ (.dat (natD j))) : Ed (tSl (rSlL K) te (tPart tf) tNoPart) ρ (.dat (.list (xs.drop j))) := fun S σ H al en Q q => h1 S σ H al en _ fun v H1 e1 rv => by
  refine h2 S σ H1 (al.ex e1) (en.ex (hid_ex e1)) _ fun w H2 e2 rw2 => ?_
  cases rw2.val
  refine ⟨(j : Int), rfl, ?_⟩
  cases rv.val with
  | lst ha ra =>
    rename_i a vs
    refine ⟨a, vs, rfl, .inl (.inl (e2 _ _ (hid_le _ _ ha))), fun p hp => q _ _ ((e1.trans e2).trans (Ex.new hp)) (.of (.lst (xs := cutV vs (some (j : Int)) none) (new_ok ((al.ex e1).ex e2) hp) ?_))⟩
    have ec : cutV vs (some (j : Int)) none = vs.drop j := by
      unfold cutV
      rw [HT.sIx_nat, HT.sIx_none]
      by_cases c : j ≤ vs.length
      · rw [Nat.min_eq_left c]
        exact List.take_of_length_le (by rw [List.length_drop]; exact Nat.le_refl _)
      · rw [Nat.min_eq_right (by omega), List.drop_eq_nil_of_le (Nat.le_refl _), List.drop_eq_nil_of_le (by omega)]
        simp
    rw [ec]
    exact (ra.drop j).ex ((hid_ex e2).trans (hid_ex (Ex.new hp)))
/-- [x for x in xs if test] over natural numbers -/
theorem d_filterN {tl : TE} {tt : TT} {ns : List Nat} {p : Nat → Bool} {j : Nat} (hs : Ed tl ρ (.dat (.list (ns.map natD)))) (hj : ρ[j]? = some .un) (hl : ns.length ≤ 40000) (ht : ∀ k ∈ ns, Et tt (ρ.set j (.dat (natD k))) (p k)) :
    Ed (tLc (iList K tl) (gName j) tt (tVar j) [j]) ρ (.dat (.list ((ns.filter p).map natD))) := by
  let f : PD → Bool := fun d => match d with
    | .int k => p k.toNat
    | _ => false
  have fk : ∀ k : Nat, f (natD k) = p k := fun k => by
    show p (((k : Nat) : Int).toNat) = p k
    rw [show ((k : Nat) : Int).toNat = k by omega]
  have lc := d_lc f id (es_list (K := K) hs) (rho0_of hj) (by rw [List.length_map]; exact hl) (te := tVar j) (tt := tt) (g := gName j) (fun x hx => by
    obtain ⟨k, hk, rfl⟩ := List.mem_map.mp hx
    exact ⟨_, _, g_name, fun i hi => hi, t_is (ht k hk) (fk k).symm, fun _ => d_var (List.getElem?_set_self (List.getElem?_eq_some_iff.mp hj).1)⟩)
  have e : ((ns.map natD).filter f).map id = (ns.filter p).map natD := by
    rw [List.map_id, List.filter_map]
    exact congrArg (List.map natD) (List.filter_congr fun k _ => fk k)
  rw [e] at lc
  exact lc
/-- [k for k in range(len(..)) if test] -/
theorem d_filterR {ta : TA} {tt : TT} {n : Nat} {p : Nat → Bool} {j : Nat} (hs : Ea ta ρ [.dat (natD n)]) (hj : ρ[j]? = some .un) (hl : n ≤ 40000) (ht : ∀ k, k < n → Et tt (ρ.set j (.dat (natD k))) (p k)) :
    Ed (tLc (iRng1 ta) (gName j) tt (tVar j) [j]) ρ (.dat (.list (((List.range n).filter p).map natD))) := by
  let f : PD → Bool := fun d => match d with
    | .int k => p k.toNat
    | _ => false
  have fk : ∀ k : Nat, f (natD k) = p k := fun k => by
    show p (((k : Nat) : Int).toNat) = p k
    rw [show ((k : Nat) : Int).toNat = k by omega]
  have src : Es (iRng1 ta) ρ ((List.range n).map natD) := by
    have z := es_rng1 (ρ := ρ) (n := (n : Int)) hs (by omega) (by omega)
    rw [show ((n : Nat) : Int).toNat = n by omega] at z
    exact z
  have lc := d_lc f id src (rho0_of hj) (by rw [List.length_map, List.length_range]; exact hl) (te := tVar j) (tt := tt) (g := gName j) (fun x hx => by
    obtain ⟨k, hk, rfl⟩ := List.mem_map.mp hx
    exact ⟨_, _, g_name, fun i hi => hi, t_is (ht k (List.mem_range.mp hk)) (fk k).symm, fun _ => d_var (List.getElem?_set_self (List.getElem?_eq_some_iff.mp hj).1)⟩)
  have e : (((List.range n).map natD).filter f).map id = ((List.range n).filter p).map natD := by
    rw [List.map_id, List.filter_map]
    exact congrArg (List.map natD) (List.filter_congr fun k _ => fk k)
  rw [e] at lc
  exact lc
theorem t_empty {te : TE} {xs : List PD} (h : Ed te ρ (.dat (.list xs))) (hs : SeqAt.shaped (.list xs) = true) : Et (tTest (tOp (rEqD K) te (tLst tNil))) ρ xs.isEmpty := by
  refine t_is (t_test (d_op h (d_lst (ds := []) a_nil (by decide)) (ro_eqD hs rfl))) ?_
  cases xs <;> rfl
theorem t_full {te : TE} {xs : List PD} (h : Ed te ρ (.dat (.list xs))) (hs : SeqAt.shaped (.list xs) = true) : Et (tTest (tOp (rNeD K) te (tLst tNil))) ρ (!xs.isEmpty) := by
  refine t_is (t_test (d_op h (d_lst (ds := []) a_nil (by decide)) (ro_neD hs rfl))) ?_
  cases xs <;> rfl
theorem shaped_nats (ns : List Nat) : SeqAt.shaped (.list (ns.map natD)) = true := by
  have e : ns.map natD = (ns.map fun k => ((k : Nat) : Int)).map PyData.int := by rw [List.map_map]; rfl
  rw [e]
  exact PySem.W.shaped_ints _
end
/-! ### rounds: rows of roads with room left that come round, or lead from outside to outside -/
def Web.rd (W : Web) (k : Nat) : Road := W.roads.getD k ⟨none, none, 0⟩
def litOf (W : Web) (bs : List Int) : List Nat := (List.range W.roads.length).filter fun k => decide (bs.getD k 0 < (W.rd k).r)
structure IsRound (W : Web) (bs : List Int) (row : List Nat) : Prop where
  lit : ∀ k ∈ row, k < W.roads.length ∧ bs.getD k 0 < (W.rd k).r
  nd : row.Nodup
  bal : (row.map fun k => (W.rd k).e).Perm (row.map fun k => (W.rd k).b)
/-- each goes on from the house where the one ahead ends; no house twice -/
structure Chained (W : Web) (row : List Nat) : Prop where
  tied : (row.map fun k => (W.rd k).e).dropLast = (row.map fun k => (W.rd k).b).tail
  nd : (row.map fun k => (W.rd k).b).Nodup
theorem nodup_of_map {α β : Type} (f : α → β) : ∀ {l : List α}, (l.map f).Nodup → l.Nodup
  | [], _ => .nil
  | a :: l, h => by
    rw [List.map_cons, List.nodup_cons] at h
    rw [List.nodup_cons]
    exact ⟨fun z => h.1 (List.mem_map_of_mem z), nodup_of_map f h.2⟩
theorem nodup_bound : ∀ (n : Nat) (l : List Nat), l.Nodup → (∀ k ∈ l, k < n) → l.length ≤ n
  | 0, [], _, _ => Nat.le_refl _
  | 0, a :: l, _, h => absurd (h a (List.mem_cons_self ..)) (Nat.not_lt_zero _)
  | n + 1, l, nd, h => by
    have h2 := nodup_bound n (l.filter fun k => decide (k ≠ n)) (nd.filter _) (fun k hk => by
      obtain ⟨h1, h2⟩ := List.mem_filter.mp hk
      have := h k h1
      have := of_decide_eq_true h2
      omega)
    have h3 : (l.filter fun k => decide (k = n)).length ≤ 1 := by
      have e : ∀ (l : List Nat), l.Nodup → (l.filter fun k => decide (k = n)).length ≤ 1 := by
        intro l
        induction l with
        | nil => intro _; simp
        | cons a l ih =>
          intro nd
          rw [List.nodup_cons] at nd
          by_cases c : a = n
          · have e0 : l.filter (fun k => decide (k = n)) = [] := by
              rw [List.filter_eq_nil_iff]
              intro x hx hz
              have := of_decide_eq_true hz
              subst this
              subst c
              exact nd.1 hx
            rw [List.filter_cons, if_pos (by simpa using c), e0]
            simp
          · rw [List.filter_cons, if_neg (by simpa using c)]
            exact ih nd.2
      exact e l nd
    have h4 : l.length = (l.filter fun k => decide (k ≠ n)).length + (l.filter fun k => decide (k = n)).length := by
      clear h2 h3 nd h
      induction l with
      | nil => rfl
      | cons a l ih =>
        rw [List.length_cons, ih, List.filter_cons, List.filter_cons]
        by_cases c : a = n
        · rw [if_neg (by simpa using c), if_pos (by simpa using c), List.length_cons]
          omega
        · rw [if_pos (by simpa using c), if_neg (by simpa using c), List.length_cons]
          omega
    omega
theorem chained_drop {W : Web} {row : List Nat} {bs : List Int} {j : Nat} {x : Option Nat} (h : Chained W row) (hl : ∀ k ∈ row, k < W.roads.length ∧ bs.getD k 0 < (W.rd k).r)
    (he : (row.map fun k => (W.rd k).e).getLast? = some x) (hx : (row.map fun k => (W.rd k).b)[j]? = some x) : IsRound W bs (row.drop j) := by
  refine ⟨fun k hk => hl k (List.mem_of_mem_drop hk), (nodup_of_map _ h.nd).sublist (List.drop_sublist _ _), ?_⟩
  have t := h.tied
  have lBE : (row.map fun k => (W.rd k).b).length = (row.map fun k => (W.rd k).e).length := by rw [List.length_map, List.length_map]
  rw [List.map_drop, List.map_drop]
  generalize (row.map fun k => (W.rd k).b) = Bs at *
  generalize (row.map fun k => (W.rd k).e) = Es' at *
  obtain ⟨hj, ej⟩ := List.getElem?_eq_some_iff.mp hx
  have hne : Es' ≠ [] := fun z => by rw [z] at lBE; simp at lBE; rw [lBE] at hj; simp at hj
  have e1 : Es' = Bs.tail ++ [x] := by
    have z := List.dropLast_concat_getLast hne
    rw [t] at z
    rw [List.getLast?_eq_getLast hne] at he
    rw [← z, Option.some.inj he]
  have e2 : Bs.drop j = x :: Bs.drop (j + 1) := by rw [List.drop_eq_getElem_cons hj, ej]
  have e3 : Es'.drop j = Bs.drop (j + 1) ++ [x] := by
    rw [e1, List.drop_append_of_le_length (by rw [List.length_tail]; omega), List.drop_tail]
  rw [e3, e2]
  exact List.perm_append_singleton _ _
end Un

/-! ## UnRound2 -/
namespace Un
open PySem PySem.Spec PyProof.Rows L2
open Evl (Ex)
theorem first_at {α : Type} [DecidableEq α] : ∀ {l : List α} {x : α}, x ∈ l → ∃ j : Nat, l[j]? = some x ∧ ∀ m : Nat, m < j → l[m]? ≠ some x
  | a :: l, x, h => by
    by_cases c : a = x
    · subst c
      exact ⟨0, rfl, fun m hm => absurd hm (Nat.not_lt_zero _)⟩
    · rcases List.mem_cons.mp h with z | z
      · exact absurd z.symm c
      · obtain ⟨j, h1, h2⟩ := first_at z
        refine ⟨j + 1, by simpa using h1, fun m hm => ?_⟩
        cases m with
        | zero => simpa using c
        | succ m => simpa using h2 m (by omega)
section
variable {K : PySem.W.Frag} {ρ : Rho}
theorem rd_at {W : Web} {k : Nat} (h : k < W.roads.length) : W.roads[k]? = some (W.rd k) := by
  unfold Web.rd
  rw [List.getD_eq_getElem?_getD, List.getElem?_eq_getElem h]
  rfl
theorem at_rd {W : Web} {k : Nat} (h : k < W.roads.length) : atI (W.roads.map roadD) (k : Int) = some (roadD (W.rd k)) := atI_nat (by rw [List.getElem?_map, rd_at h]; rfl)
theorem d_rd {i k : Nat} {W : Web} {tk : TE} (hw : ρ[i]? = some (.dat (webD W))) (hk : Ed tk ρ (.dat (natD k))) (h : k < W.roads.length) : Ed (tOp (rIx K) (tOp (rIx K) (tVar i) (tC (.int 0))) tk) ρ (.dat (.tuple [optD (W.rd k).b, optD (W.rd k).e, .int (W.rd k).r])) :=
  d_op (d_roads hw) hk (ro_sqT (at_rd h))
theorem d_rdB {i k : Nat} {W : Web} {tk : TE} (hw : ρ[i]? = some (.dat (webD W))) (hk : Ed tk ρ (.dat (natD k))) (h : k < W.roads.length) : Ed (tOp (rIx K) (tOp (rIx K) (tOp (rIx K) (tVar i) (tC (.int 0))) tk) (tC (.int 0))) ρ (.dat (optD (W.rd k).b)) :=
  d_op (d_rd hw hk h) d_int (ro_sqT rfl)
theorem d_rdE {i k : Nat} {W : Web} {tk : TE} (hw : ρ[i]? = some (.dat (webD W))) (hk : Ed tk ρ (.dat (natD k))) (h : k < W.roads.length) : Ed (tOp (rIx K) (tOp (rIx K) (tOp (rIx K) (tVar i) (tC (.int 0))) tk) (tC (.int 1))) ρ (.dat (optD (W.rd k).e)) :=
  d_op (d_rd hw hk h) d_int (ro_sqT rfl)
theorem d_rdR {i k : Nat} {W : Web} {tk : TE} (hw : ρ[i]? = some (.dat (webD W))) (hk : Ed tk ρ (.dat (natD k))) (h : k < W.roads.length) : Ed (tOp (rIx K) (tOp (rIx K) (tOp (rIx K) (tVar i) (tC (.int 0))) tk) (tC (.int 2))) ρ (.dat (.int (W.rd k).r)) :=
  d_op (d_rd hw hk h) d_int (ro_sqT rfl)
theorem d_len {i : Nat} {W : Web} (hw : ρ[i]? = some (.dat (webD W))) : Ea (tCons (tCB (rLenQ K) (tCons (tOp (rIx K) (tVar i) (tC (.int 0))) tNil)) tNil) ρ [.dat (natD W.roads.length)] := by
  have z : Ed (tCB (rLenQ K) (tCons (tOp (rIx K) (tVar i) (tC (.int 0))) tNil)) ρ (.dat (natD W.roads.length)) := d_is (d_cb (a_cons (d_roads hw) a_nil) rc_lenT) (by rw [List.length_map]; rfl)
  exact a_cons z a_nil
theorem at_int {bs : List Int} {k : Nat} (h : k < bs.length) : atI (bs.map PyData.int) (k : Int) = some (.int (bs.getD k 0)) := atI_nat (by rw [List.getElem?_map, List.getD_eq_getElem?_getD, List.getElem?_eq_getElem h]; rfl)
/-! drawn tests -/
def Ewt (a : Addr) (tt : TT) (ρ : Rho) (m : Nat) : Prop := ∀ b c n S σ H, a ∈ S → b ∈ S → Al S H → En (hid S H) σ ρ → Dk a b c n H → n + m ≤ 2 ^ 60 → ∀ Q : Bool → Hp → Prop, (∀ bb H2, Kp a b H H2 → Dk a b c (n + m) H2 → Q bb H2) → tt σ H Q
theorem ewt_test {a : Addr} {te : TE} {m : Nat} (h : Ew a te ρ m (fun d => ∃ b, d = .bool b)) : Ewt a (tTest te) ρ m := fun b c n S σ H ha hb al en dk hn Q q => h b c n S σ H ha hb al en dk hn _ fun v d H2 k2 d2 r p => by
  obtain ⟨bb, rfl⟩ := p
  cases r
  exact ⟨bb, rfl, q bb H2 k2 d2⟩
theorem ewt_or {a : Addr} {t u : TT} {m : Nat} {bb : Bool} (h : Et t ρ bb) (h2 : Ewt a u ρ m) : Ewt a (tOr t u) ρ m := fun b c n S σ H ha hb al en dk hn Q q => h S σ H al en _ fun H1 e1 => by
  cases bb with
  | true => exact q true H1 (Kp.of e1) ((dk.exx e1).mono (by omega))
  | false => exact h2 b c n S σ H1 ha hb (al.ex e1) (en.ex (hid_ex e1)) (dk.exx e1) hn Q fun b2 H2 k2 d2 => q b2 H2 ((Kp.of e1).trans k2) d2
theorem sw_ifA {a : Addr} {ct : TT} {t u : TS} {m1 m2 : Nat} {P : Ou → Prop} (h : Ewt a ct ρ m1) (h1 : Sw a t ρ m2 P) (h2 : Sw a u ρ m2 P) : Sw a (tIfS ct t u) ρ (m1 + m2) P := fun b c n S σ H D ha hb al en dk hn q => h b c n S σ H ha hb al en dk (by omega) _ fun bb H1 k1 d1 => by
  have e : n + m1 + m2 = n + (m1 + m2) := by omega
  cases bb with
  | true => exact h1 b c (n + m1) S σ H1 D ha hb (d1.al k1 al) (en.ex (k1.hid ha hb)) d1 (by omega) fun o p => by rw [e]; exact (q o p).step k1
  | false => exact h2 b c (n + m1) S σ H1 D ha hb (d1.al k1 al) (en.ex (k1.hid ha hb)) d1 (by omega) fun o p => by rw [e]; exact (q o p).step k1
/-! ### _law_round -/
def sp__law_round : Sp := fun vs H Q _ => ∃ (a b c : Addr) (n : Nat) (S : List Addr) (w1 : V) (l2 : Addr) (W : Web) (bs : List Int), vs = [.ref a, w1, .ref l2] ∧ Dk a b c n H ∧ n + 40 ≤ 2 ^ 60 ∧ a ∈ S ∧ b ∈ S ∧ Al S H ∧ l2 ∉ S ∧ Rp (hid S H) w1 (webD W) ∧ H l2 = some (.lst (bs.map V.int)) ∧
  IsWeb W 1000000000000 ∧ bs.length = W.roads.length ∧ ∀ v row H2, IsRound W bs row → Kp a b H H2 → Dk a b c (n + 40) H2 → Rp (hid (l2 :: S) H2) v (.list (row.map natD)) → Q v H2
def X_last (K : PySem.W.Frag) : TE := tOp (rIx K) (tOp (rIx K) (tOp (rIx K) (tVar 1) (tC (.int 0))) (tOp (rIx K) (tVar 5) (tUn oNeg (tC (.int 1))))) (tC (.int 1))
def T_round2 (K : PySem.W.Frag) : TS :=
    tSeq (tIfS (tTest (tOp (rEqD K) (tVar 4) (tLst tNil))) (tRet (tLst tNil)) tNext)
    (tSeq (tAsg (tLst (tCons (tCall sp__law_one [] E0 (tCons (tVar 0) (tCons (tVar 4) tNil))) tNil)) (gName 5))
    (tSeq (tAsg (tLst (tCons (tOp (rIx K) (tOp (rIx K) (tOp (rIx K) (tVar 1) (tC (.int 0))) (tOp (rIx K) (tVar 5) (tC (.int 0)))) (tC (.int 0))) tNil)) (gName 6))
    (tSeq (tWhile (tTest (tOp (rIn K true) (X_last K) (tOp rCat (tVar 6) (tLst (tCons (tC .non) tNil))))) (tSeq (tAsg (X_last K) (gName 7))
    (tSeq (tDrop (tBM K "list" rAppend (tVar 6) (tCons (tVar 7) tNil)))
    (tSeq (tAsg (tLc (iList K (tVar 3)) (gName 10) (tTest (tOp (rEqD K) (tOp (rIx K) (tOp (rIx K) (tOp (rIx K) (tVar 1) (tC (.int 0))) (tVar 10)) (tC (.int 0))) (tVar 7))) (tVar 10) [10]) (gName 8))
    (tSeq (tIfS (tTest (tOp (rEqD K) (tVar 8) (tLst tNil))) (tRet (tLst tNil)) tNext)
    (tDrop (tBM K "list" rAppend (tVar 5) (tCons (tCall sp__law_one [] E0 (tCons (tVar 0) (tCons (tVar 8) tNil))) tNil))))))))
    (tSeq (tAsg (X_last K) (gName 9))
    (tSeq (tIfS (tAnd (tTest (tOp oIsN (tVar 9) (tC .non))) (tTest (tOp oNotN (tOp (rIx K) (tOp (rIx K) (tOp (rIx K) (tVar 1) (tC (.int 0))) (tOp (rIx K) (tVar 5) (tC (.int 0)))) (tC (.int 0))) (tC .non)))) (tRet (tLst tNil)) tNext)
    (tRet (tSl (rSlL K) (tVar 5) (tPart (tOp (rIx K) (tLst (tCons (tBM K "list" (rIndex K) (tVar 6) (tCons (tVar 9) tNil)) (tCons (tC (.int 0)) tNil))) (tCB rIntQ (tCons (tOp oIsN (tVar 9) (tC .non)) tNil)))) tNoPart)))))))
def T__law_round (K : PySem.W.Frag) : TS :=
    tSeq (tAsg (tLc (iRng1 (tCons (tCB (rLenQ K) (tCons (tOp (rIx K) (tVar 1) (tC (.int 0))) tNil)) tNil)) (gName 10) (tTest (tOp oLt (tOp (rIx K) (tVar 2) (tVar 10)) (tOp (rIx K) (tOp (rIx K) (tOp (rIx K) (tVar 1) (tC (.int 0))) (tVar 10)) (tC (.int 2))))) (tVar 10) [10]) (gName 3))
    (tSeq (tAsg (tLc (iList K (tVar 3)) (gName 10) (tTest (tOp oIsN (tOp (rIx K) (tOp (rIx K) (tOp (rIx K) (tVar 1) (tC (.int 0))) (tVar 10)) (tC (.int 0))) (tC .non))) (tVar 10) [10]) (gName 4))
    (tSeq (tIfS (tOr (tTest (tOp (rEqD K) (tVar 4) (tLst tNil))) (tTest (tOp (rEqD K) (tCall sp__law_next [] E0 (tCons (tVar 0) (tCons (tC (.int 3)) tNil))) (tC (.int 0))))) (tAsg (tVar 3) (gName 4)) tNext)
    (T_round2 K)))
theorem mem_lit {W : Web} {bs : List Int} {k : Nat} : k ∈ litOf W bs ↔ k < W.roads.length ∧ bs.getD k 0 < (W.rd k).r := by
  unfold litOf
  rw [List.mem_filter, List.mem_range]
  simp
theorem lit_len (W : Web) (bs : List Int) : (litOf W bs).length ≤ W.roads.length := by
  unfold litOf
  refine Nat.le_trans (List.length_filter_le _ _) ?_
  rw [List.length_range]
  exact Nat.le_refl _
theorem shaped_opt' (o : Option Nat) : SeqAt.shaped (optD o) = true := shaped_opt o
theorem one_of {a : Addr} {i j : Nat} {l : List Nat} (h0 : ρ[i]? = some (.raw (.ref a))) (h1 : ρ[j]? = some (.dat (.list (l.map natD)))) (hl : l ≠ []) (hz : l.length ≤ 1000) :
    Ew a (tCall sp__law_one [] E0 (tCons (tVar i) (tCons (tVar j) tNil))) ρ (0 + 1) (fun d => ∃ k, d = natD k ∧ k ∈ l) := by
  refine ew_call h0 (ewa_1 (d_var h1)) (fun ds e => ⟨_, e, by simpa using hl, by rw [List.length_map]; exact hz⟩) (fun ds d e hr => ?_)
  subst e
  obtain ⟨xs, e1, hd⟩ := hr
  have ex := (PyData.list.inj (List.cons.inj e1).1).symm
  subst ex
  obtain ⟨k, hk, e⟩ := List.mem_map.mp hd
  exact ⟨k, e.symm, hk⟩
theorem rp_nats {H : Hp} : ∀ row : List Nat, RpAll H (row.map fun k => V.int (k : Nat)) (row.map natD)
  | [] => .nil
  | _ :: r => .cons (.int _) (rp_nats r)
theorem rp_opt {H : Hp} (o : Option Nat) : Rp H (optV o) (optD o) := by
  cases o
  · exact .non
  · exact .int _
theorem rp_opts {H : Hp} : ∀ os : List (Option Nat), RpAll H (os.map optV) (os.map optD)
  | [] => .nil
  | o :: r => .cons (rp_opt o) (rp_opts r)
theorem en_row {W : Web} {bs : List Int} {a lr ls : Addr} {S : List Addr} {H : Hp} {σ : L2.St} {row : List Nat} (en : En (hid (ls :: lr :: S) H) σ [.raw (.ref a), .dat (webD W), .un, .dat (.list ((litOf W bs).map natD)), .un, .raw (.ref lr), .raw (.ref ls), .un, .un, .un, .un])
    (n1 : lr ∉ S) (n2 : ls ∉ S) (h1 : H lr = some (.lst (row.map fun k => V.int (k : Nat)))) (h2 : H ls = some (.lst ((row.map fun k => (W.rd k).b).map optV))) :
    En (hid S H) σ [.raw (.ref a), .dat (webD W), .un, .dat (.list ((litOf W bs).map natD)), .un, .dat (.list (row.map natD)), .dat (.list ((row.map fun k => (W.rd k).b).map optD)), .un, .un, .un, .un] := by
  have z := en.ex (hid_uncons.trans hid_uncons)
  have z1 := z.re (i := 5) (o := some (.ref lr)) (r := .dat (.list (row.map natD))) (en.raw (i := 5) rfl) (.of (.lst (xs := row.map fun k => V.int (k : Nat)) (by rw [hid_out n1]; exact h1) (rp_nats row)))
  have z2 := z1.re (i := 6) (o := some (.ref ls)) (r := .dat (.list ((row.map fun k => (W.rd k).b).map optD))) (en.raw (i := 6) rfl) (.of (.lst (xs := (row.map fun k => (W.rd k).b).map optV) (by rw [hid_out n2]; exact h2) (rp_opts _)))
  exact z2
theorem d_lastE {W : Web} {row : List Nat} {k : Nat} (hw : ρ[1]? = some (.dat (webD W))) (hr : ρ[5]? = some (.dat (.list (row.map natD)))) (hk : row.getLast? = some k) (h : k < W.roads.length) : Ed (X_last K) ρ (.dat (optD (W.rd k).e)) := by
  refine d_rdE hw (d_op (d_var hr) (d_neg d_int) (ro_sqL ?_)) h
  have hne : row ≠ [] := fun z => by rw [z] at hk; cases hk
  have e : row = row.dropLast ++ [k] := by
    have z := List.dropLast_concat_getLast hne
    rw [List.getLast?_eq_getLast hne] at hk
    rw [Option.some.inj hk] at z
    exact z.symm
  rw [e, List.map_append]
  exact atI_last _ _
theorem q_asgE {te : TE} {i : Nat} {u : TS} {D : Ends} {σ : L2.St} {H : Hp} (h : te σ H fun v H1 => u D (σ.set i (some v)) H1) : tSeq (tAsg te (gName i)) u D σ H := h
theorem q_asgLst {ts : TA} {i : Nat} {u : TS} {D : Ends} {σ : L2.St} {H : Hp} (h : ts σ H fun xs H1 => xs.length ≤ sizeLine ∧ ∀ p, H1 p = none → u D (σ.set i (some (.ref p))) (upd H1 p (.lst xs))) : tSeq (tAsg (tLst ts) (gName i)) u D σ H := h
theorem q_ifS {c : TT} {t w u : TS} {D : Ends} {σ : L2.St} {H : Hp} (h : c σ H fun b H1 => if b = true then t { D with nx := u D } σ H1 else w { D with nx := u D } σ H1) : tSeq (tIfS c t w) u D σ H := h
theorem q_arg1 {te : TE} {σ : L2.St} {H : Hp} {Q : List V → Hp → Prop} (h : te σ H fun v H1 => Q [v] H1) : tCons te tNil σ H Q := h
theorem q_retE {te : TE} {D : Ends} {σ : L2.St} {H : Hp} (h : te σ H D.rt) : tRet te D σ H := h
theorem w_round2 {a b c l2 : Addr} {n : Nat} {S : List Addr} {W : Web} {bs : List Int} {l : List Nat} {σ : L2.St} {H : Hp} {D : Ends} {o2 : HO} (ha : a ∈ S) (hb : b ∈ S) (al : Al S H) (w : IsWeb W 1000000000000) (h2S : l2 ∉ S) (h2 : H l2 = some o2)
    (en : En (hid S H) σ [.raw (.ref a), .dat (webD W), .un, .dat (.list ((litOf W bs).map natD)), .dat (.list (l.map natD)), .un, .un, .un, .un, .un, .un]) (dk : Dk a b c n H) (hn : n + 39 ≤ 2 ^ 60) (hl : ∀ k ∈ l, k ∈ litOf W bs) (hz : l.length ≤ 20) (h2a : l2 ≠ a) (h2b : l2 ≠ b)
    (q : ∀ v row H2, IsRound W bs row → Kp a b H H2 → Dk a b c (n + 39) H2 → Rp (hid (l2 :: S) H2) v (.list (row.map natD)) → D.rt v H2) : T_round2 K D σ H := by
  have hr20 : W.roads.length ≤ 20 := w.count.2
  have nilR : IsRound W bs [] := ⟨fun k hk => (nomatch hk), .nil, .nil⟩
  by_cases hemp : l = []
  · subst hemp
    refine q_ifS ((t_empty (K := K) (d_var (i := 4) (d := .list []) rfl) rfl) S σ H al en _ fun H1 e1 => iteT ⟨Nat.zero_le _, fun p hp => ?_⟩)
    refine q _ [] _ nilR ((Kp.of e1).trans (Kp.of (Ex.new hp))) (((dk.exx e1).mono (by omega)).exx (Ex.new hp)) (.lst (xs := []) ?_ .nil)
    rw [hid_out (fun z => ?_), upd_same]
    rcases List.mem_cons.mp z with z | z
    · subst z; rw [e1 _ _ h2] at hp; cases hp
    · exact (al.ex e1) p z hp
  refine q_ifS ((t_empty (K := K) (d_var (i := 4) rfl) (shaped_nats l)) S σ H al en _ fun H0 e0 => ?_)
  have he0 : (l.map natD).isEmpty = false := by
    cases l with
    | nil => exact absurd rfl hemp
    | cons x r => rfl
  rw [he0]
  refine iteF ?_
  replace en := en.ex (hid_ex e0)
  replace al := al.ex e0
  replace dk := dk.exx e0
  replace h2 := e0 _ _ h2
  replace q : ∀ v row H2, IsRound W bs row → Kp a b H0 H2 → Dk a b c (n + 39) H2 → Rp (hid (l2 :: S) H2) v (.list (row.map natD)) → D.rt v H2 := fun v row H2 h k d r => q v row H2 h ((Kp.of e0).trans k) d r
  clear e0
  revert q h2 dk al en
  generalize H0 = H
  intro en al dk h2 q
  -- row = [one(deck, begins)]
  refine q_asgLst ((ewa_cons (one_of (i := 0) (j := 4) rfl rfl hemp (by omega)) ewa_nil) b c n S σ H ha hb al en dk (by omega) _ fun vs ds H1 k1 d1 r1 p1 => ?_)
  obtain ⟨_, _, rfl, ⟨k0, rfl, hk0⟩, rfl⟩ := p1
  match vs, r1 with
  | [_], .cons (.int _) .nil =>
  refine ⟨by show 1 ≤ sizeLine; decide, fun lr hlr => ?_⟩
  have al1 := d1.al k1 al
  have n1 : lr ∉ S := al1.new hlr
  obtain ⟨_, _, _, hA, hB, hC, _⟩ := d1.ex
  have ra : lr ≠ a := (ne_of_none hA hlr).symm
  have rb : lr ≠ b := (ne_of_none hB hlr).symm
  have rc : lr ≠ c := (ne_of_none hC hlr).symm
  have en1 : En (hid S (upd H1 lr (.lst [.int (k0 : Nat)]))) (σ.set 5 (some (.ref lr))) [.raw (.ref a), .dat (webD W), .un, .dat (.list ((litOf W bs).map natD)), .dat (.list (l.map natD)), .dat (.list [natD k0]), .un, .un, .un, .un, .un] :=
    (en.ex ((k1.hid ha hb).trans (hid_ex (Ex.new hlr)))).set 5 (.of (.lst (xs := [.int (k0 : Nat)]) (by rw [hid_out n1, upd_same]) (.cons (.int _) .nil)))
  have hk0l := mem_lit.mp (hl k0 hk0)
  have al2 := al1.ex (Ex.new (o := .lst [.int (k0 : Nat)]) hlr)
  -- seen = [web[0][row[0]][0]]
  refine q_asgLst ((a_cons (d_rdB (K := K) (i := 1) (W := W) (k := k0) rfl (d_op (d_var (d := .list [natD k0]) rfl) d_int (ro_sqL rfl)) hk0l.1) a_nil) S (σ.set 5 (some (.ref lr))) (upd H1 lr (.lst [.int (k0 : Nat)])) al2 en1 _ fun vs H2 e2 r2 => ?_)
  match vs, r2 with
  | [v2], .cons hv2 .nil =>
  have ev2 := hv2.val.opt
  subst ev2
  refine ⟨by show 1 ≤ sizeLine; decide, fun ls hls => ?_⟩
  have al3 := al2.ex e2
  have n2 : ls ∉ S := al3.new hls
  have dk3 : Dk a b c (n + 1) H2 := (d1.exx (Ex.new hlr)).exx e2
  obtain ⟨_, _, _, hA3, hB3, hC3, _⟩ := dk3.ex
  have sa : ls ≠ a := (ne_of_none hA3 hls).symm
  have sb : ls ≠ b := (ne_of_none hB3 hls).symm
  have sc : ls ≠ c := (ne_of_none hC3 hls).symm
  have hlr2 : H2 lr = some (.lst [.int (k0 : Nat)]) := e2 _ _ upd_same
  have srl : ls ≠ lr := (ne_of_none hlr2 hls).symm
  have haS : a ∈ ls :: lr :: S := List.mem_cons_of_mem _ (List.mem_cons_of_mem _ ha)
  have hbS : b ∈ ls :: lr :: S := List.mem_cons_of_mem _ (List.mem_cons_of_mem _ hb)
  have kpr : Kp a b H H2 := fun x o x1 x2 hx => by
    have z := k1 x o x1 x2 hx
    exact e2 _ _ (by rw [upd_ne (ne_of_none z hlr)]; exact z)
  have exr : Ex (hid S H) (hid (ls :: lr :: S) (upd H2 ls (.lst [optV (W.rd k0).b]))) := by
    have z1 : Ex (hid S H1) (hid (lr :: S) (upd H1 lr (.lst [.int (k0 : Nat)]))) := hid_cons (Ex.new hlr) hlr
    have z2 : Ex (hid (lr :: S) (upd H1 lr (.lst [.int (k0 : Nat)]))) (hid (lr :: S) H2) := hid_ex e2
    have z3 : Ex (hid (lr :: S) H2) (hid (ls :: lr :: S) (upd H2 ls (.lst [optV (W.rd k0).b]))) := hid_cons (Ex.new hls) hls
    exact (k1.hid ha hb).trans (z1.trans (z2.trans z3))
  have enW : En (hid (ls :: lr :: S) (upd H2 ls (.lst [optV (W.rd k0).b]))) ((σ.set 5 (some (.ref lr))).set 6 (some (.ref ls))) [.raw (.ref a), .dat (webD W), .un, .dat (.list ((litOf W bs).map natD)), .un, .raw (.ref lr), .raw (.ref ls), .un, .un, .un, .un] :=
    (((en.ex exr).set 5 (r := .raw (.ref lr)) (o := some (.ref lr)) rfl).set 6 (r := .raw (.ref ls)) (o := some (.ref ls)) rfl).weak (.same (.same (.same (.same (.un (.same (.same (.same (.same (.same (.same .nil)))))))))))
  have alW : Al (ls :: lr :: S) (upd H2 ls (.lst [optV (W.rd k0).b])) := by
    refine Al.cons (Al.cons (al3.ex (Ex.new hls)) ?_) (by rw [upd_same]; exact fun z => nomatch z)
    rw [upd_ne srl.symm, hlr2]
    exact fun z => nomatch z
  -- the loop
  refine ⟨fun m σ' H' => ∃ row : List Nat, m = 30 - row.length ∧ En (hid (ls :: lr :: S) H') σ' [.raw (.ref a), .dat (webD W), .un, .dat (.list ((litOf W bs).map natD)), .un, .raw (.ref lr), .raw (.ref ls), .un, .un, .un, .un] ∧ Kp a b H H' ∧ Dk a b c (n + row.length) H' ∧ Al (ls :: lr :: S) H' ∧ H' lr = some (.lst (row.map fun k => V.int (k : Nat))) ∧ H' ls = some (.lst ((row.map fun k => (W.rd k).b).map optV)) ∧ row ≠ [] ∧ (∀ k ∈ row, k ∈ litOf W bs) ∧ Chained W row, ?_, ?_⟩
  · refine ⟨_, [k0], rfl, enW, ?_, dk3.exx (Ex.new hls), alW, ?_, upd_same, by simp, fun k hk => by rw [List.mem_singleton.mp hk]; exact hl k0 hk0, ⟨rfl, by simp⟩⟩
    · exact kpr.trans (Kp.of (Ex.new hls))
    · rw [upd_ne srl.symm]
      exact hlr2
  · rintro m σ' H' ⟨row, rfl, enr, kp, dk', al', hlr', hls', hne, hlit, chn⟩
    have rows20 : row.length ≤ 20 := Nat.le_trans (nodup_bound W.roads.length row (nodup_of_map _ chn.nd) fun k hk => (mem_lit.mp (hlit k hk)).1) hr20
    obtain ⟨kl, hkl⟩ : ∃ kl, row.getLast? = some kl := ⟨_, List.getLast?_eq_getLast hne⟩
    have hkl2 := mem_lit.mp (hlit kl (List.mem_of_getLast? hkl))
    have enD := en_row enr n1 n2 hlr' hls'
    have alS : Al S H' := fun x hx => al' x (List.mem_cons_of_mem _ (List.mem_cons_of_mem _ hx))
    have tst : Et (tTest (tOp (rIn K true) (X_last K) (tOp rCat (tVar 6) (tLst (tCons (tC .non) tNil))))) [.raw (.ref a), .dat (webD W), .un, .dat (.list ((litOf W bs).map natD)), .un, .dat (.list (row.map natD)), .dat (.list ((row.map fun k => (W.rd k).b).map optD)), .un, .un, .un, .un] (!((row.map fun k => (W.rd k).b) ++ [none]).contains (W.rd kl).e) := by
      refine t_test (d_op (d_lastE rfl rfl hkl hkl2.1) (d_is (d_op (d_var rfl) (d_lst (ds := [.none]) (a_cons d_non a_nil) (by decide)) (ro_cat (by simp; omega))) ?_) ro_notIn)
      rw [List.map_append]
      rfl
    refine tst S σ' H' alS enD _ fun H5 e5 => ?_
    have enr5 := enr.ex (hid_ex (S := ls :: lr :: S) e5)
    have dk5 := dk'.exx e5
    have al5 := al'.ex e5
    have alS5 := alS.ex e5
    have hlr5 := e5 _ _ hlr'
    have hls5 := e5 _ _ hls'
    have kp5 := kp.trans (Kp.of e5)
    have enD5 := en_row enr5 n1 n2 hlr5 hls5
    have eE : (row.map fun k => (W.rd k).e).getLast? = some (W.rd kl).e := by rw [List.getLast?_map, hkl]; rfl
    cases hin : ((row.map fun k => (W.rd k).b) ++ [none]).contains (W.rd kl).e with
    | false =>
      -- go on
      refine iteT ⟨fun σ2 H6 => ∃ row' : List Nat, row'.length = row.length + 1 ∧ En (hid (ls :: lr :: S) H6) σ2 [.raw (.ref a), .dat (webD W), .un, .dat (.list ((litOf W bs).map natD)), .un, .raw (.ref lr), .raw (.ref ls), .un, .un, .un, .un] ∧ Kp a b H H6 ∧ Dk a b c (n + row'.length) H6 ∧ Al (ls :: lr :: S) H6 ∧ H6 lr = some (.lst (row'.map fun k => V.int (k : Nat))) ∧ H6 ls = some (.lst ((row'.map fun k => (W.rd k).b).map optV)) ∧ row' ≠ [] ∧ (∀ k ∈ row', k ∈ litOf W bs) ∧ Chained W row', ?_, ?_⟩
      · rintro σ2 H6 ⟨row', hl', r'⟩
        exact ⟨30 - row'.length, by omega, row', rfl, r'⟩
      · have hnin : (W.rd kl).e ∉ (row.map fun k => (W.rd k).b) ++ [none] := fun z => by
          have := List.contains_iff_mem.mpr z
          rw [hin] at this
          cases this
        obtain ⟨h, hh⟩ : ∃ h, (W.rd kl).e = some h := by
          cases q' : (W.rd kl).e with
          | none => rw [q'] at hnin; exact absurd (List.mem_append_right _ (List.mem_singleton.mpr rfl)) hnin
          | some h => exact ⟨h, rfl⟩
        -- house
        refine q_asgE ((d_lastE (K := K) rfl rfl hkl hkl2.1) S σ' H5 alS5 enD5 _ fun v7 H6 e6 r7 => ?_)
        have ev7 := r7.val.opt
        rw [hh] at ev7
        subst ev7
        have hls6 := e6 _ _ hls5
        have hlr6 := e6 _ _ hlr5
        have enr6 : En (hid (ls :: lr :: S) H6) (σ'.set 7 (some (.int (h : Nat)))) [.raw (.ref a), .dat (webD W), .un, .dat (.list ((litOf W bs).map natD)), .un, .raw (.ref lr), .raw (.ref ls), .dat (natD h), .un, .un, .un] := (enr5.ex (hid_ex e6)).set 7 (.of (.int _))
        -- seen.append(house)
        refine ⟨.ref ls, enr6.raw (i := 6) rfl, .inl ⟨rfl, _, .inl (.inl hls6)⟩, .int (h : Nat), ?_, ls, _, .int (h : Nat), rfl, rfl, hls6, Evl.sz_lt (by rw [List.length_map, List.length_map]; omega), ?_⟩
        · have hl7 : 7 < σ'.length := by
            have z := enr5.1
            rw [z]
            simp
          exact List.getElem?_set_self hl7
        generalize hG : upd H6 ls (.lst ((row.map fun k => (W.rd k).b).map optV ++ [.int (h : Nat)])) = G
        have xG : Ex (hid (ls :: lr :: S) H6) (hid (ls :: lr :: S) G) := by rw [← hG]; exact upd_hid (List.mem_cons_self ..)
        have enG := enr6.ex xG
        have alG : Al (ls :: lr :: S) G := by rw [← hG]; exact Al.upd (al5.ex e6)
        have dkG : Dk a b c (n + row.length) G := by rw [← hG]; exact (dk5.exx e6).upd sa sb sc
        have kpG : Kp a b H G := fun x o x1 x2 hx => by
          have z := (kp5.trans (Kp.of e6)) x o x1 x2 hx
          rw [← hG]
          have nx : x ≠ ls := fun e => by
            subst e
            have z2 : H x = none := Evl.fresh_back (H := H1) (fun y o' hy => hy) (by
              cases q' : H1 x with
              | none => rfl
              | some o' =>
                have z3 : H2 x = some o' := e2 _ _ (by rw [upd_ne (ne_of_none q' hlr)]; exact q')
                rw [hls] at z3
                cases z3) |> fun z3 => by
              cases q' : H x with
              | none => rfl
              | some o' => exact absurd (k1 x o' x1 x2 q') (by rw [z3]; exact fun z => nomatch z)
            rw [z2] at hx
            cases hx
          rw [upd_ne nx]
          exact z
        have hlsG : G ls = some (.lst ((row.map fun k => (W.rd k).b).map optV ++ [.int (h : Nat)])) := by rw [← hG]; exact upd_same
        have hlrG : G lr = some (.lst (row.map fun k => V.int (k : Nat))) := by rw [← hG, upd_ne srl.symm]; exact hlr6
        -- further
        refine q_asgE ((d_filterN (K := K) (ns := litOf W bs) (p := fun k => (W.rd k).b == some h) (j := 10) (tt := tTest (tOp (rEqD K) (tOp (rIx K) (tOp (rIx K) (tOp (rIx K) (tVar 1) (tC (.int 0))) (tVar 10)) (tC (.int 0))) (tVar 7))) (d_var (i := 3) rfl) rfl (by have := lit_len W bs; omega) fun k hk => t_is (t_test (d_op (d_rdB (i := 1) rfl (d_var rfl) (mem_lit.mp hk).1) (d_var rfl) (ro_eqD (shaped_opt _) (shaped_nat h)))) (eqv_opt _ _)) (ls :: lr :: S) _ G alG enG _ fun v8 G2 f2 r8 => ?_)
        have enG2 : En (hid (ls :: lr :: S) G2) ((σ'.set 7 (some (.int (h : Nat)))).set 8 (some v8)) [.raw (.ref a), .dat (webD W), .un, .dat (.list ((litOf W bs).map natD)), .un, .raw (.ref lr), .raw (.ref ls), .dat (natD h), .dat (.list (((litOf W bs).filter fun k => (W.rd k).b == some h).map natD)), .un, .un] := (enG.ex (hid_ex f2)).set 8 r8
        have alG2 := alG.ex f2
        -- if further == []: return []
        refine q_ifS ((t_empty (K := K) (d_var (i := 8) rfl) (shaped_nats _)) (ls :: lr :: S) _ G2 alG2 enG2 _ fun G3 f3 => ?_)
        have kpG3 := kpG.trans (Kp.of (f2.trans f3))
        have dkG3 := dkG.exx (f2.trans f3)
        cases hf : (((litOf W bs).filter fun k => (W.rd k).b == some h).map natD).isEmpty with
        | true =>
          refine iteT ⟨Nat.zero_le _, fun p hp => ?_⟩
          refine q _ [] _ nilR (kpG3.trans (Kp.of (Ex.new hp))) ((dkG3.mono (by omega)).exx (Ex.new hp)) (.lst (xs := []) ?_ .nil)
          have np : p ∉ l2 :: S := fun z => by
            rcases List.mem_cons.mp z with z | z
            · subst z; rw [kpG3 _ _ h2a h2b h2] at hp; cases hp
            · exact (alG2.ex f3) p (List.mem_cons_of_mem _ (List.mem_cons_of_mem _ z)) hp
          rw [hid_out np, upd_same]
        | false =>
          refine iteF ?_
          have hne8 : ((litOf W bs).filter fun k => (W.rd k).b == some h) ≠ [] := fun z => by rw [z] at hf; cases hf
          have enG3 := enG2.ex (hid_ex f3)
          have hlrG3 := f3 _ _ (f2 _ _ hlrG)
          have hlsG3 := f3 _ _ (f2 _ _ hlsG)
          have alG3 := alG2.ex f3
          refine ⟨.ref lr, enG3.raw (i := 5) rfl, .inl ⟨rfl, _, .inl (.inl hlrG3)⟩, ?_⟩
          refine q_arg1 ((one_of (i := 0) (j := 8) rfl rfl hne8 (Nat.le_trans (List.length_filter_le _ _) (by have := lit_len W bs; omega))) b c (n + row.length) (ls :: lr :: S) _ G3 haS hbS alG3 enG3 dkG3 (by omega) _ fun v9 d9 G4 k4 d4 r4 p4 => ?_)
          obtain ⟨k', rfl, hk'⟩ := p4
          cases r4
          obtain ⟨hk1, hk2⟩ := List.mem_filter.mp hk'
          have hbk : (W.rd k').b = some h := by simpa using hk2
          have hlrG4 : G4 lr = _ := k4 lr _ ra rb hlrG3
          have hlsG4 : G4 ls = _ := k4 ls _ sa sb hlsG3
          refine ⟨lr, _, .int (k' : Nat), rfl, rfl, hlrG4, Evl.sz_lt (by rw [List.length_map]; omega), ?_⟩
          refine ⟨row ++ [k'], by rw [List.length_append]; rfl, ?_, ?_, ?_, Al.upd (d4.al k4 alG3), ?_, ?_, by simp, ?_, ?_⟩
          · have xx : Ex (hid (ls :: lr :: S) G3) (hid (ls :: lr :: S) (upd G4 lr (.lst ((row.map fun k => V.int (k : Nat)) ++ [.int (k' : Nat)])))) := (k4.hid haS hbS).trans (upd_hid (List.mem_cons_of_mem _ (List.mem_cons_self ..)))
            exact (enG3.ex xx).weak (.same (.same (.same (.same (.same (.same (.same (.un (.un (.same (.same .nil)))))))))))
          · exact fun x o x1 x2 hx => by
              have nx : x ≠ lr := fun e => by
                subst e
                have z := k1 x o x1 x2 hx
                rw [hlr] at z
                cases z
              rw [upd_ne nx]
              exact k4 x o x1 x2 (kpG3 x o x1 x2 hx)
          · have e : n + row.length + (0 + 1) = n + (row ++ [k']).length := by rw [List.length_append]; show _ = n + (row.length + 1); omega
            rw [← e]
            exact d4.upd ra rb rc
          · rw [upd_same, List.map_append]
            rfl
          · rw [upd_ne srl, hlsG4, List.map_append, List.map_append]
            show _ = some (HO.lst (_ ++ [optV (W.rd k').b]))
            rw [hbk]
            rfl
          · intro k hk
            rcases List.mem_append.mp hk with z | z
            · exact hlit k z
            · rw [List.mem_singleton.mp z]
              exact hk1
          · refine ⟨?_, ?_⟩
            · rw [List.map_append, List.map_append]
              show (_ ++ [(W.rd k').e]).dropLast = (_ ++ [(W.rd k').b]).tail
              rw [List.dropLast_concat, hbk]
              have t := chn.tied
              have hneB : (row.map fun k => (W.rd k).b) ≠ [] := by simpa using hne
              have hneE : (row.map fun k => (W.rd k).e) ≠ [] := by simpa using hne
              have z := List.dropLast_concat_getLast hneE
              rw [List.getLast?_eq_getLast hneE] at eE
              rw [Option.some.inj eE, hh, t] at z
              rw [← z, List.tail_append_of_ne_nil hneB]
            · rw [List.map_append]
              refine List.nodup_append.mpr ⟨chn.nd, by simp, fun x hx y hy e => ?_⟩
              have ey : y = (W.rd k').b := List.mem_singleton.mp hy
              rw [hbk, ← hh] at ey
              rw [e, ey] at hx
              exact hnin (List.mem_append_left _ hx)
    | true =>
      -- behind the loop
      refine iteF ?_
      refine q_asgE ((d_lastE (K := K) rfl rfl hkl hkl2.1) S σ' H5 alS5 enD5 _ fun v9 H6 e6 r9 => ?_)
      have enD6 : En (hid S H6) (σ'.set 9 (some v9)) [.raw (.ref a), .dat (webD W), .un, .dat (.list ((litOf W bs).map natD)), .un, .dat (.list (row.map natD)), .dat (.list ((row.map fun k => (W.rd k).b).map optD)), .un, .un, .dat (optD (W.rd kl).e), .un] := (enD5.ex (hid_ex e6)).set 9 r9
      obtain ⟨k00, r00, e00⟩ : ∃ k00 r00, row = k00 :: r00 := by
        cases row with
        | nil => exact absurd rfl hne
        | cons x r => exact ⟨x, r, rfl⟩
      have hk00 := mem_lit.mp (hlit k00 (by rw [e00]; exact List.mem_cons_self ..))
      have tst2 : Et (tAnd (tTest (tOp oIsN (tVar 9) (tC .non))) (tTest (tOp oNotN (tOp (rIx K) (tOp (rIx K) (tOp (rIx K) (tVar 1) (tC (.int 0))) (tOp (rIx K) (tVar 5) (tC (.int 0)))) (tC (.int 0))) (tC .non)))) [.raw (.ref a), .dat (webD W), .un, .dat (.list ((litOf W bs).map natD)), .un, .dat (.list (row.map natD)), .dat (.list ((row.map fun k => (W.rd k).b).map optD)), .un, .un, .dat (optD (W.rd kl).e), .un] ((W.rd kl).e.isNone && !(W.rd k00).b.isNone) := by
        refine t_is (t_and (t_test (d_op (d_var rfl) d_non ro_isN)) fun _ => t_test (d_op (d_rdB (i := 1) (k := k00) rfl (d_op (d_var rfl) d_int (ro_sqL (by rw [e00]; exact atI_nat (j := 0) rfl))) hk00.1) d_non ro_notN)) ?_
        rw [isNone_opt, isNone_opt]
      refine q_ifS (tst2 S _ H6 (alS5.ex e6) enD6 _ fun H7 e7 => ?_)
      have enD7 := enD6.ex (hid_ex e7)
      have alS7 := (alS5.ex e6).ex e7
      have kp7 := kp5.trans (Kp.of (e6.trans e7))
      have dk7 := dk5.exx (e6.trans e7)
      cases hcase : ((W.rd kl).e.isNone && !(W.rd k00).b.isNone) with
      | true =>
        refine iteT ⟨Nat.zero_le _, fun p hp => ?_⟩
        have np : p ∉ l2 :: S := fun z => by
          rcases List.mem_cons.mp z with z | z
          · subst z; rw [kp7 _ _ h2a h2b h2] at hp; cases hp
          · exact alS7 p z hp
        exact q _ [] _ nilR (kp7.trans (Kp.of (Ex.new hp))) ((dk7.mono (by omega)).exx (Ex.new hp)) (.lst (xs := []) (by rw [hid_out np, upd_same]) .nil)
      | false =>
        refine iteF ?_
        -- where the round begins
        have hmem : (W.rd kl).e ∈ (row.map fun k => (W.rd k).b) := by
          have z := List.contains_iff_mem.mp hin
          rcases List.mem_append.mp z with z | z
          · exact z
          · have z2 := List.mem_singleton.mp z
            rw [z2] at hcase ⊢
            have z3 : (W.rd k00).b = none := by
              cases q' : (W.rd k00).b with
              | none => rfl
              | some y => rw [q'] at hcase; cases hcase
            rw [e00, ← z3]
            exact List.mem_cons_self ..
        obtain ⟨j, hj, hfj⟩ := first_at hmem
        have hz9 : (W.rd kl).e.isNone = true → j = 0 := fun hn9 => by
          have z2 : (W.rd kl).e = none := by simpa using hn9
          rw [z2] at hcase hj hfj
          have z3 : (W.rd k00).b = none := by
            cases q' : (W.rd k00).b with
            | none => rfl
            | some y => rw [q'] at hcase; cases hcase
          rcases Nat.eq_zero_or_pos j with z | z
          · exact z
          · exact absurd (by rw [e00, List.map_cons, z3]; rfl) (hfj 0 z)
        have fin : Ed (tSl (rSlL K) (tVar 5) (tPart (tOp (rIx K) (tLst (tCons (tBM K "list" (rIndex K) (tVar 6) (tCons (tVar 9) tNil)) (tCons (tC (.int 0)) tNil))) (tCB rIntQ (tCons (tOp oIsN (tVar 9) (tC .non)) tNil)))) tNoPart) [.un, .un, .un, .un, .un, .dat (.list (row.map natD)), .dat (.list ((row.map fun k => (W.rd k).b).map optD)), .un, .un, .dat (optD (W.rd kl).e), .un] (.dat (.list ((row.map natD).drop j))) := by
          refine d_from (d_var rfl) (d_op (d_lst (ds := [natD j, .int 0]) (a_cons (d_index (d_var rfl) (d_var rfl) hj hfj) (a_cons d_int a_nil)) (by simp)) (d_cb (a_cons (d_op (d_var rfl) d_non ro_isN) a_nil) rc_intB) (ro_sqL ?_))
          rw [isNone_opt]
          cases q' : (W.rd kl).e.isNone with
          | true => rw [hz9 q']; rfl
          | false => rfl
        have lr2 : lr ≠ l2 := fun e => by
          subst e
          have z := k1 lr _ h2a h2b h2
          rw [hlr] at z
          cases z
        have ls2 : ls ≠ l2 := fun e => by
          subst e
          have z := kpr ls _ h2a h2b h2
          rw [hls] at z
          cases z
        have hlr7 : H7 lr = _ := (e6.trans e7) _ _ hlr5
        have hls7 : H7 ls = _ := (e6.trans e7) _ _ hls5
        have nr : lr ∉ l2 :: S := fun z => (List.mem_cons.mp z).elim lr2 n1
        have ns : ls ∉ l2 :: S := fun z => (List.mem_cons.mp z).elim ls2 n2
        have alx : Al (l2 :: S) H7 := alS7.cons (by rw [kp7 _ _ h2a h2b h2]; exact fun z => nomatch z)
        have l11 : (σ'.set 9 (some v9)).length = 11 := by rw [List.length_set]; exact enr5.1
        have enU : En (hid (l2 :: S) H7) (σ'.set 9 (some v9)) [.un, .un, .un, .un, .un, .un, .un, .un, .un, .un, .un] := by
          refine ⟨l11, fun i r hi => ?_⟩
          have hi2 : i < 11 := by
            have z := (List.getElem?_eq_some_iff.mp hi).1
            simpa using z
          have er : r = .un := by
            have z := List.mem_of_getElem? hi
            simp at z
            exact z
          subst er
          exact ⟨_, List.getElem?_eq_getElem (by omega), trivial⟩
        have g5 : (σ'.set 9 (some v9))[5]? = some (some (.ref lr)) := by rw [List.getElem?_set_ne (by decide)]; exact enr5.raw (i := 5) rfl
        have g6 : (σ'.set 9 (some v9))[6]? = some (some (.ref ls)) := by rw [List.getElem?_set_ne (by decide)]; exact enr5.raw (i := 6) rfl
        have g9 : (σ'.set 9 (some v9))[9]? = some (some v9) := List.getElem?_set_self (by have z := l11; rw [List.length_set] at z; omega)
        have ev9 := r9.val.opt
        have enF : En (hid (l2 :: S) H7) (σ'.set 9 (some v9)) [.un, .un, .un, .un, .un, .dat (.list (row.map natD)), .dat (.list ((row.map fun k => (W.rd k).b).map optD)), .un, .un, .dat (optD (W.rd kl).e), .un] := by
          have z1 := enU.re (i := 5) g5 (r := .dat (.list (row.map natD))) (.of (.lst (xs := row.map fun k => V.int (k : Nat)) (by rw [hid_out nr]; exact hlr7) (rp_nats row)))
          have z2 := z1.re (i := 6) g6 (r := .dat (.list ((row.map fun k => (W.rd k).b).map optD))) (.of (.lst (xs := (row.map fun k => (W.rd k).b).map optV) (by rw [hid_out ns]; exact hls7) (rp_opts _)))
          exact z2.re (i := 9) g9 (r := .dat (optD (W.rd kl).e)) (.of (by
            rw [ev9]
            cases (W.rd kl).e
            · exact .non
            · exact .int _))
        refine q_retE (fin (l2 :: S) _ H7 alx enF _ fun v H8 e8 r8 => ?_)
        rw [← List.map_drop] at r8
        exact q v (row.drop j) H8 (chained_drop chn (fun k hk => mem_lit.mp (hlit k hk)) eE hj) (kp7.trans (Kp.of e8)) ((dk7.mono (by omega)).exx e8) r8.val
theorem go_round {N : List Str} {vs : List V} {H : Hp} {Q : VK} {E : XK} (hN : N.length = 11) (hs : sp__law_round vs H Q E) : T__law_round K { nx := fun _ H' => Q .non H', rt := Q } (L2.start N vs) H := by
  obtain ⟨a, b, c, n, S, w1, l2, W, bs, rfl, dk, hn, ha, hb, al, h2S, rw1, h2, w, hbs, q⟩ := hs
  have hr20 : W.roads.length ≤ 20 := w.count.2
  obtain ⟨_, _, _, hA, hB, _⟩ := dk.ex
  have h2a : l2 ≠ a := fun e => h2S (e ▸ ha)
  have h2b : l2 ≠ b := fun e => h2S (e ▸ hb)
  unfold L2.start
  rw [hN]
  have en0 : En (hid S H) [some (.ref a), some w1, some (.ref l2), none, none, none, none, none, none, none, none] [.raw (.ref a), .dat (webD W), .dat (.list (bs.map PyData.int)), .un, .un, .un, .un, .un, .un, .un, .un] :=
    en_cons rfl (en_cons (.of rw1) (en_cons (.of (.lst (xs := bs.map V.int) (by rw [hid_out h2S]; exact h2) (RpAll.ofInts bs))) (en_none 8)))
  have lit : Ed (tLc (iRng1 (tCons (tCB (rLenQ K) (tCons (tOp (rIx K) (tVar 1) (tC (.int 0))) tNil)) tNil)) (gName 10) (tTest (tOp oLt (tOp (rIx K) (tVar 2) (tVar 10)) (tOp (rIx K) (tOp (rIx K) (tOp (rIx K) (tVar 1) (tC (.int 0))) (tVar 10)) (tC (.int 2))))) (tVar 10) [10]) [.raw (.ref a), .dat (webD W), .dat (.list (bs.map PyData.int)), .un, .un, .un, .un, .un, .un, .un, .un] (.dat (.list ((litOf W bs).map natD))) :=
    d_filterR (p := fun k => decide (bs.getD k 0 < (W.rd k).r)) (d_len rfl) rfl (by omega) fun k hk => t_test (d_op (d_op (d_var rfl) (d_var rfl) (ro_sqL (at_int (by omega)))) (d_rdR rfl (d_var rfl) hk) ro_Ib)
  refine q_asgE (lit S _ H al en0 _ fun v3 H1 e1 r3 => ?_)
  have en1 : En (hid S H1) ([some (.ref a), some w1, some (.ref l2), none, none, none, none, none, none, none, none].set 3 (some v3)) [.raw (.ref a), .dat (webD W), .un, .dat (.list ((litOf W bs).map natD)), .un, .un, .un, .un, .un, .un, .un] := ((en0.ex (hid_ex e1)).set 3 r3).weak (.same (.same (.un (.same (.same (.same (.same (.same (.same (.same (.same .nil)))))))))))
  have beg : Ed (tLc (iList K (tVar 3)) (gName 10) (tTest (tOp oIsN (tOp (rIx K) (tOp (rIx K) (tOp (rIx K) (tVar 1) (tC (.int 0))) (tVar 10)) (tC (.int 0))) (tC .non))) (tVar 10) [10]) [.raw (.ref a), .dat (webD W), .un, .dat (.list ((litOf W bs).map natD)), .un, .un, .un, .un, .un, .un, .un] (.dat (.list (((litOf W bs).filter fun k => (W.rd k).b.isNone).map natD))) :=
    d_filterN (ns := litOf W bs) (p := fun k => (W.rd k).b.isNone) (d_var rfl) rfl (by have := lit_len W bs; omega) fun k hk => t_is (t_test (d_op (d_rdB rfl (d_var rfl) (mem_lit.mp hk).1) d_non ro_isN)) (isNone_opt _)
  refine q_asgE (beg S _ H1 (al.ex e1) en1 _ fun v4 H2 e2 r4 => ?_)
  have en2 : En (hid S H2) (([some (.ref a), some w1, some (.ref l2), none, none, none, none, none, none, none, none].set 3 (some v3)).set 4 (some v4)) [.raw (.ref a), .dat (webD W), .un, .dat (.list ((litOf W bs).map natD)), .dat (.list (((litOf W bs).filter fun k => (W.rd k).b.isNone).map natD)), .un, .un, .un, .un, .un, .un] := (en1.ex (hid_ex e2)).set 4 r4
  have e12 := e1.trans e2
  have tst : Ewt a (tOr (tTest (tOp (rEqD K) (tVar 4) (tLst tNil))) (tTest (tOp (rEqD K) (tCall sp__law_next [] E0 (tCons (tVar 0) (tCons (tC (.int 3)) tNil))) (tC (.int 0))))) [.raw (.ref a), .dat (webD W), .un, .dat (.list ((litOf W bs).map natD)), .dat (.list (((litOf W bs).filter fun k => (W.rd k).b.isNone).map natD)), .un, .un, .un, .un, .un, .un] 1 := by
    refine ewt_or (t_empty (d_var rfl) (shaped_nats _)) (ewt_test (ew_op (ew_call rfl (ewa_1 d_int) (fun ds e => ⟨3, e, by decide, by decide⟩) (P := fun d => ∃ r : Int, d = .int r) ?_) (ew_pure d_int) ?_))
    · rintro ds d rfl ⟨m, r, e1, e2, _⟩
      exact ⟨r, e2⟩
    · rintro x y ⟨r, rfl⟩ rfl
      exact ⟨_, ro_eqD rfl rfl, _, rfl⟩
  refine q_ifS (tst b c n S _ H2 ha hb (al.ex e12) en2 (dk.exx e12) (by omega) _ fun bb H3 k3 d3 => ?_)
  have kp3 : Kp a b H H3 := (Kp.of e12).trans k3
  have al3 := d3.al k3 (al.ex e12)
  have en3 := en2.ex (k3.hid ha hb)
  have h23 : H3 l2 = _ := kp3 _ _ h2a h2b h2
  have e40 : n + 1 + 39 = n + 40 := by omega
  cases bb with
  | true =>
    refine iteT ?_
    obtain ⟨v5, hv5, rv5⟩ := en3.dat (i := 3) rfl
    refine ⟨v5, hv5, ?_⟩
    exact w_round2 ha hb al3 w h2S h23 (en3.set 4 (.of rv5)) d3 (by omega) (fun k hk => hk) (by have := lit_len W bs; omega) h2a h2b fun v row H4 ir k4 d4 r => q v row H4 ir (kp3.trans k4) (e40 ▸ d4) r
  | false =>
    refine iteF ?_
    exact w_round2 ha hb al3 w h2S h23 en3 d3 (by omega) (fun k hk => (List.mem_filter.mp hk).1) (Nat.le_trans (List.length_filter_le _ _) (by have := lit_len W bs; omega)) h2a h2b fun v row H4 ir k4 d4 r => q v row H4 ir (kp3.trans k4) (e40 ▸ d4) r
end
end Un

/-! ## UnStream -/
namespace Un
open PySem PySem.Spec PyProof.Rows L2
open Evl (Ex)
/-! ### streams -/
def sumOn (bs : List Int) (ks : List Nat) : Int := (ks.map fun k => bs.getD k 0).sum
def sideSum (W : Web) (bs : List Int) (s : Nat) (h : Option Nat) : Int := sumOn bs ((List.range W.roads.length).filter fun k => sideOf s (W.rd k) == h)
structure IsStream (W : Web) (bs : List Int) : Prop where
  len : bs.length = W.roads.length
  room : ∀ k, k < W.roads.length → 0 ≤ bs.getD k 0 ∧ bs.getD k 0 ≤ (W.rd k).r
  even : ∀ h, sideSum W bs 1 (some h) = sideSum W bs 0 (some h)
def intsD (bs : List Int) : PD := .tuple (bs.map PyData.int)
theorem getD_set {bs : List Int} {k j : Nat} {v : Int} (hk : k < bs.length) : (bs.set k v).getD j 0 = if k = j then v else bs.getD j 0 := by
  rw [List.getD_eq_getElem?_getD, List.getD_eq_getElem?_getD]
  by_cases c : k = j
  · subst c
    rw [List.getElem?_set_self hk, if_pos rfl]
    rfl
  · rw [List.getElem?_set_ne c, if_neg c]
theorem sumOn_cons (bs : List Int) (k : Nat) (ks : List Nat) : sumOn bs (k :: ks) = bs.getD k 0 + sumOn bs ks := by
  unfold sumOn
  rw [List.map_cons, List.sum_cons]
theorem sumOn_set {bs : List Int} {k : Nat} {v : Int} (hk : k < bs.length) (p : Nat → Bool) : ∀ {l : List Nat}, l.Nodup → sumOn (bs.set k v) (l.filter p) = sumOn bs (l.filter p) + (if k ∈ l ∧ p k = true then v - bs.getD k 0 else 0)
  | [], _ => by simp [sumOn]
  | j :: l, nd => by
    rw [List.nodup_cons] at nd
    have ih := sumOn_set hk p (v := v) nd.2
    rw [List.filter_cons]
    by_cases c : p j = true
    · rw [if_pos c, sumOn_cons, sumOn_cons, ih, getD_set hk]
      by_cases e : k = j
      · subst e
        rw [if_pos rfl, if_neg (fun z => nd.1 z.1), if_pos ⟨List.mem_cons_self .., c⟩]
        omega
      · rw [if_neg e]
        by_cases m : k ∈ l ∧ p k = true
        · rw [if_pos m, if_pos ⟨List.mem_cons_of_mem _ m.1, m.2⟩]
          omega
        · rw [if_neg m, if_neg (fun z => m ⟨(List.mem_cons.mp z.1).resolve_left e, z.2⟩)]
          omega
    · rw [if_neg c, ih]
      by_cases m : k ∈ l ∧ p k = true
      · rw [if_pos m, if_pos ⟨List.mem_cons_of_mem _ m.1, m.2⟩]
      · rw [if_neg m, if_neg (fun z : k ∈ j :: l ∧ p k = true => m ⟨(List.mem_cons.mp z.1).resolve_left (fun e => c (by rw [← e]; exact z.2)), z.2⟩)]
theorem range_nodup (n : Nat) : (List.range n).Nodup := List.nodup_range
theorem side_set {W : Web} {bs : List Int} {k s : Nat} {h : Option Nat} {m : Int} (hl : bs.length = W.roads.length) (hk : k < W.roads.length) :
    sideSum W (bs.set k (bs.getD k 0 + m)) s h = sideSum W bs s h + (if sideOf s (W.rd k) = h then m else 0) := by
  unfold sideSum
  rw [sumOn_set (by omega) _ (range_nodup _)]
  by_cases c : sideOf s (W.rd k) = h
  · rw [if_pos ⟨List.mem_range.mpr hk, by simpa using c⟩, if_pos c]
    omega
  · rw [if_neg (fun z => c (by simpa using z.2)), if_neg c]
def addRow (m : Int) : List Int → List Nat → List Int
  | bs, [] => bs
  | bs, k :: r => addRow m (bs.set k (bs.getD k 0 + m)) r
theorem addRow_len (m : Int) : ∀ (r : List Nat) (bs : List Int), (addRow m bs r).length = bs.length
  | [], _ => rfl
  | k :: r, bs => by
    rw [addRow, addRow_len m r, List.length_set]
theorem addRow_side {W : Web} {s : Nat} {h : Option Nat} (m : Int) : ∀ (r : List Nat) (bs : List Int), bs.length = W.roads.length → (∀ k ∈ r, k < W.roads.length) → sideSum W (addRow m bs r) s h = sideSum W bs s h + m * ((r.map fun k => sideOf s (W.rd k)).count h : Nat)
  | [], bs, _, _ => by simp [addRow]
  | k :: r, bs, hl, hr => by
    rw [addRow, addRow_side m r _ (by rw [List.length_set]; exact hl) (fun j hj => hr j (List.mem_cons_of_mem _ hj)), side_set hl (hr k (List.mem_cons_self ..)), List.map_cons, List.count_cons]
    by_cases c : sideOf s (W.rd k) = h
    · rw [if_pos c, if_pos (by simpa using c)]
      have e : m * ((((r.map fun k => sideOf s (W.rd k)).count h + 1 : Nat)) : Int) = m * ((r.map fun k => sideOf s (W.rd k)).count h : Nat) + m := by
        rw [Int.natCast_add, Int.mul_add]
        simp
      rw [e]
      omega
    · rw [if_neg c, if_neg (by simpa using c)]
      simp
theorem addRow_at (m : Int) {j : Nat} : ∀ (r : List Nat) (bs : List Int), r.Nodup → (∀ k ∈ r, k < bs.length) → (addRow m bs r).getD j 0 = bs.getD j 0 + (if j ∈ r then m else 0)
  | [], bs, _, _ => by simp [addRow]
  | k :: r, bs, nd, hr => by
    rw [List.nodup_cons] at nd
    rw [addRow, addRow_at m r _ nd.2 (fun i hi => by rw [List.length_set]; exact hr i (List.mem_cons_of_mem _ hi)), getD_set (hr k (List.mem_cons_self ..))]
    by_cases e : k = j
    · subst e
      rw [if_pos rfl, if_neg nd.1, if_pos (List.mem_cons_self ..)]
      omega
    · rw [if_neg e]
      by_cases c : j ∈ r
      · rw [if_pos c, if_pos (List.mem_cons_of_mem _ c)]
      · rw [if_neg c, if_neg (fun z => c ((List.mem_cons.mp z).resolve_left (fun z => e z.symm)))]
theorem addRow_stream {W : Web} {bs : List Int} {row : List Nat} {m : Int} (st : IsStream W bs) (rd : IsRound W bs row) (hm : 0 ≤ m) (hle : ∀ k ∈ row, m ≤ (W.rd k).r - bs.getD k 0) : IsStream W (addRow m bs row) := by
  have hb : ∀ k ∈ row, k < W.roads.length := fun k hk => (rd.lit k hk).1
  refine ⟨by rw [addRow_len]; exact st.len, fun k hk => ?_, fun h => ?_⟩
  · rw [addRow_at m row bs rd.nd (fun i hi => by rw [st.len]; exact hb i hi)]
    have := st.room k hk
    by_cases c : k ∈ row
    · have := hle k c
      rw [if_pos c]
      omega
    · rw [if_neg c]
      omega
  · rw [addRow_side m row bs st.len hb, addRow_side m row bs st.len hb, st.even h]
    have e : (row.map fun k => sideOf 1 (W.rd k)).count (some h) = (row.map fun k => sideOf 0 (W.rd k)).count (some h) := rd.bal.count_eq (some h)
    rw [e]
theorem zeros_stream {W : Web} (w : ∀ k, k < W.roads.length → 0 ≤ (W.rd k).r) : IsStream W (List.replicate W.roads.length 0) := by
  have z : ∀ k, (List.replicate W.roads.length (0 : Int)).getD k 0 = 0 := fun k => by
    rw [List.getD_eq_getElem?_getD]
    by_cases c : k < W.roads.length
    · rw [List.getElem?_replicate_of_lt c]
      rfl
    · rw [List.getElem?_eq_none (by rw [List.length_replicate]; omega)]
      rfl
  have zs : ∀ ks : List Nat, sumOn (List.replicate W.roads.length (0 : Int)) ks = 0 := fun ks => by
    induction ks with
    | nil => rfl
    | cons k r ih => rw [sumOn_cons, z, ih]; rfl
  refine ⟨List.length_replicate, fun k hk => by rw [z]; exact ⟨Int.le_refl _, w k hk⟩, fun h => ?_⟩
  unfold sideSum
  rw [zs, zs]
section
variable {K : PySem.W.Frag} {ρ : Rho}
/-! ### _law_stream -/
def sp__law_stream : Sp := spK 1000 (fun ds => ∃ (W : Web) (m : Nat), ds = [webD W, natD m] ∧ IsWeb W 1000000000000 ∧ m ≤ 20) (fun ds d => ∃ (W : Web) (m : Nat) (bs : List Int), ds = [webD W, natD m] ∧ d = intsD bs ∧ IsStream W bs)
def T__law_stream (K : PySem.W.Frag) : TS :=
    tSeq (tAsg (tOp rRep (tLst (tCons (tC (.int 0)) tNil)) (tCB (rLenQ K) (tCons (tOp (rIx K) (tVar 1) (tC (.int 0))) tNil))) (gName 3))
    (tSeq (tFor (iRng1 (tCons (tVar 2) tNil)) (gName 4) (tSeq (tAsg (tCall sp__law_round [] E0 (tCons (tVar 0) (tCons (tVar 1) (tCons (tVar 3) tNil)))) (gName 5))
    (tIfS (tTest (tOp (rNeD K) (tVar 5) (tLst tNil))) (tSeq (tAsg (tCB (rMin K) (tCons (tLc (iList K (tVar 5)) (gName 8) tYes (tOp oSub (tOp (rIx K) (tOp (rIx K) (tOp (rIx K) (tVar 1) (tC (.int 0))) (tVar 8)) (tC (.int 2))) (tOp (rIx K) (tVar 3) (tVar 8))) [8]) tNil)) (gName 6))
    (tSeq (tAsg (tCall sp__law_one [] E0 (tCons (tVar 0) (tCons (tLst (tCons (tC (.int 1)) (tCons (tVar 6) (tCons (tOp oAdd (tC (.int 1)) (tCall sp__law_next [] E0 (tCons (tVar 0) (tCons (tVar 6) tNil)))) tNil)))) tNil))) (gName 7))
    (tFor (iList K (tVar 5)) (gName 8) (tAsg (tOp oAdd (tOp (rIx K) (tVar 3) (tVar 8)) (tVar 7)) (gSub (tVar 3) (tVar 8) rSetL))))) tNext)))
    (tRet (tCB (rTupQ K) (tCons (tVar 3) tNil))))
theorem rd_mem {W : Web} {k : Nat} (h : k < W.roads.length) : W.rd k ∈ W.roads := by
  unfold Web.rd
  rw [List.getD_eq_getElem?_getD, List.getElem?_eq_getElem h]
  exact List.getElem_mem h
theorem IsWeb.rdOk {W : Web} {far : Int} (w : IsWeb W far) {k : Nat} (h : k < W.roads.length) : 0 ≤ (W.rd k).r ∧ (W.rd k).r ≤ far := by
  have z := w.road _ (rd_mem h)
  exact ⟨z.2.2.2.1, z.2.2.2.2⟩
theorem rpInts {H : Hp} (bs : List Int) : RpAll H (bs.map V.int) (bs.map PyData.int) := RpAll.ofInts bs
theorem atV {bs : List Int} {k : Nat} (h : k < bs.length) : atI (bs.map V.int) (k : Int) = some (.int (bs.getD k 0)) := atI_nat (by rw [List.getElem?_map, List.getD_eq_getElem?_getD, List.getElem?_eq_getElem h]; rfl)
theorem shaped_ints' (bs : List Int) : SeqAt.shaped (.list (bs.map PyData.int)) = true := PySem.W.shaped_ints bs
theorem rep_zero (n : Nat) : (List.replicate n [V.int 0]).flatten = (List.replicate n (0 : Int)).map V.int := by
  induction n with
  | zero => rfl
  | succ n ih => rw [List.replicate_succ, List.replicate_succ, List.flatten_cons, ih]; rfl
/-- min of a list of numbers told as data -/
theorem ew_min {a : Addr} {te : TE} {ns : List Int} (h : Ed te ρ (.dat (.list (ns.map PyData.int)))) (hne : ns ≠ []) : Ew a (tCB (rMin K) (tCons te tNil)) ρ 0 (fun d => ∃ m, d = .int m ∧ m ∈ ns ∧ ∀ y ∈ ns, m ≤ y) := fun b c n S σ H ha hb al en dk hn Q q => h S σ H al en _ fun v H1 e1 rv => by
  have rv' := rv.val
  generalize hd : PyData.list (ns.map PyData.int) = d at rv'
  cases rv' with
  | lst h1 ra =>
    have e := PyData.list.inj hd
    subst e
    have ey := ra.ints
    subst ey
    exact ⟨_, ns, rfl, .inl (.inl (hid_le _ _ h1)), List.length_pos_iff.mpr hne, fun m hm hle => q _ (.int m) H1 (Kp.of e1) (dk.exx e1) (.int m) ⟨m, rfl, hm, hle⟩⟩
  | _ => cases hd
theorem d_minRow {W : Web} {bs : List Int} {row : List Nat} (h1 : ρ[1]? = some (.dat (webD W))) (h3 : ρ[3]? = some (.dat (.list (bs.map PyData.int)))) (h5 : ρ[5]? = some (.dat (.list (row.map natD)))) (h8 : ρ[8]? = some .un) (hb : ∀ k ∈ row, k < W.roads.length ∧ k < bs.length) (hl : row.length ≤ 1000) :
    Ed (tLc (iList K (tVar 5)) (gName 8) tYes (tOp oSub (tOp (rIx K) (tOp (rIx K) (tOp (rIx K) (tVar 1) (tC (.int 0))) (tVar 8)) (tC (.int 2))) (tOp (rIx K) (tVar 3) (tVar 8))) [8]) ρ (.dat (.list ((row.map fun k => (W.rd k).r - bs.getD k 0).map PyData.int))) := by
  let g : PD → PD := fun d => match d with
    | .int k => .int ((W.rd k.toNat).r - bs.getD k.toNat 0)
    | d => d
  have lc := d_lc (fun _ => true) g (es_list (K := K) (d_var h5)) (rho0_of h8) (by rw [List.length_map]; omega) (tt := tYes) (g := gName 8) (te := tOp oSub (tOp (rIx K) (tOp (rIx K) (tOp (rIx K) (tVar 1) (tC (.int 0))) (tVar 8)) (tC (.int 2))) (tOp (rIx K) (tVar 3) (tVar 8))) (fun x hx => by
    obtain ⟨k, hk, rfl⟩ := List.mem_map.mp hx
    have hk2 := hb k hk
    have s1 : (ρ.set 8 (.dat (natD k)))[1]? = some (.dat (webD W)) := by rw [List.getElem?_set_ne (by decide)]; exact h1
    have s3 : (ρ.set 8 (.dat (natD k)))[3]? = some (.dat (.list (bs.map PyData.int))) := by rw [List.getElem?_set_ne (by decide)]; exact h3
    have s8 : (ρ.set 8 (.dat (natD k)))[8]? = some (.dat (natD k)) := List.getElem?_set_self (List.getElem?_eq_some_iff.mp h8).1
    refine ⟨_, _, g_name, fun i hi => hi, t_yes, fun _ => d_is (d_op (d_rdR s1 (d_var s8) hk2.1) (d_op (d_var s3) (d_var s8) (ro_sqL (at_int hk2.2))) ro_Ii) ?_⟩
    show Sl.dat _ = Sl.dat (.int ((W.rd ((k : Nat) : Int).toNat).r - bs.getD ((k : Nat) : Int).toNat 0))
    rw [show ((k : Nat) : Int).toNat = k by omega])
  have e : ((row.map natD).filter fun _ => true).map g = (row.map fun k => (W.rd k).r - bs.getD k 0).map PyData.int := by
    rw [List.filter_eq_self.mpr (fun _ _ => rfl), List.map_map, List.map_map]
    apply List.map_congr_left
    intro k _
    show PyData.int ((W.rd ((k : Nat) : Int).toNat).r - bs.getD ((k : Nat) : Int).toNat 0) = PyData.int _
    rw [show ((k : Nat) : Int).toNat = k by omega]
  rw [e] at lc
  exact lc
theorem set_map {bs : List Int} {k : Nat} {v : Int} : (bs.map V.int).set k (.int v) = (bs.set k v).map V.int := by rw [List.map_set]
theorem addRow_take (m : Int) (bs : List Int) : ∀ (row : List Nat) (i : Nat) (k : Nat), row[i]? = some k → addRow m bs (row.take (i + 1)) = (addRow m bs (row.take i)).set k ((addRow m bs (row.take i)).getD k 0 + m) := by
  intro row
  induction row generalizing bs with
  | nil => intro i k h; simp at h
  | cons x r ih =>
    intro i k h
    cases i with
    | zero =>
      have e : x = k := by simpa using h
      subst e
      rfl
    | succ i =>
      rw [List.take_succ_cons, List.take_succ_cons, addRow, addRow]
      exact ih _ i k (by simpa using h)
theorem go_stream {N : List Str} {vs : List V} {H : Hp} {Q : VK} {E : XK} (hN : N.length = 9) (hs : sp__law_stream vs H Q E) : T__law_stream K { nx := fun _ H' => Q .non H', rt := Q } (L2.start N vs) H := by
  refine go_K 6 (fun ds ⟨W, m, e, _⟩ => by subst e; exact hN) (fun a ds hp => ?_) hs
  obtain ⟨W, sv, rfl, w, hsv⟩ := hp
  have hr20 : W.roads.length ≤ 20 := w.count.2
  have hr1 : 1 ≤ W.roads.length := w.count.1
  intro b c n S σ H D ha hb al en dk hn q
  -- bears = [0] * len(web[0])
  refine q_asgE ⟨by show 1 ≤ sizeLine; decide, fun p0 hp0 => ?_⟩
  have en0 := en.ex (hid_ex (S := S) (Ex.new (o := .lst [.int 0]) hp0))
  refine (d_is (d_cb (a_cons (d_roads (K := K) (i := 1) (W := W) rfl) a_nil) (rc_lenT (K := K))) (show _ = Sl.dat (natD W.roads.length) by rw [List.length_map]; rfl)) S σ (upd H p0 (.lst [.int 0])) (al.ex (Ex.new hp0)) en0 _ fun v H1 e1 rv => ?_
  cases rv.val
  refine ⟨p0, _, _, rfl, rfl, e1 _ _ upd_same, by omega, by omega, ?_, fun lb hlb => ?_⟩
  · show 1 * ((W.roads.length : Nat) : Int).toNat ≤ sizeLine
    exact Evl.sz_of (by omega)
  have e01 : Ex H H1 := (Ex.new hp0).trans e1
  have al1 := al.ex e01
  have n1 : lb ∉ S := al1.new hlb
  have dk1 := dk.exx e01
  obtain ⟨_, _, _, hA, hB, hC, _⟩ := dk1.ex
  have ra : lb ≠ a := (ne_of_none hA hlb).symm
  have rb : lb ≠ b := (ne_of_none hB hlb).symm
  have rc : lb ≠ c := (ne_of_none hC hlb).symm
  have erep : (List.replicate ((W.roads.length : Nat) : Int).toNat [V.int 0]).flatten = (List.replicate W.roads.length (0 : Int)).map V.int := by
    rw [show ((W.roads.length : Nat) : Int).toNat = W.roads.length by omega]
    exact rep_zero _
  rw [erep]
  have haS : a ∈ lb :: S := List.mem_cons_of_mem _ ha
  have hbS : b ∈ lb :: S := List.mem_cons_of_mem _ hb
  have hHlb : H lb = none := Evl.fresh_back e01 hlb
  have en1 : En (hid (lb :: S) (upd H1 lb (.lst ((List.replicate W.roads.length (0 : Int)).map V.int)))) (σ.set 3 (some (.ref lb))) [.raw (.ref a), .dat (webD W), .dat (natD sv), .raw (.ref lb), .un, .un, .un, .un, .un] :=
    (en.ex ((hid_ex e01).trans (hid_cons (Ex.new hlb) hlb))).set 3 (r := .raw (.ref lb)) (o := some (.ref lb)) rfl
  have all : Al (lb :: S) (upd H1 lb (.lst ((List.replicate W.roads.length (0 : Int)).map V.int))) := (al1.ex (Ex.new hlb)).cons (by rw [upd_same]; exact fun z => nomatch z)
  -- the turns
  refine for_w (S := lb :: S) (es_rng1 (n := (sv : Int)) (a_cons (d_var rfl) a_nil) (by omega) (by omega)) all en1 (lb :: S)
    (fun G1 i σ' G => ∃ bs : List Int, En (hid (lb :: S) G) σ' [.raw (.ref a), .dat (webD W), .dat (natD sv), .raw (.ref lb), .un, .un, .un, .un, .un] ∧ Kp a b H G ∧ Dk a b c (n + i * 45) G ∧ Al (lb :: S) G ∧ G lb = some (.lst (bs.map V.int)) ∧ IsStream W bs ∧ i ≤ sv ∧ Ex (hid (lb :: S) G1) (hid (lb :: S) G))
    (fun G1 f1 => ?_) (fun G1 i σ' G f1 hv => ?_) (fun G1 i x σ' G v G3 f1 hx hv f3 rv => ?_) (fun G1 σ' G f1 hv => ?_)
  · exact ⟨List.replicate W.roads.length 0, en1.ex (hid_ex f1), Kp.of ((e01.trans (Ex.new hlb)).trans f1), by simpa using dk1.exx ((Ex.new hlb).trans f1), all.ex f1, f1 _ _ upd_same, zeros_stream (fun k hk => (w.rdOk hk).1), Nat.zero_le _, Ex.refl _⟩
  · obtain ⟨bs, _, _, _, al2, _, _, _, ee⟩ := hv
    exact ⟨al2, ee⟩
  · obtain ⟨bs, en2, kp2, dk2, al2, hlb2, st, hi, ee⟩ := hv
    have hi2 : i < sv := by
      have z := (List.getElem?_eq_some_iff.mp hx).1
      simpa using z
    have en3 : En (hid (lb :: S) G3) (σ'.set 4 (some v)) [.raw (.ref a), .dat (webD W), .dat (natD sv), .raw (.ref lb), .un, .un, .un, .un, .un] := ((en2.ex (hid_ex f3)).set 4 (.of rv)).weak (.same (.same (.same (.same (.un (.same (.same (.same (.same .nil)))))))))
    have hlb3 := f3 _ _ hlb2
    have al3 := al2.ex f3
    have alS3 : Al S G3 := fun y hy => al3 y (List.mem_cons_of_mem _ hy)
    have dk3 := dk2.exx f3
    obtain ⟨w1, hw1, rw1⟩ := en3.dat (i := 1) rfl
    -- row = round(..)
    refine q_asgE ⟨.ref a, en3.raw (i := 0) rfl, w1, hw1, .ref lb, en3.raw (i := 3) rfl, a, b, c, n + i * 45, S, w1, lb, W, bs, rfl, dk3, by omega, ha, hb, alS3, n1, rw1.ex hid_uncons, hlb3, w, st.len, fun v5 row G4 ir k4 d4 r5 => ?_⟩
    have row20 : row.length ≤ 20 := Nat.le_trans (nodup_bound W.roads.length row ir.nd fun k hk => (ir.lit k hk).1) hr20
    have hlb4 : G4 lb = some (.lst (bs.map V.int)) := k4 lb _ ra rb hlb3
    have kp4 : Kp a b H G4 := (kp2.trans (Kp.of f3)).trans k4
    have x34 : Ex (hid (lb :: S) G3) (hid (lb :: S) G4) := k4.hid haS hbS
    have al4 : Al (lb :: S) G4 := d4.al k4 al3
    have ee4 := (ee.trans (hid_ex f3)).trans x34
    have en4 : En (hid (lb :: S) G4) ((σ'.set 4 (some v)).set 5 (some v5)) [.raw (.ref a), .dat (webD W), .dat (natD sv), .raw (.ref lb), .un, .dat (.list (row.map natD)), .un, .un, .un] := (en3.ex x34).set 5 (.of r5)
    -- if row != []
    refine (t_full (K := K) (d_var (i := 5) rfl) (shaped_nats row)) (lb :: S) _ G4 al4 en4 _ fun G5 f5 => ?_
    have en5 := en4.ex (hid_ex f5)
    have al5 := al4.ex f5
    have hlb5 := f5 _ _ hlb4
    have dk5 := d4.exx f5
    have kp5 := kp4.trans (Kp.of f5)
    have ee5 := ee4.trans (hid_ex f5)
    by_cases hemp : row = []
    · subst hemp
      refine iteF ?_
      refine ⟨bs, en5.weak (.same (.same (.same (.same (.same (.un (.same (.same (.same .nil))))))))), kp5, dk5.mono (by omega), al5, hlb5, st, hi2, ee5⟩
    · have hfull : (!(row.map natD).isEmpty) = true := by
        cases row with
        | nil => exact absurd rfl hemp
        | cons x r => rfl
      rw [hfull]
      refine iteT ?_
      have alS5 : Al S G5 := fun y hy => al5 y (List.mem_cons_of_mem _ hy)
      have enD5 : En (hid S G5) ((σ'.set 4 (some v)).set 5 (some v5)) [.raw (.ref a), .dat (webD W), .dat (natD sv), .dat (.list (bs.map PyData.int)), .un, .dat (.list (row.map natD)), .un, .un, .un] := (en5.ex hid_uncons).re (i := 3) (o := some (.ref lb)) (r := .dat (.list (bs.map PyData.int))) (en5.raw (i := 3) rfl) (.of (.lst (xs := bs.map V.int) (by rw [hid_out n1]; exact hlb5) (rpInts bs)))
      have hbk : ∀ k ∈ row, k < W.roads.length ∧ k < bs.length := fun k hk => ⟨(ir.lit k hk).1, by rw [st.len]; exact (ir.lit k hk).1⟩
      -- most
      refine q_asgE ((ew_min (K := K) (d_minRow (K := K) rfl rfl rfl rfl hbk (by omega)) (by simpa using hemp)) b c (n + i * 45 + 40) S _ G5 ha hb alS5 enD5 dk5 (by omega) _ fun v6 d6 G6 k6 d6' r6 p6 => ?_)
      obtain ⟨most, rfl, hmem, hmin⟩ := p6
      cases r6
      have m1 : 1 ≤ most ∧ most ≤ 1000000000000 := by
        obtain ⟨k, hk, e⟩ := List.mem_map.mp hmem
        have z := ir.lit k hk
        have z2 := w.rdOk z.1
        have z3 := st.room k z.1
        omega
      have x56 : Ex (hid (lb :: S) G5) (hid (lb :: S) G6) := k6.hid haS hbS
      have en6 : En (hid (lb :: S) G6) (((σ'.set 4 (some v)).set 5 (some v5)).set 6 (some (.int most))) [.raw (.ref a), .dat (webD W), .dat (natD sv), .raw (.ref lb), .un, .dat (.list (row.map natD)), .dat (.int most), .un, .un] := (en5.ex x56).set 6 (.of (.int _))
      have al6 := d6'.al k6 al5
      -- many
      have mny : Ew a (tCall sp__law_one [] E0 (tCons (tVar 0) (tCons (tLst (tCons (tC (.int 1)) (tCons (tVar 6) (tCons (tOp oAdd (tC (.int 1)) (tCall sp__law_next [] E0 (tCons (tVar 0) (tCons (tVar 6) tNil)))) tNil)))) tNil))) [.raw (.ref a), .dat (webD W), .dat (natD sv), .raw (.ref lb), .un, .dat (.list (row.map natD)), .dat (.int most), .un, .un] (1 + 1) (fun d => ∃ m : Int, d = .int m ∧ 1 ≤ m ∧ m ≤ most) := by
        refine ew_call rfl (ewa_mono (ewa_cons (ew_lst (ewa_cons (ew_pure d_int) (ewa_cons (ew_pure (d_var rfl)) (ewa_cons (ew_op (ew_pure d_int) (ew_call rfl (ewa_1 (d_var rfl)) (fun ds e => ⟨most, e, by omega, by omega⟩) (P := fun d => ∃ r : Int, d = .int r ∧ 0 ≤ r ∧ r < most) ?_) (P := fun d => ∃ r : Int, d = .int r ∧ 1 ≤ r ∧ r ≤ most) ?_) ewa_nil))) ?_) ewa_nil) (Nat.le_refl _) (fun ds h => h)) ?_ ?_
        · rintro ds d rfl ⟨m, r, e1, e2, x0, x1⟩
          have em := PyData.int.inj (List.cons.inj e1).1
          exact ⟨r, e2, x0, by omega⟩
        · rintro x y rfl ⟨r, rfl, x0, x1⟩
          exact ⟨_, ro_Ii, _, rfl, by omega, by omega⟩
        · rintro ds ⟨d1, r1, rfl, _, d2, r2, rfl, _, d3, r3, rfl, _, rfl⟩
          simp
        · rintro ds ⟨d, r, rfl, ⟨xs, rfl, d1, r1, rfl, _, d2, r2, rfl, _, d3, r3, rfl, _, rfl⟩, rfl⟩
          exact ⟨_, rfl, by simp, by simp⟩
        · rintro ds d ⟨z, w', rfl, ⟨xs, rfl, d1, r1, rfl, rfl, d2, r2, rfl, rfl, d3, r3, rfl, p3, rfl⟩, rfl⟩ ⟨ys, e1, hd⟩
          have ex := (PyData.list.inj (List.cons.inj e1).1).symm
          subst ex
          simp at hd
          rcases hd with h | h | h
          · subst h; exact ⟨_, rfl, by omega, by omega⟩
          · subst h; exact ⟨_, rfl, by omega, by omega⟩
          · subst h; exact p3
      refine q_asgE (mny b c (n + i * 45 + 40 + 0) (lb :: S) _ G6 haS hbS al6 en6 d6' (by omega) _ fun v7 d7 G7 k7 d7' r7 p7 => ?_)
      obtain ⟨many, rfl, mn1, mn2⟩ := p7
      cases r7
      have x67 : Ex (hid (lb :: S) G6) (hid (lb :: S) G7) := k7.hid haS hbS
      have en7 : En (hid (lb :: S) G7) ((((σ'.set 4 (some v)).set 5 (some v5)).set 6 (some (.int most))).set 7 (some (.int many))) [.raw (.ref a), .dat (webD W), .dat (natD sv), .raw (.ref lb), .un, .dat (.list (row.map natD)), .un, .dat (.int many), .un] := ((en6.ex x67).set 7 (.of (.int _))).weak (.same (.same (.same (.same (.same (.same (.un (.same (.same .nil)))))))))
      have al7 := d7'.al k7 al6
      have hlb7 : G7 lb = some (.lst (bs.map V.int)) := k7 lb _ ra rb (k6 lb _ ra rb hlb5)
      have kp7 : Kp a b H G7 := (kp5.trans k6).trans k7
      have ee7 := (ee5.trans x56).trans x67
      have dk7 : Dk a b c (n + (i + 1) * 45) G7 := d7'.mono (by omega)
      -- the row's roads bear more
      refine for_w (S := lb :: S) (es_list (d_var (i := 5) rfl)) al7 en7 (lb :: S)
        (fun F1 j σ2 F => En (hid (lb :: S) F) σ2 [.raw (.ref a), .dat (webD W), .dat (natD sv), .raw (.ref lb), .un, .dat (.list (row.map natD)), .un, .dat (.int many), .un] ∧ Kp a b H F ∧ Dk a b c (n + (i + 1) * 45) F ∧ Al (lb :: S) F ∧ F lb = some (.lst ((addRow many bs (row.take j)).map V.int)) ∧ Ex (hid (lb :: S) F1) (hid (lb :: S) F) ∧ Ex (hid (lb :: S) G7) (hid (lb :: S) F))
        (fun F1 g1 => ?_) (fun F1 j σ2 F g1 hv => ⟨hv.2.2.2.1, hv.2.2.2.2.2.1⟩) (fun F1 j y σ2 F u F3 g1 hy hv g3 ru => ?_) (fun F1 σ2 F g1 hv => ?_)
      · exact ⟨en7.ex (hid_ex g1), kp7.trans (Kp.of g1), dk7.exx g1, al7.ex g1, g1 _ _ hlb7, Ex.refl _, hid_ex g1⟩
      · obtain ⟨enf, kpf, dkf, alf, hlf, eef, eeg⟩ := hv
        rw [List.getElem?_map] at hy
        cases hk : row[j]? with
        | none => rw [hk] at hy; cases hy
        | some k =>
          rw [hk] at hy
          have ey : natD k = y := Option.some.inj hy
          subst ey
          cases ru
          have hkr := hbk k (List.mem_of_getElem? hk)
          have hla : k < (addRow many bs (row.take j)).length := by rw [addRow_len]; exact hkr.2
          have enf3 : En (hid (lb :: S) F3) (σ2.set 8 (some (.int (k : Nat)))) [.raw (.ref a), .dat (webD W), .dat (natD sv), .raw (.ref lb), .un, .dat (.list (row.map natD)), .un, .dat (.int many), .dat (natD k)] := (enf.ex (hid_ex g3)).set 8 (.of (.int _))
          have hlf3 := g3 _ _ hlf
          obtain ⟨v8, hv8, rv8⟩ := enf3.dat (i := 8) rfl
          cases rv8
          obtain ⟨v7', hv7', rv7'⟩ := enf3.dat (i := 7) rfl
          cases rv7'
          refine ⟨.ref lb, enf3.raw (i := 3) rfl, .int (k : Nat), hv8, ixL hlf3 (atV hla) ⟨.int many, hv7', _, many, rfl, rfl, .ref lb, enf3.raw (i := 3) rfl, .int (k : Nat), hv8, lb, _, (k : Int), k, rfl, rfl, hlf3, by rw [List.length_map]; exact Evl.ixN_nat hla, ?_⟩⟩
          rw [set_map, ← addRow_take many bs row j k hk]
          have xx : Ex (hid (lb :: S) F) (hid (lb :: S) (upd F3 lb (.lst ((addRow many bs (row.take (j + 1))).map V.int)))) := (hid_ex g3).trans (upd_hid (List.mem_cons_self ..))
          refine ⟨(enf.ex xx).set 8 (o := some (.int (k : Nat))) (r := .un) trivial, ?_, (dkf.exx g3).upd ra rb rc, Al.upd (alf.ex g3), upd_same, eef.trans xx, eeg.trans xx⟩
          exact fun x o x1 x2 hx => by
            rw [upd_ne (ne_of_none hx hHlb)]
            exact g3 _ _ (kpf x o x1 x2 hx)
      · obtain ⟨enf, kpf, dkf, alf, hlf, eef, eeg⟩ := hv
        rw [List.length_map, List.take_length] at hlf
        refine ⟨addRow many bs row, enf.weak (.same (.same (.same (.same (.same (.un (.same (.un (.same .nil))))))))), kpf, dkf, alf, hlf, addRow_stream st ir (by omega) (fun k hk => ?_), hi2, ee7.trans eeg⟩
        have z := hmin _ (List.mem_map.mpr ⟨k, hk, rfl⟩)
        omega
  · -- return tuple(bears)
    obtain ⟨bs, en2, kp2, dk2, al2, hlb2, st, hi, ee⟩ := hv
    have esv : ((List.range ((sv : Int).toNat)).map fun k => PyData.int (k : Nat)).length = sv := by rw [List.length_map, List.length_range]; omega
    rw [esv] at dk2
    refine ⟨.ref lb, en2.raw (i := 3) rfl, lb, _, rfl, .inl ⟨.inl (.inl hlb2), fun p hp => ?_⟩⟩
    have np : p ∉ S := fun z => al2 p (List.mem_cons_of_mem _ z) hp
    exact q (.ret (intsD bs)) ⟨_, rfl, W, sv, bs, rfl, rfl, st⟩ _ _ (kp2.trans (Kp.of (Ex.new hp))) ((dk2.mono (by omega)).exx (Ex.new hp)) (.tup (xs := bs.map V.int) (by rw [hid_out np, upd_same]) (rpInts bs))
end
end Un

/-! ## UnRep1 -/
namespace Un
open PySem PySem.Spec PyProof.Rows L2
theorem tuple_mul1 (l : Addr) (its : Array Value) (n : Nat) (dd : Option Addr) (sl : Array (Option Value)) (u : Tok) :
    Meets (Builtin.«tuple.__mul__» ⟨[.ref l, .int 1 u], []⟩) (fun _ R st => st.heap.get? l = some { cls := .type "tuple", dict := dd, data := .seq its n, slots := sl } ∧ R (.ok (.ret (Value.ref l))) st) :=
  .of_wp fun prog w A R st hh => by
    obtain ⟨hp, gn, dr, tk, os⟩ := st
    obtain ⟨hl, hh⟩ := hh
    have f1 := AutoSeq1.idx_int
    have c0 : (decide ((1 : Int) < -(2 ^ 63)) || decide ((1 : Int) ≥ 2 ^ 63)) = false := by decide
    have c1 : (its.isEmpty || (1 : Int) == 1) = true := by simp
    wp_walk using AutoSeq1.wpAny_loadPart' hl
    exact ⟨_, rfl, hh⟩
/-- t * k, k from 1 on: once it is t itself -/
def rRepA (K : PySem.W.Frag) : R2 := fun x y H Q => ∃ l k xs, x = .ref l ∧ y = .int k ∧ SqT K H l xs ∧ xs ≠ [] ∧ 1 ≤ k ∧ k ≤ 1000 ∧ xs.length ≤ 1000 ∧ (k = 1 → Q (.ref l) H) ∧ (2 ≤ k → ∀ p, H p = none → Q (.ref p) (upd H p (.tup (List.replicate k.toNat xs).flatten)))
theorem op_repA {X : Cx} : OpR X (binaryOp .Mult) (rRepA X.K) := by
  intro pins s σ H x y v u Q I rx ry h
  obtain ⟨l, k, xs, rfl, rfl, hT, hne, h1, h2, hz, q1, q2⟩ := h
  by_cases hk : k = 1
  · subst hk
    cases rx
    obtain ⟨t, rfl⟩ := ry
    obtain ⟨its, r, ⟨⟨cls, dd, data, sl⟩, ho, hc, n, hd⟩, hs⟩ := I.tuple hT
    simp only at hc hd
    subst hc hd
    refine wpAny_binaryOp_repeat_ref (T := "tuple") (U := "int") (by decide) ⟨_, ho, rfl⟩ (fun s' => typeIs_int s' 1 t) noFill_tuple_mul F.fills_int_mul F.slot_int_rmul repeat_tuple F.slot_int_index.lookup ?_
    refine call_meets F.slot_int_rmul (typeIs_int s 1 t) F.entry_int_rmul (F.args_int_rmul_2 _ _) (int_rmul_tuple 1 t l its.toArray n dd sl) ⟨ho, rfl, ⟨_, ho, rfl⟩, ?_⟩
    exact call_meets F.slot_tuple_mul ⟨_, ho, rfl⟩ F.entry_tuple_mul (F.args_tuple_mul_2 _ _) (tuple_mul1 l its.toArray n dd sl t) ⟨ho, .ref l, H, I, rfl, q1 rfl⟩
  · exact op_repT pins s σ H _ _ v u Q I rx ry ⟨l, k, xs, rfl, rfl, hT, hne, by omega, h2, hz, q2 (by omega)⟩
end Un

/-! ## UnSums -/
namespace Un
open PySem PySem.Spec PyProof.Rows L2
open Evl (Ex)
/-- numbers in a tuple or a list -/
def SeqI (x : PD) (bs : List Int) : Prop := x = .tuple (bs.map PyData.int) ∨ x = .list (bs.map PyData.int)
section
variable {K : PySem.W.Frag} {ρ : Rho}
theorem ro_seqI {x : PD} {bs : List Int} {k : Nat} (h : SeqI x bs) (hk : k < bs.length) : Ro (rIx K) (.dat x) (.dat (natD k)) (.dat (.int (bs.getD k 0))) := by
  rcases h with h | h
  · subst h; exact ro_sqT (at_int hk)
  · subst h; exact ro_sqL (at_int hk)
/-- [f(k) for k in ns]: natural numbers in, data out -/
theorem d_mapN {wi : TI} {te : TE} {ns : List Nat} {g : Nat → PD} {j : Nat} (hs : Es wi ρ (ns.map natD)) (hj : ρ[j]? = some .un) (hl : ns.length ≤ 40000) (he : ∀ k ∈ ns, Ed te (ρ.set j (.dat (natD k))) (.dat (g k))) :
    Ed (tLc wi (gName j) tYes te [j]) ρ (.dat (.list (ns.map g))) := by
  let w : PD → PD := fun d => match d with
    | .int k => g k.toNat
    | d => d
  have wk : ∀ k : Nat, w (natD k) = g k := fun k => by
    show g (((k : Nat) : Int).toNat) = g k
    rw [show ((k : Nat) : Int).toNat = k by omega]
  have lc := d_lc (fun _ => true) w hs (rho0_of hj) (by rw [List.length_map]; exact hl) (te := te) (tt := tYes) (g := gName j) (fun x hx => by
    obtain ⟨k, hk, rfl⟩ := List.mem_map.mp hx
    exact ⟨_, _, g_name, fun i hi => hi, t_yes, fun _ => d_is (he k hk) (by rw [wk])⟩)
  have e : ((ns.map natD).filter fun _ => true).map w = ns.map g := by
    rw [List.filter_eq_self.mpr (fun _ _ => rfl), List.map_map]
    exact List.map_congr_left fun k _ => wk k
  rw [e] at lc
  exact lc
/-- the same with a test -/
theorem d_mapNF {wi : TI} {tt : TT} {te : TE} {ns : List Nat} {p : Nat → Bool} {g : Nat → PD} {j : Nat} (hs : Es wi ρ (ns.map natD)) (hj : ρ[j]? = some .un) (hl : ns.length ≤ 40000) (ht : ∀ k ∈ ns, Et tt (ρ.set j (.dat (natD k))) (p k)) (he : ∀ k ∈ ns, p k = true → Ed te (ρ.set j (.dat (natD k))) (.dat (g k))) :
    Ed (tLc wi (gName j) tt te [j]) ρ (.dat (.list ((ns.filter p).map g))) := by
  let w : PD → PD := fun d => match d with
    | .int k => g k.toNat
    | d => d
  have wk : ∀ k : Nat, w (natD k) = g k := fun k => by
    show g (((k : Nat) : Int).toNat) = g k
    rw [show ((k : Nat) : Int).toNat = k by omega]
  let f : PD → Bool := fun d => match d with
    | .int k => p k.toNat
    | _ => false
  have fk : ∀ k : Nat, f (natD k) = p k := fun k => by
    show p (((k : Nat) : Int).toNat) = p k
    rw [show ((k : Nat) : Int).toNat = k by omega]
  have lc := d_lc f w hs (rho0_of hj) (by rw [List.length_map]; exact hl) (te := te) (tt := tt) (g := gName j) (fun x hx => by
    obtain ⟨k, hk, rfl⟩ := List.mem_map.mp hx
    exact ⟨_, _, g_name, fun i hi => hi, t_is (ht k hk) (fk k).symm, fun z => d_is (he k hk (by rw [← fk]; exact z)) (by rw [wk])⟩)
  have e : ((ns.map natD).filter f).map w = (ns.filter p).map g := by
    rw [List.filter_map, List.map_map]
    rw [show (f ∘ natD) = p from funext fk]
    exact List.map_congr_left fun k _ => wk k
  rw [e] at lc
  exact lc
theorem es_nats {te : TE} {ns : List Nat} (h : Ed te ρ (.dat (natsD ns))) : Es (iTup K te) ρ (ns.map natD) := es_tup h
theorem es_rangeN {ta : TA} {n : Nat} (h : Ea ta ρ [.dat (natD n)]) (hn : n ≤ 100000) : Es (iRng1 ta) ρ ((List.range n).map natD) := by
  have z := es_rng1 (ρ := ρ) (n := (n : Int)) h (by omega) (by omega)
  rw [show ((n : Nat) : Int).toNat = n by omega] at z
  exact z
/-! ### borne -/
def Rborne : List PD → PD → Prop := fun ds d => ∃ (x : PD) (bs : List Int) (ns : List Nat), ds = [x, natsD ns] ∧ SeqI x bs ∧ (∀ k ∈ ns, k < bs.length) ∧ ns.length ≤ 1000 ∧ d = .int (sumOn bs ns)
def sp_borne : Sp := spR Rborne
def T_borne (K : PySem.W.Frag) : TS :=
    tRet (tCB (rSum K) (tCons (tLc (iTup K (tVar 1)) (gName 2) tYes (tOp (rIx K) (tVar 0) (tVar 2)) [2]) tNil))
theorem e_borne {ds : List PD} {d : PD} (h : Rborne ds d) : Sd (T_borne K) (ds.map Sl.dat ++ List.replicate 1 Sl.un) (.ret d) := by
  obtain ⟨x, bs, ns, rfl, hx, hb, hl, rfl⟩ := h
  have lc := d_mapN (j := 2) (te := tOp (rIx K) (tVar 0) (tVar 2)) (g := fun k => .int (bs.getD k 0)) (es_nats (K := K) (ρ := [x, natsD ns].map Sl.dat ++ List.replicate 1 Sl.un) (te := tVar 1) (ns := ns) (d_var rfl)) rfl (by omega) (fun k hk => d_op (d_var rfl) (d_var rfl) (ro_seqI hx (hb k hk)))
  have e : ns.map (fun k => PyData.int (bs.getD k 0)) = (ns.map fun k => bs.getD k 0).map PyData.int := by rw [List.map_map]; rfl
  rw [e] at lc
  exact sd_ret (d_cb (a_cons lc a_nil) rc_sum)
/-! ### nothing, through, worth, at_doors -/
def Rnothing : List PD → PD → Prop := fun ds d => ∃ W : Web, ds = [webD W] ∧ W.roads.length ≤ 1000 ∧ d = intsD (List.replicate W.roads.length 0)
def sp_nothing : Sp := spR Rnothing
def T_nothing (K : PySem.W.Frag) : TS :=
    tRet (tCB (rTupQ K) (tCons (tLc (iTup K (tOp (rIx K) (tVar 0) (tC (.int 0)))) (gName 1) tYes (tC (.int 0)) [1]) tNil))
theorem e_nothing {ds : List PD} {d : PD} (h : Rnothing ds d) : Sd (T_nothing K) (ds.map Sl.dat ++ List.replicate 1 Sl.un) (.ret d) := by
  obtain ⟨W, rfl, hl, rfl⟩ := h
  have lc := d_lc (fun _ => true) (fun _ => PyData.int 0) (es_tup (K := K) (d_roads (K := K) (ρ := [webD W].map Sl.dat ++ List.replicate 1 Sl.un) (i := 0) (W := W) rfl)) (rho0_of (j := 1) rfl) (by rw [List.length_map]; omega) (te := tC (.int 0)) (tt := tYes) (g := gName 1) (fun x hx => ⟨_, _, g_name, fun i hi => hi, t_yes, fun _ => d_int⟩)
  have e : ((W.roads.map roadD).filter fun _ => true).map (fun _ => PyData.int 0) = (List.replicate W.roads.length (0 : Int)).map PyData.int := by
    rw [List.filter_eq_self.mpr (fun _ _ => rfl), List.map_map, List.map_replicate]
    apply List.ext_getElem
    · simp
    · intro i h1 h2
      simp
  rw [e] at lc
  exact sd_ret (d_cb (a_cons lc a_nil) rc_tupL)
def Rthrough : List PD → PD → Prop := fun ds d => ∃ (W : Web) (x : PD) (bs : List Int), ds = [webD W, x] ∧ SeqI x bs ∧ W.takes.length ≤ 1000 ∧ (∀ l ∈ W.takes, l.length ≤ 1000 ∧ ∀ k ∈ l, k < bs.length) ∧ d = intsD (W.takes.map (sumOn bs))
def sp_through : Sp := spR Rthrough
def T_through (K : PySem.W.Frag) : TS :=
    tRet (tCB (rTupQ K) (tCons (tLc (iTup K (tOp (rIx K) (tVar 0) (tC (.int 2)))) (gName 2) tYes (tCall sp_borne [] E0 (tCons (tVar 1) (tCons (tVar 2) tNil))) [2]) tNil))
def unNat : PD → Nat
  | .int k => k.toNat
  | _ => 0
theorem unNat_of (k : Nat) : unNat (natD k) = k := by
  show ((k : Nat) : Int).toNat = k
  omega
def unNats : PD → List Nat
  | .tuple l => l.map unNat
  | _ => []
theorem unNats_of (l : List Nat) : unNats (natsD l) = l := by
  show (l.map natD).map unNat = l
  rw [List.map_map, show unNat ∘ natD = id from funext unNat_of, List.map_id]
theorem e_through {ds : List PD} {d : PD} (h : Rthrough ds d) : Sd (T_through K) (ds.map Sl.dat ++ List.replicate 1 Sl.un) (.ret d) := by
  obtain ⟨W, x, bs, rfl, hx, hl, hb, rfl⟩ := h
  have lc := d_lc (fun _ => true) (fun d => PyData.int (sumOn bs (unNats d))) (es_tup (K := K) (d_takes (K := K) (ρ := [webD W, x].map Sl.dat ++ List.replicate 1 Sl.un) (i := 0) (W := W) rfl)) (rho0_of (j := 2) rfl) (by rw [List.length_map]; omega) (te := tCall sp_borne [] E0 (tCons (tVar 1) (tCons (tVar 2) tNil))) (tt := tYes) (g := gName 2) (fun y hy => by
    obtain ⟨l, hll, rfl⟩ := List.mem_map.mp hy
    have z := hb l hll
    refine ⟨_, _, g_name, fun i hi => hi, t_yes, fun _ => ?_⟩
    rw [unNats_of]
    exact d_callR (ds := [x, natsD l]) (a_cons (d_var rfl) (a_cons (d_var rfl) a_nil)) ⟨x, bs, l, rfl, hx, z.2, z.1, rfl⟩)
  have e : ((W.takes.map natsD).filter fun _ => true).map (fun d => PyData.int (sumOn bs (unNats d))) = (W.takes.map (sumOn bs)).map PyData.int := by
    rw [List.filter_eq_self.mpr (fun _ _ => rfl), List.map_map, List.map_map]
    exact List.map_congr_left fun l _ => by
      show PyData.int (sumOn bs (unNats (natsD l))) = PyData.int (sumOn bs l)
      rw [unNats_of]
  rw [e] at lc
  exact sd_ret (d_cb (a_cons lc a_nil) rc_tupL)
def Rworth : List PD → PD → Prop := fun ds d => ∃ (W : Web) (x : PD) (bs : List Int), ds = [webD W, x] ∧ SeqI x bs ∧ W.roads.length ≤ 1000 ∧ bs.length = W.roads.length ∧ d = .int (sumOn bs (inDoors W))
def sp_worth : Sp := spR Rworth
def T_worth (K : PySem.W.Frag) : TS :=
    tRet (tCall sp_borne [] E0 (tCons (tVar 1) (tCons (tCall sp_in_doors [] E0 (tCons (tVar 0) tNil)) tNil)))
theorem pick_lt {rs : List Road} {q : Road → Bool} {k : Nat} (h : k ∈ pick rs q) : k < rs.length := List.mem_range.mp (List.mem_filter.mp h).1
theorem pick_len' (rs : List Road) (q : Road → Bool) : (pick rs q).length ≤ rs.length := by
  unfold pick
  refine Nat.le_trans (List.length_filter_le _ _) ?_
  rw [List.length_range]
  exact Nat.le_refl _
theorem e_worth {ds : List PD} {d : PD} (h : Rworth ds d) : Sd (T_worth K) (ds.map Sl.dat ++ List.replicate 0 Sl.un) (.ret d) := by
  obtain ⟨W, x, bs, rfl, hx, hl, hb, rfl⟩ := h
  have z := pick_len' W.roads isIn
  exact sd_ret (d_callR (ds := [x, natsD (inDoors W)]) (a_cons (d_var rfl) (a_cons (d_callR (ds := [webD W]) (a_cons (d_var rfl) a_nil) ⟨W, rfl, hl, rfl⟩) a_nil)) ⟨x, bs, inDoors W, rfl, hx, fun k hk => by rw [hb]; exact pick_lt hk, Nat.le_trans z hl, rfl⟩)
def pairD (bs : List Int) (k : Nat) : PD := .tuple [natD k, .int (bs.getD k 0)]
def Rat_doors : List PD → PD → Prop := fun ds d => ∃ (W : Web) (x : PD) (bs : List Int), ds = [webD W, x] ∧ SeqI x bs ∧ W.roads.length ≤ 1000 ∧ bs.length = W.roads.length ∧ d = .tuple ((doorsOf W).map (pairD bs))
def sp_at_doors : Sp := spR Rat_doors
def T_at_doors (K : PySem.W.Frag) : TS :=
    tRet (tCB (rTupQ K) (tCons (tLc (iTup K (tCall sp_doors [] E0 (tCons (tVar 0) tNil))) (gName 2) tYes (tTup (tCons (tVar 2) (tCons (tOp (rIx K) (tVar 1) (tVar 2)) tNil))) [2]) tNil))
theorem e_at_doors {ds : List PD} {d : PD} (h : Rat_doors ds d) : Sd (T_at_doors K) (ds.map Sl.dat ++ List.replicate 1 Sl.un) (.ret d) := by
  obtain ⟨W, x, bs, rfl, hx, hl, hb, rfl⟩ := h
  have z := pick_len' W.roads fun r => isIn r || isOut r
  have lc := d_mapN (j := 2) (te := tTup (tCons (tVar 2) (tCons (tOp (rIx K) (tVar 1) (tVar 2)) tNil))) (g := pairD bs) (es_nats (K := K) (ρ := [webD W, x].map Sl.dat ++ List.replicate 1 Sl.un) (te := tCall sp_doors [] E0 (tCons (tVar 0) tNil)) (ns := doorsOf W) (d_callR (ds := [webD W]) (a_cons (d_var rfl) a_nil) ⟨W, rfl, hl, rfl⟩)) rfl (by show (pick W.roads _).length ≤ 40000; omega)
    (fun k hk => d_tup (ds := [natD k, .int (bs.getD k 0)]) (a_cons (d_var rfl) (a_cons (d_op (d_var rfl) (d_var rfl) (ro_seqI hx (by rw [hb]; exact pick_lt hk))) a_nil)) (by simp))
  exact sd_ret (d_cb (a_cons lc a_nil) rc_tupL)
/-! ### _law_sum -/
def Rsum : List PD → PD → Prop := fun ds d => ∃ (W : Web) (x : PD) (bs : List Int) (s : Nat) (h : Option Nat), ds = [webD W, x, natD s, optD h] ∧ SeqI x bs ∧ s < 2 ∧ W.roads.length ≤ 1000 ∧ bs.length = W.roads.length ∧ d = .int (sideSum W bs s h)
def sp__law_sum : Sp := spR Rsum
def T__law_sum (K : PySem.W.Frag) : TS :=
    tRet (tCB (rSum K) (tCons (tLc (iRng1 (tCons (tCB (rLenQ K) (tCons (tOp (rIx K) (tVar 0) (tC (.int 0))) tNil)) tNil)) (gName 4) (tTest (tOp (rEqD K) (tOp (rIx K) (tOp (rIx K) (tOp (rIx K) (tVar 0) (tC (.int 0))) (tVar 4)) (tVar 2)) (tVar 3))) (tOp (rIx K) (tVar 1) (tVar 4)) [4]) tNil))
theorem eqv_oo (o p : Option Nat) : PyData.eqv (optD o) (optD p) = (o == p) := by
  cases o <;> cases p
  · rfl
  · rfl
  · rfl
  · rename_i a b
    show ((a : Int) == (b : Int)) = (some a == some b)
    rw [Bool.eq_iff_iff]
    simp
    omega
theorem e_sum {ds : List PD} {d : PD} (h : Rsum ds d) : Sd (T__law_sum K) (ds.map Sl.dat ++ List.replicate 1 Sl.un) (.ret d) := by
  obtain ⟨W, x, bs, s, h, rfl, hx, hs, hl, hb, rfl⟩ := h
  have lc := d_mapNF (j := 4) (tt := tTest (tOp (rEqD K) (tOp (rIx K) (tOp (rIx K) (tOp (rIx K) (tVar 0) (tC (.int 0))) (tVar 4)) (tVar 2)) (tVar 3))) (te := tOp (rIx K) (tVar 1) (tVar 4)) (p := fun k => sideOf s (W.rd k) == h) (g := fun k => .int (bs.getD k 0))
    (es_rangeN (ρ := [webD W, x, natD s, optD h].map Sl.dat ++ List.replicate 1 Sl.un) (d_len (K := K) (i := 0) (W := W) rfl) (by omega)) rfl (by rw [List.length_range]; omega)
    (fun k hk => t_is (t_test (d_op (d_op (d_rd (i := 0) rfl (d_var rfl) (List.mem_range.mp hk)) (d_var (d := natD s) rfl) (ro_sqT (road_side hs))) (d_var (d := optD h) rfl) (ro_eqD (shaped_opt _) (shaped_opt h)))) (eqv_oo _ _))
    (fun k hk _ => d_op (d_var (d := x) rfl) (d_var rfl) (ro_seqI hx (by rw [hb]; exact List.mem_range.mp hk)))
  have e : ((List.range W.roads.length).filter fun k => sideOf s (W.rd k) == h).map (fun k => PyData.int (bs.getD k 0)) = (((List.range W.roads.length).filter fun k => sideOf s (W.rd k) == h).map fun k => bs.getD k 0).map PyData.int := by rw [List.map_map]; rfl
  rw [e] at lc
  exact sd_ret (d_cb (a_cons lc a_nil) rc_sum)
/-! sums by any order -/
theorem sumOn_perm {bs : List Int} {l m : List Nat} (h : l.Perm m) : sumOn bs l = sumOn bs m := by
  unfold sumOn
  induction h with
  | nil => rfl
  | cons x _ ih => rw [List.map_cons, List.map_cons, List.sum_cons, List.sum_cons, ih]
  | swap x y l => rw [List.map_cons, List.map_cons, List.map_cons, List.map_cons, List.sum_cons, List.sum_cons, List.sum_cons, List.sum_cons]; omega
  | trans _ _ i1 i2 => exact i1.trans i2
theorem filter_side {W : Web} {s : Nat} {h : Nat} : (List.range W.roads.length).filter (fun k => sideOf s (W.rd k) == some h) = atSide W.roads s h := by
  unfold atSide
  apply List.filter_congr
  intro k hk
  rw [rd_at (List.mem_range.mp hk)]
  rfl
theorem filter_in {W : Web} : (List.range W.roads.length).filter (fun k => sideOf 0 (W.rd k) == none) = inDoors W := by
  unfold inDoors pick
  apply List.filter_congr
  intro k hk
  rw [rd_at (List.mem_range.mp hk)]
  show ((W.rd k).b == none) = (some (W.rd k).b.isNone == some true)
  cases (W.rd k).b <;> rfl
theorem filter_out {W : Web} : (List.range W.roads.length).filter (fun k => sideOf 1 (W.rd k) == none) = outDoors W := by
  unfold outDoors pick
  apply List.filter_congr
  intro k hk
  rw [rd_at (List.mem_range.mp hk)]
  show ((W.rd k).e == none) = (some (W.rd k).e.isNone == some true)
  cases (W.rd k).e <;> rfl
theorem takes_sum {W : Web} {far : Int} (w : IsWeb W far) (bs : List Int) : W.takes.map (sumOn bs) = (List.range W.gives.length).map fun h => sideSum W bs 1 (some h) := by
  apply List.ext_getElem
  · rw [List.length_map, List.length_map, List.length_range, w.same]
  · intro i h1 h2
    rw [List.getElem_map, List.getElem_map, List.getElem_range]
    unfold sideSum
    rw [filter_side]
    refine sumOn_perm ?_
    have z := w.take i _ (List.getElem?_eq_getElem (by simpa using h1))
    rw [ends_eq] at z
    exact z
theorem gives_sum {W : Web} {far : Int} (w : IsWeb W far) (bs : List Int) : W.gives.map (sumOn bs) = (List.range W.gives.length).map fun h => sideSum W bs 0 (some h) := by
  apply List.ext_getElem
  · rw [List.length_map, List.length_map, List.length_range]
  · intro i h1 h2
    rw [List.getElem_map, List.getElem_map, List.getElem_range]
    unfold sideSum
    rw [filter_side]
    refine sumOn_perm ?_
    have z := w.give i _ (List.getElem?_eq_getElem (by simpa using h1))
    rw [begins_eq] at z
    exact z
theorem atSide_lt {rs : List Road} {s h k : Nat} (hk : k ∈ atSide rs s h) : k < rs.length := List.mem_range.mp (List.mem_filter.mp hk).1
theorem atSide_len (rs : List Road) (s h : Nat) : (atSide rs s h).length ≤ rs.length := by
  unfold atSide
  refine Nat.le_trans (List.length_filter_le _ _) ?_
  rw [List.length_range]
  exact Nat.le_refl _
theorem takes_ok {W : Web} {far : Int} (w : IsWeb W far) {l : List Nat} (hl : l ∈ W.takes) : l.length ≤ 20 ∧ ∀ k ∈ l, k < W.roads.length := by
  obtain ⟨i, hi, e⟩ := List.getElem_of_mem hl
  have z := w.take i l (by rw [List.getElem?_eq_getElem hi, e])
  rw [ends_eq] at z
  refine ⟨?_, fun k hk => atSide_lt (z.mem_iff.mp hk)⟩
  rw [z.length_eq]
  exact Nat.le_trans (atSide_len _ _ _) w.count.2
theorem gives_ok {W : Web} {far : Int} (w : IsWeb W far) {l : List Nat} (hl : l ∈ W.gives) : l.length ≤ 20 ∧ ∀ k ∈ l, k < W.roads.length := by
  obtain ⟨i, hi, e⟩ := List.getElem_of_mem hl
  have z := w.give i l (by rw [List.getElem?_eq_getElem hi, e])
  rw [begins_eq] at z
  refine ⟨?_, fun k hk => atSide_lt (z.mem_iff.mp hk)⟩
  rw [z.length_eq]
  exact Nat.le_trans (atSide_len _ _ _) w.count.2
end
end Un

/-! ## UnEnd -/
namespace Un
open PySem PySem.Spec PyProof.Rows L2
open Evl (Ex)
/-! ### a law over the deck -/
def sp_law (K : PySem.W.Frag) : Sp := fun vs H Q _ => ∃ (s : Addr) (ns : List Int), vs = [.ref s] ∧ SqL K H s (ns.map V.int) ∧ ns.length ≤ 63 ∧ ∀ H', Q (.bl true) H'
section
variable {K : PySem.W.Frag} {ρ : Rho}
theorem law_go {t : TS} {k m : Nat} (h : ∀ a, Sw a t (.un :: .raw (.ref a) :: List.replicate k Sl.un) m (fun o => o = .ret (.bool true))) (hm : m ≤ 2 ^ 60) {N : List Str} {vs : List V} {H : Hp} {Q : VK} {E : XK} (hN : N.length = k + 2) (hs : sp_law K vs H Q E) :
    tSeq (tAsg (tCall (sp__law_deck K) [] E0 (tCons (tVar 0) tNil)) (gName 1)) t { nx := fun _ H' => Q .non H', rt := Q } (L2.start N vs) H := by
  obtain ⟨s, ns, rfl, hS, hl, q⟩ := hs
  unfold L2.start
  rw [hN]
  refine ⟨.ref s, rfl, s, ns, rfl, hS, hl, fun a b c H2 ha hb hc e dk => ?_⟩
  obtain ⟨bs, cs, p, h1, h2, h3, _⟩ := dk.ex
  have al : Al [a, b] H2 := fun x hx z => by
    have e : x = a ∨ x = b := by simpa using hx
    rcases e with e | e
    · subst e; rw [h1] at z; cases z
    · subst e; rw [h2] at z; cases z
  refine h a b c 0 [a, b] _ H2 _ (by simp) (by simp) al ?_ dk (by omega) fun o ho => ?_
  · show En (hid [a, b] H2) (some (.ref s) :: (List.replicate (k + 2 - [V.ref s].length) none).set 0 (some (.ref a))) _
    have e : k + 2 - [V.ref s].length = k + 1 := by show k + 2 - 1 = k + 1; omega
    rw [e, List.replicate_succ]
    exact en_cons trivial (en_cons rfl (en_none k))
  · subst ho
    exact fun v H3 _ _ r => by
      cases r
      exact q H3
theorem pln_int (i : Int) : ∀ n, Pln n (.int i)
  | 0 => rfl
  | _ + 1 => .inl rfl
theorem pln_opt (o : Option Nat) : ∀ n, Pln n (optD o) := fun n => by
  cases o <;> cases n
  · rfl
  · exact .inl rfl
  · rfl
  · exact .inl rfl
theorem pln_tup {n : Nat} {xs : List PD} (hl : xs.length ≤ 1000) (h : ∀ y ∈ xs, Pln n y) : Pln (n + 1) (.tuple xs) := .inr ⟨xs, rfl, hl, h⟩
theorem pln_mono : ∀ {n : Nat} {d : PD}, Pln n d → Pln (n + 1) d
  | 0, d, h => .inl h
  | n + 1, d, h => by
    rcases h with h | ⟨xs, e, hl, hy⟩
    · exact .inl h
    · exact .inr ⟨xs, e, hl, fun y hy' => pln_mono (hy y hy')⟩
theorem pln_ints (bs : List Int) (hl : bs.length ≤ 1000) : Pln 1 (intsD bs) := pln_tup (by rw [List.length_map]; exact hl) fun y hy => by
  obtain ⟨k, _, rfl⟩ := List.mem_map.mp hy
  rfl
theorem pln_nats' (l : List Nat) (hl : l.length ≤ 1000) : Pln 1 (natsD l) := pln_tup (by rw [List.length_map]; exact hl) fun y hy => by
  obtain ⟨k, _, rfl⟩ := List.mem_map.mp hy
  rfl
/-- not same(x, x): never -/
theorem t_notSame {n : Nat} {ta tb : TE} {x : PD} (h1 : Ed ta ρ (.dat x)) (h2 : Ed tb ρ (.dat x)) (hp : Pln n x) : Et (tNot (tB (tCall (sp__law_same n) [] E0 (tCons ta (tCons tb tNil))))) ρ false :=
  t_is (t_not (t_B (d_callR (ds := [x, x]) (a_cons h1 (a_cons h2 a_nil)) ⟨x, rfl, hp, rfl⟩))) rfl
/-- the drawn web: _law_web(deck, 8, 20, ..) -/
theorem ew_web {a : Addr} {i : Nat} {tf : TE} {mf : Nat} (h0 : ρ[i]? = some (.raw (.ref a))) (hf : Ew a tf ρ mf (fun d => ∃ f : Bool, d = .bool f)) (h r : Nat) (hh : 1 ≤ h ∧ h ≤ 8) (hr : 1 ≤ r ∧ r ≤ 20) :
    Ew a (tCall sp__law_web [] E0 (tCons (tVar i) (tCons (tC (.int (h : Nat))) (tCons (tC (.int (r : Nat))) (tCons tf tNil))))) ρ (0 + (0 + (mf + 0)) + 2000) (fun d => ∃ W, d = webD W ∧ IsWeb W 1000000000000 ∧ W.gives.length ≤ h ∧ W.roads.length ≤ r) := by
  refine ew_call h0 (ewa_cons (ew_pure d_int) (ewa_cons (ew_pure d_int) (ewa_cons hf ewa_nil))) ?_ ?_
  · rintro ds ⟨_, _, rfl, rfl, _, _, rfl, rfl, _, _, rfl, ⟨f, rfl⟩, rfl⟩
    exact ⟨h, r, f, rfl, hh.1, hh.2, hr.1, hr.2⟩
  · rintro ds d ⟨_, _, rfl, rfl, _, _, rfl, rfl, _, _, rfl, ⟨f, rfl⟩, rfl⟩ ⟨h', r', f', W, e1, e2, w, l1, l2, _⟩
    obtain ⟨z1, z2⟩ := List.cons.inj e1
    have z3 := PyData.int.inj z1
    have z4 := PyData.int.inj (List.cons.inj z2).1
    exact ⟨W, e2, w, by omega, by omega⟩
/-- next(deck, m) == 0 -/
theorem ew_nextEq {a : Addr} {i : Nat} {m : Int} (h0 : ρ[i]? = some (.raw (.ref a))) (hm : 0 < m) (hm2 : m < 2 ^ 64) : Ew a (tOp (rEqD K) (tCall sp__law_next [] E0 (tCons (tVar i) (tCons (tC (.int m)) tNil))) (tC (.int 0))) ρ (0 + 1 + 0) (fun d => ∃ f : Bool, d = .bool f) := by
  refine ew_op (ew_call h0 (ewa_1 d_int) (fun ds e => ⟨m, e, hm, hm2⟩) (P := fun d => ∃ r : Int, d = .int r) ?_) (ew_pure d_int) ?_
  · rintro ds d rfl ⟨m, r, e1, e2, _⟩
    exact ⟨r, e2⟩
  · rintro x y ⟨r, rfl⟩ rfl
    exact ⟨_, ro_eqD rfl rfl, _, rfl⟩
/-- next(deck, m) -/
theorem ew_nextN {a : Addr} {i m : Nat} (h0 : ρ[i]? = some (.raw (.ref a))) (hm : 0 < m) (hm2 : m ≤ 1000000) : Ew a (tCall sp__law_next [] E0 (tCons (tVar i) (tCons (tC (.int (m : Nat))) tNil))) ρ (0 + 1) (fun d => ∃ r : Nat, d = natD r ∧ r < m) := by
  refine ew_call h0 (ewa_1 d_int) (fun ds e => ⟨(m : Int), e, by omega, by omega⟩) ?_
  rintro ds d rfl ⟨m', r, e1, e2, x0, x1⟩
  have em := PyData.int.inj (List.cons.inj e1).1
  exact ⟨r.toNat, by rw [e2]; show PyData.int r = PyData.int _; congr 1; omega, by omega⟩
theorem roadsD_inj {W W' : Web} (h : webD W = webD W') : W.roads = W'.roads := by
  have z4 := (List.cons.inj (PyData.tuple.inj h)).1
  have z5 := PyData.tuple.inj z4
  refine (List.map_inj_right (fun x y h => ?_)).mp z5
  have h1 := PyData.tuple.inj h
  obtain ⟨g1, g2⟩ := List.cons.inj h1
  obtain ⟨g3, g4⟩ := List.cons.inj g2
  have g5 := PyData.int.inj (List.cons.inj g4).1
  have od : ∀ o p : Option Nat, optD o = optD p → o = p := fun o p h => by
    cases o <;> cases p
    · rfl
    · cases h
    · cases h
    · have := PyData.int.inj h
      congr 1
      omega
  cases x; cases y
  have q1 := od _ _ g1
  have q2 := od _ _ g3
  simp only at q1 q2 g5
  subst q1 q2 g5
  rfl
/-- _law_stream(deck, web, several) -/
theorem ew_stream {a : Addr} {i j : Nat} {W : Web} {tm : TE} {mm : Nat} (h0 : ρ[i]? = some (.raw (.ref a))) (h1 : ρ[j]? = some (.dat (webD W))) (w : IsWeb W 1000000000000) (hm : Ew a tm ρ mm (fun d => ∃ r : Nat, d = natD r ∧ r ≤ 20)) :
    Ew a (tCall sp__law_stream [] E0 (tCons (tVar i) (tCons (tVar j) (tCons tm tNil)))) ρ (0 + (mm + 0) + 1000) (fun d => ∃ bs, d = intsD bs ∧ IsStream W bs) := by
  refine ew_call h0 (ewa_cons (ew_pure (d_var h1)) (ewa_cons hm ewa_nil)) ?_ ?_
  · rintro ds ⟨_, _, rfl, rfl, _, _, rfl, ⟨r, rfl, hr⟩, rfl⟩
    exact ⟨W, r, rfl, w, hr⟩
  · rintro ds d ⟨_, _, rfl, rfl, _, _, rfl, ⟨r, rfl, hr⟩, rfl⟩ ⟨W', m', bs, e1, e2, st⟩
    have er := roadsD_inj (List.cons.inj e1).1
    have erd : ∀ k, W'.rd k = W.rd k := fun k => by unfold Web.rd; rw [er]
    refine ⟨bs, e2, ⟨by rw [er]; exact st.len, fun k hk => by have z := st.room k (by rw [← er]; exact hk); rw [erd] at z; exact z, fun h => ?_⟩⟩
    have z := st.even h
    unfold sideSum at z ⊢
    rw [er]
    rw [show (fun k => sideOf 1 (W'.rd k) == some h) = fun k => sideOf 1 (W.rd k) == some h from funext fun k => by rw [erd], show (fun k => sideOf 0 (W'.rd k) == some h) = fun k => sideOf 0 (W.rd k) == some h from funext fun k => by rw [erd]] at z
    exact z
/-- t[:2] of a road, None in it -/
theorem d_cut2 {te : TE} {x y z : PD} (h : Ed te ρ (.dat (.tuple [x, y, z]))) : Ed (tSl (rSlA K) te tNoPart (tPart (tC (.int 2)))) ρ (.dat (.tuple [x, y])) := fun S σ H al en Q q => h S σ H al en _ fun v H1 e1 rv => by
  cases rv.val with
  | tup ha ra =>
    match ra with
    | .cons (v := v1) r1 (.cons (v := v2) r2 (.cons (v := v3) r3 .nil)) =>
      refine ⟨2, rfl, _, _, rfl, .inl (.inl (hid_le _ _ ha)), fun hw => ?_, fun _ p hp => q _ _ (e1.trans (Ex.new hp)) (.of (.tup (xs := [v1, v2]) ?_ (.cons (r1.ex (hid_ex (Ex.new hp))) (.cons (r2.ex (hid_ex (Ex.new hp))) .nil))))⟩
      · have z := hw.2
        have e : HT.sIx [v1, v2, v3].length [v1, v2, v3].length (some 2) = 2 := rfl
        rw [e] at z
        cases z
      · rw [hid_out ((al.ex e1).new hp), upd_same]
        rfl
theorem t_noneIn {te : TE} {x y : Option Nat} (h : Ed te ρ (.dat (.tuple [optD x, optD y]))) : Et (tTest (tOp (rIn K false) (tC .non) te)) ρ (x.isNone || y.isNone) := by
  refine t_is (t_test (d_op d_non h (ro_inT (o := none) (l := [x, y])))) ?_
  cases x <;> cases y <;> rfl
end
end Un

/-! ## UnFault -/
namespace Un
open PySem PySem.Spec PyProof.Rows L2
open Evl (Ex)
section
variable {K : PySem.W.Frag} {ρ : Rho}
/-! ### weakening; a for that finds -/
theorem sd_weak {t : TS} {ρ ρ' : Rho} {o : Ou} (w : Wkn ρ ρ') (h : Sd t ρ' o) : Sd t ρ o := fun S σ H D al en q => h S σ H D al (en.weak w) q
theorem sd_out {t : TS} {ρ ρ' ρ'' : Rho} (h : Sd t ρ (.nxt ρ')) (w : Wkn ρ' ρ'') : Sd t ρ (.nxt ρ'') := fun S σ H D al en q => h S σ H D al en fun σ2 H2 e2 en2 => q σ2 H2 e2 (en2.weak w)
def outOf (r : Option PD) (ρ : Rho) : Ou := match r with
  | some d => .ret d
  | none => .nxt ρ
theorem lp_find {g : TG} {tb : TS} (p : PD → Option PD) : ∀ {xs : List PD}, (∀ x ∈ xs, ∃ ρ1 vs, Gd g x ρ ρ1 vs ∧ Sd tb ρ1 (outOf (p x) ρ)) → Lp g tb xs ρ (outOf (xs.findSome? p) ρ)
  | [], _ => .nil
  | x :: xs, h => by
    obtain ⟨ρ1, vs, hg, hb⟩ := h x (List.mem_cons_self ..)
    rw [List.findSome?_cons]
    cases hp : p x with
    | none =>
      rw [hp] at hb
      exact .next hg hb (lp_find p fun y hy => h y (List.mem_cons_of_mem _ hy))
    | some d =>
      rw [hp] at hb
      exact .ret hg hb
theorem sd_find {wi : TI} {g : TG} {tb : TS} {xs : List PD} (p : PD → Option PD) (hs : Es wi ρ xs) (h : ∀ x ∈ xs, ∃ ρ1 vs, Gd g x ρ ρ1 vs ∧ Sd tb ρ1 (outOf (p x) ρ)) : Sd (tFor wi g tb) ρ (outOf (xs.findSome? p) ρ) :=
  sd_for hs (lp_find p h) fun ρ' => by
    cases xs.findSome? p <;> exact ⟨(fun z => nomatch z), (fun z => nomatch z)⟩
/-! ### is_number, is_tuple_of, is_form -/
def isNumD : PD → Bool
  | .int _ => true
  | _ => false
def isDict : PD → Bool
  | .dict _ => true
  | _ => false
def Rnum : List PD → PD → Prop := fun ds d => ∃ x, ds = [x] ∧ isDict x = false ∧ d = .bool (isNumD x)
def sp_is_number : Sp := spR Rnum
def T_is_number (K : PySem.W.Frag) : TS :=
    tRet (tAndV (tCB (rIsi K) (tCons (tVar 0) (tCons (tC (.ty "int")) tNil))) (tNotV (tCB (rIsi K) (tCons (tVar 0) (tCons (tC (.ty "bool")) tNil)))))
theorem e_num {ds : List PD} {d : PD} (h : Rnum ds d) : Sd (T_is_number K) (ds.map Sl.dat ++ List.replicate 0 Sl.un) (.ret d) := by
  obtain ⟨x, rfl, hx, rfl⟩ := h
  cases x with
  | none => exact sd_ret (d_boolIs (d_and (b := true) (isi_at (d := .none) rfl k_ni) fun z => nomatch z) rfl)
  | bool b => exact sd_ret (d_boolIs (d_and (isi_at (d := .bool b) rfl k_bi) fun _ => d_not (isi_at (d := .bool b) rfl k_bb)) rfl)
  | int i => exact sd_ret (d_boolIs (d_and (isi_at (d := .int i) rfl k_ii) fun _ => d_not (isi_at (d := .int i) rfl k_ib)) rfl)
  | str s => exact sd_ret (d_boolIs (d_and (b := true) (isi_at (d := .str s) rfl k_si) fun z => nomatch z) rfl)
  | list l => exact sd_ret (d_boolIs (d_and (b := true) (isi_at (d := .list l) rfl k_li) fun z => nomatch z) rfl)
  | tuple l => exact sd_ret (d_boolIs (d_and (b := true) (isi_at (d := .tuple l) rfl k_ti) fun z => nomatch z) rfl)
  | dict _ => cases hx
def isTupOf (x : PD) (a b : Nat) : Bool := match x with
  | .tuple xs => decide (a ≤ xs.length) && decide (xs.length ≤ b)
  | _ => false
def Rtupof : List PD → PD → Prop := fun ds d => ∃ (x : PD) (a b : Nat), ds = [x, natD a, natD b] ∧ isDict x = false ∧ d = .bool (isTupOf x a b)
def sp_is_tuple_of : Sp := spR Rtupof
def T_is_tuple_of (K : PySem.W.Frag) : TS :=
    tRet (tAndV (tCB (rIsi K) (tCons (tVar 0) (tCons (tC (.ty "tuple")) tNil))) (tChain oLe oLe (tVar 1) (tCB (rLenQ K) (tCons (tVar 0) tNil)) (tVar 2)))
theorem d_chain {r r' : R2} {ta tb tc : TE} {x y z : PD} {p q : Bool} (ha : Ed ta ρ (.dat x)) (hb : Ed tb ρ (.dat y)) (hc : p = true → Ed tc ρ (.dat z)) (h1 : Ro r (.dat x) (.dat y) (.dat (.bool p))) (h2 : p = true → Ro r' (.dat y) (.dat z) (.dat (.bool q))) : Ed (tChain r r' ta tb tc) ρ (.dat (.bool (p && q))) := fun S σ H al en Q k =>
  ha S σ H al en _ fun vx H1 e1 rx => hb S σ H1 (al.ex e1) (en.ex (hid_ex e1)) _ fun vy H2 e2 ry => h1 S H2 vx vy ((al.ex e1).ex e2) (rx.ex (hid_ex e2)) ry _ fun v H3 e3 rv => by
    cases rv.val
    refine ⟨p, rfl, ?_⟩
    have e13 := (e1.trans e2).trans e3
    cases p with
    | true =>
      refine iteT (hc rfl S σ H3 (al.ex e13) (en.ex (hid_ex e13)) _ fun vz H4 e4 rz => ?_)
      exact h2 rfl S H4 vy vz ((al.ex e13).ex e4) (ry.ex ((hid_ex e3).trans (hid_ex e4))) rz Q fun w H5 e5 rw' => k w H5 ((e13.trans e4).trans e5) rw'
    | false => exact iteF (k _ H3 e13 (.of (.bl false)))
theorem e_tupof {ds : List PD} {d : PD} (h : Rtupof ds d) : Sd (T_is_tuple_of K) (ds.map Sl.dat ++ List.replicate 0 Sl.un) (.ret d) := by
  obtain ⟨x, a, b, rfl, hx, rfl⟩ := h
  cases x with
  | none => exact sd_ret (d_boolIs (d_and (b := true) (isi_at (d := .none) rfl k_nt) fun z => nomatch z) rfl)
  | bool b => exact sd_ret (d_boolIs (d_and (b := true) (isi_at (d := .bool b) rfl k_bt) fun z => nomatch z) rfl)
  | int i => exact sd_ret (d_boolIs (d_and (b := true) (isi_at (d := .int i) rfl k_it) fun z => nomatch z) rfl)
  | str s => exact sd_ret (d_boolIs (d_and (b := true) (isi_at (d := .str s) rfl k_st) fun z => nomatch z) rfl)
  | list l => exact sd_ret (d_boolIs (d_and (b := true) (isi_at (d := .list l) rfl k_lt) fun z => nomatch z) rfl)
  | tuple l =>
    refine sd_ret (d_boolIs (d_and (isi_at (d := .tuple l) rfl k_tt) fun _ => d_chain (x := natD a) (y := natD l.length) (z := natD b) (d_var rfl) (d_cb (a_cons (d_var rfl) a_nil) rc_lenT) (fun _ => d_var rfl) ro_Ib (fun _ => ro_Ib)) ?_)
    show (true && (decide ((a : Int) ≤ (l.length : Int)) && decide ((l.length : Int) ≤ (b : Int)))) = (decide (a ≤ l.length) && decide (l.length ≤ b))
    rw [Bool.true_and]
    congr 1 <;> (rw [Bool.eq_iff_iff]; simp)
  | dict _ => cases hx
def numGe (x : PD) : Bool := match x with
  | .int i => decide (0 ≤ i)
  | _ => false
def isFormD (x : PD) (n : Nat) : Bool := match x with
  | .tuple xs => decide (xs.length = n) && xs.all numGe
  | _ => false
def Rform : List PD → PD → Prop := fun ds d => ∃ (x : PD) (n : Nat), ds = [x, natD n] ∧ isDict x = false ∧ (∀ xs, x = .tuple xs → xs.length ≤ 10000 ∧ ∀ y ∈ xs, isDict y = false) ∧ d = .bool (isFormD x n)
def sp_is_form : Sp := spR Rform
def T_is_form (K : PySem.W.Frag) : TS :=
    tRet (tAndV (tCall sp_is_tuple_of [] E0 (tCons (tVar 0) (tCons (tVar 1) (tCons (tVar 1) tNil)))) (tCB (rAll K) (tCons (tLc (iTup K (tVar 0)) (gName 2) tYes (tAndV (tCall sp_is_number [] E0 (tCons (tVar 2) tNil)) (tOp oGe (tVar 2) (tC (.int 0)))) [2]) tNil)))
theorem e_form {ds : List PD} {d : PD} (h : Rform ds d) : Sd (T_is_form K) (ds.map Sl.dat ++ List.replicate 1 Sl.un) (.ret d) := by
  obtain ⟨x, n, rfl, hx, hin, rfl⟩ := h
  have call := d_callR (R := Rtupof) (E := E0) (ds := [x, natD n, natD n]) (d := .bool (isTupOf x n n)) (ρ := [x, natD n].map Sl.dat ++ List.replicate 1 Sl.un) (a_cons (d_var (i := 0) rfl) (a_cons (d_var (i := 1) rfl) (a_cons (d_var (i := 1) rfl) a_nil))) ⟨x, n, n, rfl, hx, rfl⟩
  cases x with
  | tuple xs =>
    obtain ⟨hl, hd⟩ := hin xs rfl
    have lc := d_lc (fun _ => true) (fun y => PyData.bool (numGe y)) (es_tup (K := K) (d_var (ρ := [PyData.tuple xs, natD n].map Sl.dat ++ List.replicate 1 Sl.un) (i := 0) (d := .tuple xs) rfl)) (rho0_of (j := 2) rfl) (by omega) (te := tAndV (tCall sp_is_number [] E0 (tCons (tVar 2) tNil)) (tOp oGe (tVar 2) (tC (.int 0)))) (tt := tYes) (g := gName 2) (fun y hy => by
      refine ⟨_, _, g_name, fun i hi => hi, t_yes, fun _ => ?_⟩
      have cn : Ed (tCall sp_is_number [] E0 (tCons (tVar 2) tNil)) ([.dat (.tuple xs), .dat (natD n), .dat y]) (.dat (.bool (isNumD y))) := d_callR (ds := [y]) (a_cons (d_var rfl) a_nil) ⟨y, rfl, hd y hy, rfl⟩
      cases y with
      | int i => exact d_boolIs (d_and (a := true) cn fun _ => d_op (d_var rfl) d_int ro_Ib) rfl
      | none => exact d_boolIs (d_and (a := false) (b := true) cn fun z => nomatch z) rfl
      | bool b => exact d_boolIs (d_and (a := false) (b := true) cn fun z => nomatch z) rfl
      | str s => exact d_boolIs (d_and (a := false) (b := true) cn fun z => nomatch z) rfl
      | list l => exact d_boolIs (d_and (a := false) (b := true) cn fun z => nomatch z) rfl
      | tuple l => exact d_boolIs (d_and (a := false) (b := true) cn fun z => nomatch z) rfl
      | dict l => exact d_boolIs (d_and (a := false) (b := true) cn fun z => nomatch z) rfl)
    have e : (xs.filter fun _ => true).map (fun y => PyData.bool (numGe y)) = (xs.map numGe).map PyData.bool := by
      rw [List.filter_eq_self.mpr (fun _ _ => rfl), List.map_map]
      rfl
    rw [e] at lc
    refine sd_ret (d_boolIs (d_and call fun _ => d_cb (a_cons lc a_nil) rc_all) ?_)
    show ((decide (n ≤ xs.length) && decide (xs.length ≤ n)) && (xs.map numGe).all id) = (decide (xs.length = n) && xs.all numGe)
    rw [List.all_map]
    congr 1
    rw [Bool.eq_iff_iff]
    simp
    omega
  | none => exact sd_ret (d_boolIs (d_and (a := false) (b := true) call fun z => nomatch z) rfl)
  | bool b => exact sd_ret (d_boolIs (d_and (a := false) (b := true) call fun z => nomatch z) rfl)
  | int i => exact sd_ret (d_boolIs (d_and (a := false) (b := true) call fun z => nomatch z) rfl)
  | str s => exact sd_ret (d_boolIs (d_and (a := false) (b := true) call fun z => nomatch z) rfl)
  | list l => exact sd_ret (d_boolIs (d_and (a := false) (b := true) call fun z => nomatch z) rfl)
  | dict _ => cases hx
/-! ### streamfault -/
def unInt : PD → Int
  | .int i => i
  | _ => 0
def overRoom (W : Web) (bs : List Int) (k : Nat) : Option PD := if (W.rd k).r < bs.getD k 0 then some (.tuple [.str "room", natD k]) else none
def uneven (W : Web) (bs : List Int) (h : Nat) : Option PD := if sumOn bs (W.takes.getD h []) ≠ sumOn bs (W.gives.getD h []) then some (.tuple [.str "house", natD h]) else none
def faultI (W : Web) (bs : List Int) : PD := match (List.range W.roads.length).findSome? (overRoom W bs) with
  | some d => d
  | none => ((List.range W.gives.length).findSome? (uneven W bs)).getD .none
def faultD (W : Web) (x : PD) : PD := match x with
  | .tuple xs => if isFormD x W.roads.length then faultI W (xs.map unInt) else .tuple [.str "form"]
  | _ => .tuple [.str "form"]
/-- a web whose orders name roads that there are -/
structure OkWeb (W : Web) : Prop where
  roads : W.roads.length ≤ 1000
  gives : W.gives.length ≤ 1000
  same : W.takes.length = W.gives.length
  give : ∀ l ∈ W.gives, l.length ≤ 1000 ∧ ∀ k ∈ l, k < W.roads.length
  take : ∀ l ∈ W.takes, l.length ≤ 1000 ∧ ∀ k ∈ l, k < W.roads.length
theorem IsWeb.ok {W : Web} {far : Int} (w : IsWeb W far) : OkWeb W :=
  ⟨by have := w.count; omega, by have := w.houses; omega, w.same, fun l hl => ⟨by have := (gives_ok w hl).1; omega, (gives_ok w hl).2⟩, fun l hl => ⟨by have := (takes_ok w hl).1; omega, (takes_ok w hl).2⟩⟩
def Rfault : List PD → PD → Prop := fun ds d => ∃ (W : Web) (x : PD), ds = [webD W, x] ∧ OkWeb W ∧ isDict x = false ∧ (∀ xs, x = .tuple xs → xs.length ≤ 10000 ∧ ∀ y ∈ xs, isDict y = false) ∧ d = faultD W x
def sp_streamfault : Sp := spR Rfault
def T_streamfault (K : PySem.W.Frag) : TS :=
    tSeq (tAsg (tVar 0) (gTup K 3 (gCons (gName 2) (gCons (gName 3) (gCons (gName 4) gNil)))))
    (tSeq (tIfS (tNot (tB (tCall sp_is_form [] E0 (tCons (tVar 1) (tCons (tCB (rLenQ K) (tCons (tVar 2) tNil)) tNil))))) (tRet (tTup (tCons (tC (.str "form")) tNil))) tNext)
    (tSeq (tFor (iEnumT K (tCons (tVar 1) tNil)) (gTup K 2 (gCons (gName 5) (gCons (gName 6) gNil))) (tIfS (tTest (tOp oGt (tVar 6) (tOp (rIx K) (tOp (rIx K) (tVar 2) (tVar 5)) (tC (.int 2))))) (tRet (tTup (tCons (tC (.str "room")) (tCons (tVar 5) tNil)))) tNext))
    (tSeq (tFor (iEnumT K (tCons (tVar 3) tNil)) (gTup K 2 (gCons (gName 7) (gCons (gName 8) gNil))) (tIfS (tTest (tOp (rNeD K) (tCall sp_borne [] E0 (tCons (tVar 1) (tCons (tOp (rIx K) (tVar 4) (tVar 7)) tNil))) (tCall sp_borne [] E0 (tCons (tVar 1) (tCons (tVar 8) tNil))))) (tRet (tTup (tCons (tC (.str "house")) (tCons (tVar 7) tNil)))) tNext))
    (tRet (tC .non)))))
theorem form_ints {xs : List PD} (h : xs.all numGe = true) : xs = (xs.map unInt).map PyData.int ∧ ∀ i ∈ xs.map unInt, 0 ≤ i := by
  induction xs with
  | nil => exact ⟨rfl, fun i hi => nomatch hi⟩
  | cons y ys ih =>
    rw [List.all_cons, Bool.and_eq_true] at h
    obtain ⟨h1, h2⟩ := ih h.2
    cases y with
    | int i =>
      refine ⟨by rw [List.map_cons, List.map_cons, ← h1]; rfl, fun j hj => ?_⟩
      rw [List.map_cons] at hj
      rcases List.mem_cons.mp hj with z | z
      · rw [z]
        have z2 : decide (0 ≤ i) = true := h.1
        exact of_decide_eq_true z2
      · exact h2 j z
    | _ => cases h.1
theorem find_range {α : Type} (xs : List α) (enc : α → PD) (p : PD → Option PD) (q : Nat → Option PD) (h : ∀ (i : Nat) (hi : i < xs.length), p (.tuple [natD i, enc xs[i]]) = q i) : (pairsOf (xs.map enc)).findSome? p = (List.range xs.length).findSome? q := by
  rw [pairs_eq, List.findSome?_map, List.length_map]
  have e : ∀ l : List Nat, (∀ i ∈ l, i < xs.length) → l.findSome? (p ∘ fun i => PyData.tuple [natD i, (xs.map enc).getD i .none]) = l.findSome? q := by
    intro l
    induction l with
    | nil => intro _; rfl
    | cons i l ih =>
      intro hl
      have hi := hl i (List.mem_cons_self ..)
      rw [List.findSome?_cons, List.findSome?_cons, ih fun j hj => hl j (List.mem_cons_of_mem _ hj)]
      have e1 : (p ∘ fun i => PyData.tuple [natD i, (xs.map enc).getD i .none]) i = q i := by
        show p (.tuple [natD i, (xs.map enc).getD i .none]) = q i
        rw [List.getD_eq_getElem?_getD, List.getElem?_map, List.getElem?_eq_getElem hi]
        exact h i hi
      rw [e1]
  exact e _ fun i hi => List.mem_range.mp hi
theorem pair_mem {α : Type} {xs : List α} {enc : α → PD} {y : PD} (h : y ∈ pairsOf (xs.map enc)) : ∃ (i : Nat) (hi : i < xs.length), y = .tuple [natD i, enc xs[i]] := by
  rw [pairs_eq, List.length_map] at h
  obtain ⟨i, hi, rfl⟩ := List.mem_map.mp h
  have hi2 := List.mem_range.mp hi
  refine ⟨i, hi2, ?_⟩
  rw [List.getD_eq_getElem?_getD, List.getElem?_map, List.getElem?_eq_getElem hi2]
  rfl
theorem e_fault {ds : List PD} {d : PD} (h : Rfault ds d) : Sd (T_streamfault K) (ds.map Sl.dat ++ List.replicate 7 Sl.un) (.ret d) := by
  obtain ⟨W, x, rfl, w, hx, hin, rfl⟩ := h
  have hr := w.roads
  -- the parts of the web
  refine sd_seq (sd_asgG (ρ' := [.dat (webD W), .dat x, .dat (.tuple (W.roads.map roadD)), .dat (.tuple (W.gives.map natsD)), .dat (.tuple (W.takes.map natsD)), .un, .un, .un, .un]) (d_var (d := .tuple [.tuple (W.roads.map roadD), .tuple (W.gives.map natsD), .tuple (W.takes.map natsD)]) rfl) (g_tup (g_cons g_name (g_cons g_name (g_cons g_name g_nil))) rfl)) ?_
  have lenR : Ed (tCB (rLenQ K) (tCons (tVar 2) tNil)) [.dat (webD W), .dat x, .dat (.tuple (W.roads.map roadD)), .dat (.tuple (W.gives.map natsD)), .dat (.tuple (W.takes.map natsD)), .un, .un, .un, .un] (.dat (natD W.roads.length)) := d_is (d_cb (a_cons (d_var (d := .tuple (W.roads.map roadD)) rfl) a_nil) rc_lenT) (by rw [List.length_map]; rfl)
  have frm : Et (tNot (tB (tCall sp_is_form [] E0 (tCons (tVar 1) (tCons (tCB (rLenQ K) (tCons (tVar 2) tNil)) tNil))))) [.dat (webD W), .dat x, .dat (.tuple (W.roads.map roadD)), .dat (.tuple (W.gives.map natsD)), .dat (.tuple (W.takes.map natsD)), .un, .un, .un, .un] (!isFormD x W.roads.length) :=
    t_not (t_B (d_callR (ds := [x, natD W.roads.length]) (a_cons (d_var rfl) (a_cons lenR a_nil)) ⟨x, W.roads.length, rfl, hx, hin, rfl⟩))
  cases hf : isFormD x W.roads.length with
  | false =>
    rw [hf] at frm
    have e : faultD W x = .tuple [.str "form"] := by
      cases x with
      | tuple xs => show (if isFormD (.tuple xs) W.roads.length then _ else _) = _; rw [hf]; rfl
      | _ => rfl
    rw [e]
    exact sd_seqR (sd_yes frm (sd_ret (d_tup (ds := [.str "form"]) (a_cons d_str a_nil) (by decide))))
  | true =>
    rw [hf] at frm
    refine sd_seq (sd_no frm) ?_
    cases x with
    | tuple xs =>
      have e : faultD W (.tuple xs) = faultI W (xs.map unInt) := by show (if isFormD (.tuple xs) W.roads.length then _ else _) = _; rw [hf]; rfl
      rw [e]
      have hf2 : (decide (xs.length = W.roads.length) && xs.all numGe) = true := hf
      rw [Bool.and_eq_true] at hf2
      have hlen : xs.length = W.roads.length := of_decide_eq_true hf2.1
      obtain ⟨ei, hge⟩ := form_ints hf2.2
      generalize hbs : xs.map unInt = bs at ei hge ⊢
      have hbl : bs.length = W.roads.length := by rw [← hbs, List.length_map]; exact hlen
      subst ei
      have seqS : SeqI (.tuple (bs.map PyData.int)) bs := .inl rfl
      -- roads
      have f1 := sd_find (ρ := [.dat (webD W), .dat (.tuple (bs.map PyData.int)), .dat (.tuple (W.roads.map roadD)), .dat (.tuple (W.gives.map natsD)), .dat (.tuple (W.takes.map natsD)), .un, .un, .un, .un]) (g := gTup K 2 (gCons (gName 5) (gCons (gName 6) gNil))) (tb := tIfS (tTest (tOp oGt (tVar 6) (tOp (rIx K) (tOp (rIx K) (tVar 2) (tVar 5)) (tC (.int 2))))) (tRet (tTup (tCons (tC (.str "room")) (tCons (tVar 5) tNil)))) tNext)
        (fun y => match y with | .tuple (.int k :: _) => overRoom W bs k.toNat | _ => none) (es_enumT (K := K) (xs := bs.map PyData.int) (a_cons (d_var (i := 1) rfl) a_nil)) (fun y hy => by
          obtain ⟨k, hk, rfl⟩ := pair_mem hy
          have hk2 : k < W.roads.length := by omega
          refine ⟨_, _, g_tup (g_cons g_name (g_cons g_name g_nil)) rfl, ?_⟩
          show Sd _ _ (outOf (overRoom W bs ((k : Nat) : Int).toNat) _)
          rw [show ((k : Nat) : Int).toNat = k by omega]
          have tst : Et (tTest (tOp oGt (tVar 6) (tOp (rIx K) (tOp (rIx K) (tVar 2) (tVar 5)) (tC (.int 2))))) [.dat (webD W), .dat (.tuple (bs.map PyData.int)), .dat (.tuple (W.roads.map roadD)), .dat (.tuple (W.gives.map natsD)), .dat (.tuple (W.takes.map natsD)), .dat (natD k), .dat (.int bs[k]), .un, .un] (decide ((W.rd k).r < bs.getD k 0)) := by
            refine t_is (t_test (d_op (d_var (d := .int bs[k]) rfl) (d_op (d_op (d_var (d := .tuple (W.roads.map roadD)) rfl) (d_var (d := natD k) rfl) (ro_sqT (at_rd hk2))) d_int (ro_sqT rfl)) ro_Ib)) ?_
            rw [List.getD_eq_getElem?_getD, List.getElem?_eq_getElem hk]
            rfl
          unfold overRoom
          by_cases c : (W.rd k).r < bs.getD k 0
          · rw [if_pos c]
            rw [decide_eq_true c] at tst
            exact sd_yes tst (sd_ret (d_tup (ds := [.str "room", natD k]) (a_cons d_str (a_cons (d_var rfl) a_nil)) (by simp)))
          · rw [if_neg c]
            rw [decide_eq_false c] at tst
            exact sd_out (sd_no tst) (.same (.same (.same (.same (.same (.un (.un (.same (.same .nil)))))))))) 
      rw [find_range bs PyData.int _ (overRoom W bs) (fun i hi => by show overRoom W bs ((i : Nat) : Int).toNat = _; rw [show ((i : Nat) : Int).toNat = i by omega]), hbl] at f1
      unfold faultI
      cases hq : (List.range W.roads.length).findSome? (overRoom W bs) with
      | some d =>
        rw [hq] at f1
        exact sd_seqR f1
      | none =>
        rw [hq] at f1
        refine sd_seq f1 ?_
        -- houses
        have f2 := sd_find (ρ := [.dat (webD W), .dat (.tuple (bs.map PyData.int)), .dat (.tuple (W.roads.map roadD)), .dat (.tuple (W.gives.map natsD)), .dat (.tuple (W.takes.map natsD)), .un, .un, .un, .un]) (g := gTup K 2 (gCons (gName 7) (gCons (gName 8) gNil))) (tb := tIfS (tTest (tOp (rNeD K) (tCall sp_borne [] E0 (tCons (tVar 1) (tCons (tOp (rIx K) (tVar 4) (tVar 7)) tNil))) (tCall sp_borne [] E0 (tCons (tVar 1) (tCons (tVar 8) tNil))))) (tRet (tTup (tCons (tC (.str "house")) (tCons (tVar 7) tNil)))) tNext)
          (fun y => match y with | .tuple (.int k :: _) => uneven W bs k.toNat | _ => none) (es_enumT (K := K) (xs := W.gives.map natsD) (a_cons (d_var (i := 3) rfl) a_nil)) (fun y hy => by
            obtain ⟨k, hk, rfl⟩ := pair_mem hy
            have hk2 : k < W.takes.length := by rw [w.same]; exact hk
            have g1 := w.give W.gives[k] (List.getElem_mem hk)
            have g2 := w.take W.takes[k] (List.getElem_mem hk2)
            have at4 : atI (W.takes.map natsD) (k : Int) = some (natsD W.takes[k]) := atI_nat (by rw [List.getElem?_map, List.getElem?_eq_getElem hk2]; rfl)
            refine ⟨_, _, g_tup (g_cons g_name (g_cons g_name g_nil)) rfl, ?_⟩
            show Sd _ _ (outOf (uneven W bs ((k : Nat) : Int).toNat) _)
            rw [show ((k : Nat) : Int).toNat = k by omega]
            have tst : Et (tTest (tOp (rNeD K) (tCall sp_borne [] E0 (tCons (tVar 1) (tCons (tOp (rIx K) (tVar 4) (tVar 7)) tNil))) (tCall sp_borne [] E0 (tCons (tVar 1) (tCons (tVar 8) tNil))))) [.dat (webD W), .dat (.tuple (bs.map PyData.int)), .dat (.tuple (W.roads.map roadD)), .dat (.tuple (W.gives.map natsD)), .dat (.tuple (W.takes.map natsD)), .un, .un, .dat (natD k), .dat (natsD W.gives[k])] (!(sumOn bs W.takes[k] == sumOn bs W.gives[k])) :=
              t_test (d_op (d_callR (ds := [.tuple (bs.map PyData.int), natsD W.takes[k]]) (a_cons (d_var rfl) (a_cons (d_op (d_var (d := .tuple (W.takes.map natsD)) rfl) (d_var (d := natD k) rfl) (ro_sqT at4)) a_nil)) ⟨_, bs, W.takes[k], rfl, seqS, fun j hj => by rw [hbl]; exact g2.2 j hj, g2.1, rfl⟩)
                (d_callR (ds := [.tuple (bs.map PyData.int), natsD W.gives[k]]) (a_cons (d_var rfl) (a_cons (d_var rfl) a_nil)) ⟨_, bs, W.gives[k], rfl, seqS, fun j hj => by rw [hbl]; exact g1.2 j hj, g1.1, rfl⟩) (ro_neD rfl rfl))
            unfold uneven
            rw [show W.takes.getD k [] = W.takes[k] by rw [List.getD_eq_getElem?_getD, List.getElem?_eq_getElem hk2]; rfl, show W.gives.getD k [] = W.gives[k] by rw [List.getD_eq_getElem?_getD, List.getElem?_eq_getElem hk]; rfl]
            by_cases c : sumOn bs W.takes[k] = sumOn bs W.gives[k]
            · rw [if_neg (fun z => z c)]
              rw [c] at tst
              exact sd_out (sd_no (t_is tst (by simp))) (.same (.same (.same (.same (.same (.same (.same (.un (.un .nil)))))))))
            · rw [if_pos c]
              exact sd_yes (t_is tst (by simpa using c)) (sd_ret (d_tup (ds := [.str "house", natD k]) (a_cons d_str (a_cons (d_var rfl) a_nil)) (by simp))))
        rw [find_range W.gives natsD _ (uneven W bs) (fun i hi => by show uneven W bs ((i : Nat) : Int).toNat = _; rw [show ((i : Nat) : Int).toNat = i by omega])] at f2
        cases hq2 : (List.range W.gives.length).findSome? (uneven W bs) with
        | some d =>
          rw [hq2] at f2
          exact sd_seqR f2
        | none =>
          rw [hq2] at f2
          exact sd_seq f2 (sd_ret d_non)
    | _ => cases hf
/-- of a stream there is no fault -/
theorem stream_ok {W : Web} {bs : List Int} {far : Int} (w : IsWeb W far) (st : IsStream W bs) : faultD W (intsD bs) = .none := by
  have hform : isFormD (intsD bs) W.roads.length = true := by
    show (decide ((bs.map PyData.int).length = W.roads.length) && (bs.map PyData.int).all numGe) = true
    rw [Bool.and_eq_true, List.length_map]
    refine ⟨decide_eq_true st.len, ?_⟩
    rw [List.all_map, List.all_eq_true]
    intro i hi
    obtain ⟨k, hk, e⟩ := List.getElem_of_mem hi
    have z := st.room k (by rw [← st.len]; exact hk)
    rw [List.getD_eq_getElem?_getD, List.getElem?_eq_getElem hk] at z
    show decide (0 ≤ i) = true
    rw [← e]
    exact decide_eq_true z.1
  have e1 : faultD W (intsD bs) = faultI W ((bs.map PyData.int).map unInt) := by
    show (if isFormD (intsD bs) W.roads.length then _ else _) = _
    rw [hform]
    rfl
  have e2 : (bs.map PyData.int).map unInt = bs := by rw [List.map_map, show unInt ∘ PyData.int = id from rfl, List.map_id]
  rw [e1, e2]
  unfold faultI
  have r1 : (List.range W.roads.length).findSome? (overRoom W bs) = none := by
    rw [List.findSome?_eq_none_iff]
    intro k hk
    unfold overRoom
    rw [if_neg]
    have z := st.room k (List.mem_range.mp hk)
    omega
  have r2 : (List.range W.gives.length).findSome? (uneven W bs) = none := by
    rw [List.findSome?_eq_none_iff]
    intro h hh
    have hh2 := List.mem_range.mp hh
    unfold uneven
    rw [if_neg]
    intro ne
    apply ne
    have t1 := congrArg (fun l : List Int => l.getD h 0) (takes_sum w bs)
    have t2 := congrArg (fun l : List Int => l.getD h 0) (gives_sum w bs)
    have ht : h < W.takes.length := by rw [w.same]; exact hh2
    simp only [List.getD_eq_getElem?_getD, List.getElem?_map, List.getElem?_eq_getElem ht, List.getElem?_eq_getElem hh2, List.getElem?_range hh2, Option.map_some, Option.getD_some] at t1 t2 ⊢
    rw [t1, t2]
    exact st.even h
  rw [r1, r2]
  rfl
end
end Un

/-! ## UnIn -/
namespace Un
open PySem PySem.Spec PyProof.Rows L2
open Evl (Ex)
/-- x in a tuple whose items are data of any depth -/
def rInT (K : PySem.W.Frag) : R2 := fun x y H Q => ∃ d ds, Dp K H x d ∧ Dp K H y (.tuple ds) ∧ SeqAt.shaped d = true ∧ SeqAt.shaped (.tuple ds) = true ∧ Q (.bl (ds.any fun z => PyData.eqv z d)) H
theorem op_inDT {X : Cx} (hu : X.A.units + 65 < cLine) : OpR X (compareOp .In) (rInT X.K) := by
  intro pins s σ H x y v u Q I rx ry h
  obtain ⟨d, ds, h1, h2, s1, s2, q⟩ := h
  obtain ⟨as, r1⟩ := Dp.reads I d x v h1 rx
  obtain ⟨bs, r2⟩ := Dp.reads I (.tuple ds) y u h2 ry
  exact SeqAt.in_tuple_reads r2 r1 (SeqAt.canLay_of_shaped s2) (SeqAt.canLay_of_shaped s1) (room_in_shaped s1 hu) ⟨.bl _, H, I, rfl, q⟩
theorem u65 {k : Nat} {A : Around} (r : Room k A) : A.units + 65 < cLine := by have := r.un; omega
section
variable {K : PySem.W.Frag} {ρ : Rho}
theorem ro_inDT {d : PD} {ds : List PD} (h1 : SeqAt.shaped d = true) (h2 : SeqAt.shaped (.tuple ds) = true) : Ro (rInT K) (.dat d) (.dat (.tuple ds)) (.dat (.bool (ds.any fun z => PyData.eqv z d))) := fun S H vx vy al rx ry Q q =>
  ⟨d, ds, (rx.val.ex hid_le).dp, (ry.val.ex hid_le).dp, h1, h2, q _ H (Ex.refl H) (.of (.bl _))⟩
theorem ro_inDL {d : PD} {ds : List PD} (h1 : SeqAt.shaped d = true) (h2 : SeqAt.shaped (.list ds) = true) : Ro (rInD K) (.dat d) (.dat (.list ds)) (.dat (.bool (ds.any fun z => PyData.eqv z d))) := fun S H vx vy al rx ry Q q =>
  ⟨d, ds, (rx.val.ex hid_le).dp, (ry.val.ex hid_le).dp, h1, h2, q _ H (Ex.refl H) (.of (.bl _))⟩
theorem RpAll.rep {H : Hp} {vs : List V} {ds : List PD} (r : RpAll H vs ds) : ∀ n, RpAll H (List.replicate n vs).flatten (List.replicate n ds).flatten
  | 0 => .nil
  | n + 1 => by
    rw [List.replicate_succ, List.replicate_succ, List.flatten_cons, List.flatten_cons]
    exact r.append (RpAll.rep r n)
theorem ro_rep {xs : List PD} {n : Nat} (h : xs.length * n ≤ 100000) (hn : n ≤ 100000) : Ro rRep (.dat (.list xs)) (.dat (natD n)) (.dat (.list (List.replicate n xs).flatten)) := fun S H vx vy al rx ry Q q => by
  cases ry.val
  cases rx.val with
  | lst ha ra =>
    refine ⟨_, _, _, rfl, rfl, hid_le _ _ ha, by omega, by omega, ?_, fun p hp => ?_⟩
    · rw [ra.length, show ((n : Nat) : Int).toNat = n by omega]
      exact Evl.sz_of h
    · rw [show ((n : Nat) : Int).toNat = n by omega]
      exact q _ _ (Ex.new hp) (.of (.lst (new_ok al hp) ((ra.rep n).ex (hid_ex (Ex.new hp)))))
end
/-! ### shapes -/
theorem all_lay {n : Nat} : ∀ {xs : List PD}, (∀ y ∈ xs, y.canLay0 = true ∧ y.depth ≤ n) → PyData.canLayAll0 xs = true ∧ PyData.depthAll xs ≤ n
  | [], _ => ⟨rfl, Nat.zero_le _⟩
  | x :: xs, h => by
    obtain ⟨h1, h2⟩ := h x (List.mem_cons_self ..)
    obtain ⟨h3, h4⟩ := all_lay fun y hy => h y (List.mem_cons_of_mem _ hy)
    refine ⟨?_, ?_⟩
    · show (x.canLay0 && PyData.canLayAll0 xs) = true
      rw [h1, h3]
      rfl
    · show max x.depth (PyData.depthAll xs) ≤ n
      exact Nat.max_le.mpr ⟨h2, h4⟩
theorem lay_pln : ∀ (n : Nat) (d : PD), Pln n d → d.canLay0 = true ∧ d.depth ≤ n
  | 0, d, h => by
    cases d with
    | none => exact ⟨rfl, Nat.le_refl _⟩
    | bool _ => exact ⟨rfl, Nat.le_refl _⟩
    | int _ => exact ⟨rfl, Nat.le_refl _⟩
    | str s => exact ⟨SeqAt.canLay_of_shaped h, Nat.le_refl _⟩
    | list _ => cases h
    | tuple _ => cases h
    | dict _ => cases h
  | n + 1, d, h => by
    rcases h with h | ⟨xs, rfl, hl, hy⟩
    · have z := lay_pln 0 d h
      exact ⟨z.1, by omega⟩
    · have z := all_lay (n := n) fun y hy' => lay_pln n y (hy y hy')
      exact ⟨z.1, Nat.succ_le_succ z.2⟩
theorem shaped_pln {n : Nat} {d : PD} (h : Pln n d) (hn : n ≤ 64) : SeqAt.shaped d = true := by
  have z := lay_pln n d h
  unfold SeqAt.shaped
  rw [z.1, decide_eq_true (Nat.le_trans z.2 hn)]
  rfl
theorem eqv_refl' {n : Nat} {d : PD} (h : Pln n d) (hn : n ≤ 64) : PyData.eqv d d = true := SeqAt.eqv_refl d (lay_pln n d h).1
end Un

/-! ## UnK10 -/
namespace Un
open PySem PySem.Spec PyProof.Rows L2
open Evl (Ex)
section
variable {K : PySem.W.Frag}
def T_house (K : PySem.W.Frag) : TS :=
    tSeq (tIfS (tTest (tOp (rNeD K) (tOp (rIx K) (tCall sp_through [] E0 (tCons (tVar 3) (tCons (tVar 4) tNil))) (tVar 8)) (tCall sp__law_sum [] E0 (tCons (tVar 3) (tCons (tVar 4) (tCons (tC (.int 0)) (tCons (tVar 8) tNil))))))) (tRet (tC (.bl false))) tNext)
    (tIfS (tAnd (tTest (tOp (rInT K) (tTup tNil) (tTup (tCons (tOp (rIx K) (tOp (rIx K) (tVar 3) (tC (.int 1))) (tVar 8)) (tCons (tOp (rIx K) (tOp (rIx K) (tVar 3) (tC (.int 2))) (tVar 8)) tNil))))) (tTest (tOp (rNeD K) (tOp (rIx K) (tCall sp_through [] E0 (tCons (tVar 3) (tCons (tVar 4) tNil))) (tVar 8)) (tC (.int 0))))) (tRet (tC (.bl false))) tNext)
def T_turn (K : PySem.W.Frag) : TS :=
    tSeq (tAsg (tCall sp_at_doors [] E0 (tCons (tVar 3) (tCons (tVar 4) tNil))) (gName 5))
    (tSeq (tAsg (tCB (rSum K) (tCons (tLc (iTup K (tVar 5)) (gTup K 2 (gCons (gName 9) (gCons (gName 10) gNil))) (tTest (tOp (rIn K false) (tVar 9) (tCall sp_in_doors [] E0 (tCons (tVar 3) tNil)))) (tVar 10) [9, 10]) tNil)) (gName 6))
    (tSeq (tAsg (tCB (rSum K) (tCons (tLc (iTup K (tVar 5)) (gTup K 2 (gCons (gName 9) (gCons (gName 10) gNil))) (tTest (tOp (rIn K false) (tVar 9) (tCall sp_out_doors [] E0 (tCons (tVar 3) tNil)))) (tVar 10) [9, 10]) tNil)) (gName 7))
    (tSeq (tIfS (tOr (tTest (tOp (rNeD K) (tLst (tCons (tVar 6) (tCons (tVar 7) tNil))) (tOp rRep (tLst (tCons (tCall sp_worth [] E0 (tCons (tVar 3) (tCons (tVar 4) tNil))) tNil)) (tC (.int 2))))) (tTest (tOp (rNeD K) (tCB (rTupQ K) (tCons (tLc (iTup K (tVar 5)) (gTup K 2 (gCons (gName 9) (gCons (gName 10) gNil))) tYes (tVar 9) [9, 10]) tNil)) (tCall sp_doors [] E0 (tCons (tVar 3) tNil))))) (tRet (tC (.bl false))) tNext)
    (tSeq (tFor (iRng1 (tCons (tCB (rLenQ K) (tCons (tOp (rIx K) (tVar 3) (tC (.int 1))) tNil)) tNil)) (gName 8) (T_house K))
    (tIfS (tTest (tOp oNotN (tCall sp_streamfault [] E0 (tCons (tVar 3) (tCons (tVar 4) tNil))) (tC .non))) (tRet (tC (.bl false))) tNext)))))
def T_law (K : PySem.W.Frag) : TS :=
    tSeq (tAsg (tCall (sp__law_deck K) [] E0 (tCons (tVar 0) tNil)) (gName 1))
    (tSeq (tFor (iRng1 (tCons (tC (.int 8)) tNil)) (gName 2) (tSeq (tAsg (tCall sp__law_web [] E0 (tCons (tVar 1) (tCons (tC (.int 8)) (tCons (tC (.int 20)) (tCons (tOp (rEqD K) (tCall sp__law_next [] E0 (tCons (tVar 1) (tCons (tC (.int 2)) tNil))) (tC (.int 0))) tNil))))) (gName 3))
    (tSeq (tAsg (tCall sp__law_stream [] E0 (tCons (tVar 1) (tCons (tVar 3) (tCons (tCall sp__law_next [] E0 (tCons (tVar 1) (tCons (tC (.int 12)) tNil))) tNil)))) (gName 4))
    (T_turn K))))
    (tRet (tC (.bl true))))
theorem ro_inN {k : Nat} {l : List Nat} : Ro (rIn K false) (.dat (natD k)) (.dat (natsD l)) (.dat (.bool (l.contains k))) := by
  have z := ro_inT (K := K) (o := some k) (l := l.map some)
  have e1 : (l.map some).map optD = l.map natD := by rw [List.map_map]; rfl
  have e2 : (l.map some).contains (some k) = l.contains k := by
    rw [Bool.eq_iff_iff, List.contains_iff_mem, List.contains_iff_mem]
    simp
  rw [e1, e2] at z
  exact z
/-- [f of a door's row, rows kept by their road] -/
theorem d_rows {ρ : Rho} {bs : List Int} {ks : List Nat} {tt : TT} {te : TE} {p : Nat → Bool} {g : Nat → PD} (h5 : ρ[5]? = some (.dat (.tuple (ks.map (pairD bs))))) (h9 : ρ[9]? = some .un) (h10 : ρ[10]? = some .un) (hl : ks.length ≤ 1000)
    (ht : ∀ k ∈ ks, Et tt ((ρ.set 9 (.dat (natD k))).set 10 (.dat (.int (bs.getD k 0)))) (p k)) (he : ∀ k ∈ ks, p k = true → Ed te ((ρ.set 9 (.dat (natD k))).set 10 (.dat (.int (bs.getD k 0)))) (.dat (g k))) :
    Ed (tLc (iTup K (tVar 5)) (gTup K 2 (gCons (gName 9) (gCons (gName 10) gNil))) tt te [9, 10]) ρ (.dat (.list ((ks.filter p).map g))) := by
  let kof : PD → Nat := fun d => match d with
    | .tuple (.int k :: _) => k.toNat
    | _ => 0
  have kk : ∀ k, kof (pairD bs k) = k := fun k => by
    show ((k : Nat) : Int).toNat = k
    omega
  have lc := d_lc (fun d => p (kof d)) (fun d => g (kof d)) (es_tup (K := K) (d_var h5)) (vs := [9, 10]) (by
    intro v hv r hr
    have e : v = 9 ∨ v = 10 := by simpa using hv
    rcases e with e | e
    · subst e; rw [h9] at hr; exact (Option.some.inj hr).symm
    · subst e; rw [h10] at hr; exact (Option.some.inj hr).symm) (by rw [List.length_map]; omega) (te := te) (tt := tt) (g := gTup K 2 (gCons (gName 9) (gCons (gName 10) gNil))) (fun x hx => by
    obtain ⟨k, hk, rfl⟩ := List.mem_map.mp hx
    rw [kk]
    exact ⟨_, _, g_tup (g_cons g_name (g_cons g_name g_nil)) rfl, fun j hj => hj, ht k hk, fun z => he k hk z⟩)
  have e : ((ks.map (pairD bs)).filter fun d => p (kof d)).map (fun d => g (kof d)) = (ks.filter p).map g := by
    rw [List.filter_map, List.map_map]
    rw [show ((fun d => p (kof d)) ∘ pairD bs) = p from funext fun k => by show p (kof (pairD bs k)) = p k; rw [kk]]
    exact List.map_congr_left fun k _ => by show g (kof (pairD bs k)) = g k; rw [kk]
  rw [e] at lc
  exact lc
theorem in_worth {W : Web} {bs : List Int} : (doorsOf W).filter (fun k => (inDoors W).contains k) = inDoors W := by
  unfold doorsOf inDoors
  have e : ∀ k, k ∈ pick W.roads (fun r => isIn r || isOut r) → ((pick W.roads isIn).contains k) = ((W.roads[k]?.map isIn) == some true) := fun k hk => by
    have hk2 := pick_lt hk
    rw [Bool.eq_iff_iff, List.contains_iff_mem]
    unfold pick
    rw [List.mem_filter]
    constructor
    · exact fun z => z.2
    · exact fun z => ⟨List.mem_range.mpr hk2, z⟩
  rw [List.filter_congr e]
  unfold pick
  rw [List.filter_filter]
  apply List.filter_congr
  intro k hk
  have hk2 := List.mem_range.mp hk
  rw [List.getElem?_eq_getElem hk2]
  show ((some (isIn W.roads[k]) == some true) && (some (isIn W.roads[k] || isOut W.roads[k]) == some true)) = (some (isIn W.roads[k]) == some true)
  cases isIn W.roads[k] <;> cases isOut W.roads[k] <;> rfl
theorem out_worth {W : Web} : (doorsOf W).filter (fun k => (outDoors W).contains k) = outDoors W := by
  unfold doorsOf outDoors
  have e : ∀ k, k ∈ pick W.roads (fun r => isIn r || isOut r) → ((pick W.roads isOut).contains k) = ((W.roads[k]?.map isOut) == some true) := fun k hk => by
    have hk2 := pick_lt hk
    rw [Bool.eq_iff_iff, List.contains_iff_mem]
    unfold pick
    rw [List.mem_filter]
    constructor
    · exact fun z => z.2
    · exact fun z => ⟨List.mem_range.mpr hk2, z⟩
  rw [List.filter_congr e]
  unfold pick
  rw [List.filter_filter]
  apply List.filter_congr
  intro k hk
  have hk2 := List.mem_range.mp hk
  rw [List.getElem?_eq_getElem hk2]
  show ((some (isOut W.roads[k]) == some true) && (some (isIn W.roads[k] || isOut W.roads[k]) == some true)) = (some (isOut W.roads[k]) == some true)
  cases isIn W.roads[k] <;> cases isOut W.roads[k] <;> rfl
/-! ### all that comes in goes out -/
theorem sumOn_parts {bs : List Int} (f : Nat → Option Nat) (n : Nat) : ∀ ks : List Nat, (∀ k ∈ ks, ∀ h, f k = some h → h < n) →
    sumOn bs ks = sumOn bs (ks.filter fun k => f k == none) + ((List.range n).map fun h => sumOn bs (ks.filter fun k => f k == some h)).sum
  | [], _ => by
    have z : ∀ l : List Nat, (l.map fun _ => (0 : Int)).sum = 0 := fun l => by
      induction l with
      | nil => rfl
      | cons x r ih => rw [List.map_cons, List.sum_cons, ih]; rfl
    show (0 : Int) = 0 + ((List.range n).map fun _ => (0 : Int)).sum
    rw [z]
    rfl
  | k :: ks, hk => by
    have ih := sumOn_parts (bs := bs) f n ks fun j hj => hk j (List.mem_cons_of_mem _ hj)
    rw [sumOn_cons, ih]
    have add : ∀ (l : List Nat) (g1 g2 : Nat → Int) (c : Int) (h0 : Nat), l.Nodup → h0 ∈ l → (∀ h ∈ l, g1 h = g2 h + if h = h0 then c else 0) → (l.map g1).sum = (l.map g2).sum + c := by
      intro l
      induction l with
      | nil => intro _ _ _ _ _ hm; cases hm
      | cons x r ihh =>
        intro g1 g2 c h0 nd hm hg
        rw [List.nodup_cons] at nd
        rw [List.map_cons, List.map_cons, List.sum_cons, List.sum_cons, hg x (List.mem_cons_self ..)]
        by_cases e : x = h0
        · subst e
          have same : (r.map g1) = (r.map g2) := List.map_congr_left fun y hy => by
            rw [hg y (List.mem_cons_of_mem _ hy), if_neg (fun (z : y = x) => nd.1 (z ▸ hy))]
            omega
          rw [same, if_pos rfl]
          omega
        · have hm2 : h0 ∈ r := (List.mem_cons.mp hm).resolve_left fun z => e z.symm
          rw [ihh g1 g2 c h0 nd.2 hm2 fun y hy => hg y (List.mem_cons_of_mem _ hy), if_neg e]
          omega
    cases hf : f k with
    | none =>
      rw [List.filter_cons, if_pos (by rw [hf]; rfl), sumOn_cons]
      have same : ((List.range n).map fun h => sumOn bs ((k :: ks).filter fun k => f k == some h)) = ((List.range n).map fun h => sumOn bs (ks.filter fun k => f k == some h)) := List.map_congr_left fun h _ => by
        rw [List.filter_cons, if_neg (by rw [hf]; exact Bool.false_ne_true)]
      rw [same]
      omega
    | some h0 =>
      have hlt := hk k (List.mem_cons_self ..) h0 hf
      rw [List.filter_cons, if_neg (by rw [hf]; exact Bool.false_ne_true)]
      rw [add (List.range n) (fun h => sumOn bs ((k :: ks).filter fun k => f k == some h)) (fun h => sumOn bs (ks.filter fun k => f k == some h)) (bs.getD k 0) h0 (range_nodup n) (List.mem_range.mpr hlt) fun h _ => ?_]
      · omega
      · rw [List.filter_cons]
        by_cases e : h = h0
        · subst e
          rw [if_pos (by rw [hf]; simp), if_pos rfl, sumOn_cons]
          omega
        · rw [if_neg (by rw [hf]; simpa using fun z => e z.symm), if_neg e]
          omega
theorem worth_out {W : Web} {bs : List Int} {far : Int} (w : IsWeb W far) (st : IsStream W bs) : sumOn bs (outDoors W) = sumOn bs (inDoors W) := by
  have hb : ∀ s, s < 2 → ∀ k ∈ List.range W.roads.length, ∀ h, sideOf s (W.rd k) = some h → h < W.gives.length := fun s hs k hk h e => by
    have z := w.road _ (rd_mem (List.mem_range.mp hk))
    rcases (show s = 0 ∨ s = 1 by omega) with q | q
    · subst q; exact z.2.1 h e
    · subst q; exact z.2.2.1 h e
  have p0 := sumOn_parts (bs := bs) (fun k => sideOf 0 (W.rd k)) W.gives.length (List.range W.roads.length) (hb 0 (by decide))
  have p1 := sumOn_parts (bs := bs) (fun k => sideOf 1 (W.rd k)) W.gives.length (List.range W.roads.length) (hb 1 (by decide))
  have ev : ((List.range W.gives.length).map fun h => sumOn bs ((List.range W.roads.length).filter fun k => sideOf 1 (W.rd k) == some h)) = ((List.range W.gives.length).map fun h => sumOn bs ((List.range W.roads.length).filter fun k => sideOf 0 (W.rd k) == some h)) := List.map_congr_left fun h _ => st.even h
  rw [ev] at p1
  rw [← filter_in, ← filter_out]
  omega
theorem turn_ok {a : Addr} {x : PD} {W : Web} {bs : List Int} (w : IsWeb W 1000000000000) (st : IsStream W bs) :
    Sd (T_turn K) [.un, .raw (.ref a), .dat x, .dat (webD W), .dat (intsD bs), .un, .un, .un, .un, .un, .un]
      (.nxt [.un, .raw (.ref a), .dat x, .dat (webD W), .dat (intsD bs), .dat (.tuple ((doorsOf W).map (pairD bs))), .dat (.int (sumOn bs (inDoors W))), .dat (.int (sumOn bs (inDoors W))), .un, .un, .un]) := by
  have hr := w.count
  have hg := w.houses
  have hlen := st.len
  have seqS : SeqI (intsD bs) bs := .inl rfl
  have dl : (doorsOf W).length ≤ W.roads.length := pick_len' W.roads fun r => isIn r || isOut r
  have thr : ∀ (ρ : Rho), ρ[3]? = some (.dat (webD W)) → ρ[4]? = some (.dat (intsD bs)) → Ed (tCall sp_through [] E0 (tCons (tVar 3) (tCons (tVar 4) tNil))) ρ (.dat (intsD (W.takes.map (sumOn bs)))) := fun ρ h3 h4 =>
    d_callR (ds := [webD W, intsD bs]) (a_cons (d_var h3) (a_cons (d_var h4) a_nil)) ⟨W, intsD bs, bs, rfl, seqS, by rw [w.same]; omega, fun l hl => ⟨by have := (takes_ok w hl).1; omega, fun k hk => by rw [hlen]; exact (takes_ok w hl).2 k hk⟩, rfl⟩
  have sums : ∀ {tt : TT} {p : Nat → Bool} {ρ : Rho}, ρ[5]? = some (.dat (.tuple ((doorsOf W).map (pairD bs)))) → ρ[9]? = some .un → ρ[10]? = some .un → (∀ k ∈ doorsOf W, Et tt ((ρ.set 9 (.dat (natD k))).set 10 (.dat (.int (bs.getD k 0)))) (p k)) → Ed (tCB (rSum K) (tCons (tLc (iTup K (tVar 5)) (gTup K 2 (gCons (gName 9) (gCons (gName 10) gNil))) tt (tVar 10) [9, 10]) tNil)) ρ (.dat (.int (sumOn bs ((doorsOf W).filter p)))) := fun {tt p ρ} h5 h9 h10 ht => by
    have l10 := (List.getElem?_eq_some_iff.mp h10).1
    have lc := d_rows (K := K) (te := tVar 10) (g := fun k => .int (bs.getD k 0)) h5 h9 h10 (by omega) ht (fun k _ _ => d_var (List.getElem?_set_self (by rw [List.length_set]; exact l10)))
    have e : ((doorsOf W).filter p).map (fun k => PyData.int (bs.getD k 0)) = (((doorsOf W).filter p).map fun k => bs.getD k 0).map PyData.int := by rw [List.map_map]; rfl
    rw [e] at lc
    exact d_cb (a_cons lc a_nil) rc_sum
  refine sd_seq (sd_asg (d_callR (ds := [webD W, intsD bs]) (d := .tuple ((doorsOf W).map (pairD bs))) (a_cons (d_var rfl) (a_cons (d_var rfl) a_nil)) ⟨W, intsD bs, bs, rfl, seqS, by omega, hlen, rfl⟩)) ?_
  refine sd_seq (sd_asg (r := .dat (.int (sumOn bs (inDoors W)))) (d_is (sums (p := fun k => (inDoors W).contains k) rfl rfl rfl fun k hk => t_test (d_op (d_var rfl) (d_callR (ds := [webD W]) (d := natsD (inDoors W)) (a_cons (d_var rfl) a_nil) ⟨W, rfl, by omega, rfl⟩) ro_inN)) (by rw [in_worth (bs := bs)]))) ?_
  refine sd_seq (sd_asg (r := .dat (.int (sumOn bs (inDoors W)))) (d_is (sums (p := fun k => (outDoors W).contains k) rfl rfl rfl fun k hk => t_test (d_op (d_var rfl) (d_callR (ds := [webD W]) (d := natsD (outDoors W)) (a_cons (d_var rfl) a_nil) ⟨W, rfl, by omega, rfl⟩) ro_inN)) (by rw [out_worth, worth_out w st]))) ?_
  refine sd_seq (sd_no (t_is (t_or (t_test (d_op (d_lst (ds := [.int (sumOn bs (inDoors W)), .int (sumOn bs (inDoors W))]) (a_cons (d_var rfl) (a_cons (d_var rfl) a_nil)) (by simp)) (d_op (d_lst (ds := [.int (sumOn bs (inDoors W))]) (a_cons (d_callR (ds := [webD W, intsD bs]) (a_cons (d_var rfl) (a_cons (d_var rfl) a_nil)) ⟨W, intsD bs, bs, rfl, seqS, by omega, hlen, rfl⟩) a_nil) (by simp)) (d_int (i := 2)) (ro_rep (n := 2) (by simp) (by decide))) (ro_neD (PySem.W.shaped_ints [sumOn bs (inDoors W), sumOn bs (inDoors W)]) (PySem.W.shaped_ints [sumOn bs (inDoors W), sumOn bs (inDoors W)]))))
    fun _ => t_test (d_op (d_cb (a_cons (d_rows (K := K) (p := fun _ => true) (g := natD) rfl rfl rfl (by omega) (fun k _ => t_yes) (fun k _ _ => d_var rfl)) a_nil) rc_tupL) (d_callR (ds := [webD W]) (d := natsD (doorsOf W)) (a_cons (d_var rfl) a_nil) ⟨W, rfl, by omega, rfl⟩) (ro_neD ?s1 ?s2))) ?e1)) ?_
  case s1 =>
    rw [List.filter_eq_self.mpr (fun _ _ => rfl)]
    exact shaped_pln (pln_nats' (doorsOf W) (by omega)) (by decide)
  case s2 => exact shaped_pln (pln_nats' (doorsOf W) (by omega)) (by decide)
  case e1 =>
    rw [List.filter_eq_self.mpr (fun _ _ => rfl)]
    have z1 : PyData.eqv (.list [PyData.int (sumOn bs (inDoors W)), .int (sumOn bs (inDoors W))]) (.list (List.replicate 2 [PyData.int (sumOn bs (inDoors W))]).flatten) = true := SeqAt.eqv_refl (.list [PyData.int (sumOn bs (inDoors W)), .int (sumOn bs (inDoors W))]) rfl
    have z2 : PyData.eqv (.tuple ((doorsOf W).map natD)) (natsD (doorsOf W)) = true := eqv_refl' (pln_nats' (doorsOf W) (by omega)) (by decide)
    rw [z1, z2]
    rfl
  refine sd_seq (ρ' := [.un, .raw (.ref a), .dat x, .dat (webD W), .dat (intsD bs), .dat (.tuple ((doorsOf W).map (pairD bs))), .dat (.int (sumOn bs (inDoors W))), .dat (.int (sumOn bs (inDoors W))), .un, .un, .un]) ?_ ?_
  · have glen : Ea (tCons (tCB (rLenQ K) (tCons (tOp (rIx K) (tVar 3) (tC (.int 1))) tNil)) tNil) [.un, .raw (.ref a), .dat x, .dat (webD W), .dat (intsD bs), .dat (.tuple ((doorsOf W).map (pairD bs))), .dat (.int (sumOn bs (inDoors W))), .dat (.int (sumOn bs (inDoors W))), .un, .un, .un] [.dat (natD W.gives.length)] :=
      a_cons (d_is (d_cb (a_cons (d_gives (K := K) (i := 3) (W := W) rfl) a_nil) rc_lenT) (by rw [List.length_map]; rfl)) a_nil
    have fr := sd_find (g := gName 8) (tb := T_house K) (fun _ => none) (es_rangeN glen (by omega)) (fun y hy => by
      obtain ⟨h, hh, rfl⟩ := List.mem_map.mp hy
      have hh2 := List.mem_range.mp hh
      have hht : h < W.takes.length := by rw [w.same]; exact hh2
      have atT : atI ((W.takes.map (sumOn bs)).map PyData.int) (h : Int) = some (.int (sideSum W bs 0 (some h))) := by
        refine atI_nat ?_
        rw [takes_sum w, List.getElem?_map, List.getElem?_map, List.getElem?_range hh2]
        show some (PyData.int (sideSum W bs 1 (some h))) = _
        rw [st.even h]
      have tv : ∀ ρ : Rho, ρ[3]? = some (.dat (webD W)) → ρ[4]? = some (.dat (intsD bs)) → ρ[8]? = some (.dat (natD h)) → Ed (tOp (rIx K) (tCall sp_through [] E0 (tCons (tVar 3) (tCons (tVar 4) tNil))) (tVar 8)) ρ (.dat (.int (sideSum W bs 0 (some h)))) := fun ρ h3 h4 h8 => d_op (thr ρ h3 h4) (d_var h8) (ro_sqT atT)
      have atG : atI (W.gives.map natsD) (h : Int) = some (natsD W.gives[h]) := atI_nat (by rw [List.getElem?_map, List.getElem?_eq_getElem hh2]; rfl)
      have atK : atI (W.takes.map natsD) (h : Int) = some (natsD W.takes[h]) := atI_nat (by rw [List.getElem?_map, List.getElem?_eq_getElem hht]; rfl)
      have gl := (gives_ok w (List.getElem_mem hh2)).1
      have tl := (takes_ok w (List.getElem_mem hht)).1
      refine ⟨_, _, g_name, ?_⟩
      show Sd (T_house K) _ (.nxt _)
      refine sd_seq (sd_no (t_is (t_test (d_op (tv _ rfl rfl rfl) (d_callR (ds := [webD W, intsD bs, natD 0, optD (some h)]) (a_cons (d_var rfl) (a_cons (d_var rfl) (a_cons d_int (a_cons (d_var rfl) a_nil)))) ⟨W, intsD bs, bs, 0, some h, rfl, seqS, by decide, by omega, hlen, rfl⟩) (ro_neD rfl rfl))) ?_)) (sd_out (sd_no (t_is (t_and (t_test (d_op (d_tup (ds := []) a_nil (by decide)) (d_tup (ds := [natsD W.gives[h], natsD W.takes[h]]) (a_cons (d_op (d_gives (W := W) rfl) (d_var (d := natD h) rfl) (ro_sqT atG)) (a_cons (d_op (d_takes (W := W) rfl) (d_var (d := natD h) rfl) (ro_sqT atK)) a_nil)) (by simp)) (ro_inDT rfl (shaped_pln (n := 2) (pln_tup (by simp) fun y hy => ?_) (by decide))))) fun _ => t_test (d_op (tv _ rfl rfl rfl) d_int (ro_neD rfl rfl))) ?_)) ?_)
      · show (!((sideSum W bs 0 (some h)) == (sideSum W bs 0 (some h)))) = false
        simp
      · simp at hy
        rcases hy with e | e
        · subst e; exact pln_nats' _ (by omega)
        · subst e; exact pln_nats' _ (by omega)
      · -- a house without roads there bears nothing
        show (([natsD W.gives[h], natsD W.takes[h]].any fun z => PyData.eqv z (.tuple [])) && !((sideSum W bs 0 (some h)) == 0)) = false
        have hz : ([natsD W.gives[h], natsD W.takes[h]].any fun z => PyData.eqv z (.tuple [])) = true → sideSum W bs 0 (some h) = 0 := fun z => by
          have em : ∀ l : List Nat, PyData.eqv (natsD l) (.tuple []) = true → l = [] := fun l z => by
            cases l with
            | nil => rfl
            | cons x r => cases z
          rw [List.any_cons, List.any_cons, List.any_nil, Bool.or_false, Bool.or_eq_true] at z
          rcases z with z | z
          · have e0 := em _ z
            have t2 := congrArg (fun l : List Int => l.getD h 0) (gives_sum w bs)
            simp only [List.getD_eq_getElem?_getD, List.getElem?_map, List.getElem?_eq_getElem hh2, List.getElem?_range hh2, Option.map_some, Option.getD_some] at t2
            rw [← t2, e0]
            rfl
          · have e0 := em _ z
            have t1 := congrArg (fun l : List Int => l.getD h 0) (takes_sum w bs)
            simp only [List.getD_eq_getElem?_getD, List.getElem?_map, List.getElem?_eq_getElem hht, List.getElem?_range hh2, Option.map_some, Option.getD_some] at t1
            rw [← st.even h, ← t1, e0]
            rfl
        cases hc : ([natsD W.gives[h], natsD W.takes[h]].any fun z => PyData.eqv z (.tuple [])) with
        | false => rfl
        | true => rw [hz hc]; rfl
      · exact .same (.same (.same (.same (.same (.same (.same (.same (.un (.same (.same .nil))))))))))) 
    have en0 : ((List.range W.gives.length).map natD).findSome? (fun _ => (none : Option PD)) = none := by
      rw [List.findSome?_eq_none_iff]
      exact fun _ _ => rfl
    rw [en0] at fr
    exact fr
  · refine sd_no (t_is (t_test (d_op (d_callR (ds := [webD W, intsD bs]) (d := .none) (a_cons (d_var rfl) (a_cons (d_var rfl) a_nil)) ⟨W, intsD bs, rfl, w.ok, rfl, fun xs e => ?_, (stream_ok w st).symm⟩) d_non ro_notN)) rfl)
    have ex := PyData.tuple.inj e
    subst ex
    refine ⟨by rw [List.length_map]; omega, fun y hy => ?_⟩
    obtain ⟨i, _, rfl⟩ := List.mem_map.mp hy
    rfl
theorem go_law {N : List Str} {vs : List V} {H : Hp} {Q : VK} {E : XK} (hN : N.length = 11) (hs : sp_law K vs H Q E) : T_law K { nx := fun _ H' => Q .non H', rt := Q } (L2.start N vs) H := by
  refine law_go (k := 9) (m := 8 * 3100 + 0) (fun a => ?_) (by decide) hN hs
  refine sw_then (sw_mono (sw_for (m := 3100) (es_rng1 (n := 8) (a_cons d_int a_nil) (by decide) (by decide)) fun x hx => ⟨_, _, g_name, ?_⟩) (by simp) (fun o h => h)) ?_
  · refine sw_mono (sw_then (sw_asg (ew_web (i := 1) rfl (ew_nextEq (i := 1) rfl (by decide) (by decide)) 8 20 (by decide) (by decide))) ?c1) (m1 := 2001 + 1001) (by decide) (fun o h => h)
    rintro ρ' ⟨d, ⟨W, rfl, w, _⟩, rfl⟩
    refine sw_mono (sw_then (sw_asg (ew_stream (i := 1) (j := 3) rfl rfl w (ew_mono (ew_nextN (i := 1) (m := 12) rfl (by decide) (by decide)) (Nat.le_refl _) (fun d ⟨r, e, hr⟩ => ⟨r, e, by omega⟩)))) ?c2) (m1 := 1001 + 0) (by decide) (fun o h => h)
    rintro ρ' ⟨d, ⟨bs, rfl, st⟩, rfl⟩
    refine sw_mono (sw_pure (turn_ok w st)) (Nat.le_refl _) ?_
    rintro o rfl
    exact ⟨_, .inl rfl, .same (.same (.un (.un (.un (.un (.un (.un (.same (.same (.same .nil))))))))))⟩
  · rintro ρ' rfl
    exact sw_mono (sw_ret (ew_pure d_bl)) (Nat.le_refl _) fun o ⟨d, e1, e2⟩ => by rw [e1, e2]
end
end Un

/-! ## UnLot -/
namespace Un
open PySem PySem.Spec PyProof.Rows L2
open Evl (Ex)
/-! ### sum of a tuple of ints -/
def rSumT (K : PySem.W.Frag) : List V → Hp → VK → Prop := fun vs H Q => ∃ (a : Addr) (ns : List Int), vs = [V.ref a] ∧ SqT K H a (ns.map V.int) ∧ Q (.int ns.sum) H
theorem cr_sumT {X : Cx} (hc : X.calm = true) : CallR X (.builtin "sum") (rSumT X.K) := by
  intro pins s σ H vs us Q I r h
  obtain ⟨a, ns, rfl, hs, q⟩ := h
  obtain ⟨its, rv, hl, _⟩ := I.tuple hs
  rw [Vals.ref1 r]
  have hi := rv.ints
  obtain ⟨xs, hx⟩ := hi.allInts.items
  have hn : numsOf its.toArray.toList = ns := by rw [show its.toArray.toList = its from rfl, hi.numsOf]
  rw [hx] at hl hn
  rw [nums_intItems] at hn
  refine PySem.W.ktm_sumG (I.ok.hd hc) hl fun h' tk t' hk => ?_
  rw [preSum_eq, List.take_of_length_le (by simp), hn]
  exact ⟨.int _, H, I.kept hk, ⟨_, rfl⟩, q⟩
section
variable {K : PySem.W.Frag} {ρ : Rho}
theorem rc_sumT {ns : List Int} : Rc (rSumT K) [.dat (.tuple (ns.map PyData.int))] (.dat (.int ns.sum)) := fun S H vs al rv Q q => by
  cases rv with
  | cons h t =>
    cases t
    have rv' := h.val
    generalize hd : PyData.tuple (ns.map PyData.int) = d at rv'
    cases rv' with
    | tup h1 ra =>
      have e := PyData.tuple.inj hd
      subst e
      have ey := ra.ints
      subst ey
      exact ⟨_, ns, rfl, .inl (.inl (hid_le _ _ h1)), q _ H (Ex.refl H) (.of (.int _))⟩
    | _ => cases hd
theorem ro_inL {o : Option Nat} {l : List (Option Nat)} : Ro (rIn K false) (.dat (optD o)) (.dat (.list (l.map optD))) (.dat (.bool (l.contains o))) := fun S H vx vy al rx ry Q q => by
  have ex := rx.val.opt
  subst ex
  generalize hd : PyData.list (l.map optD) = d at ry
  cases ry.val with
  | lst ha ra =>
    have e := PyData.list.inj hd
    subst e
    have ey := ra.opts
    subst ey
    refine ⟨_, _, rfl, .inl (.inl (.inl (hid_le _ _ ha))), flat_opt o, flat_opts l, q _ H (Ex.refl H) (.of ?_)⟩
    show Rp _ (V.bl (inV _ _)) _
    rw [inV_opts]
    exact .bl _
  | _ => cases hd
/-! ### a comprehension whose test draws -/
def Etw (a : Addr) (tt : TT) (ρ : Rho) (m : Nat) : Prop := ∀ b c n S σ H, a ∈ S → b ∈ S → Al S H → En (hid S H) σ ρ → Dk a b c n H → n + m ≤ 2 ^ 60 → ∀ Q : Bool → Hp → Prop, (∀ k H2, Kp a b H H2 → Dk a b c (n + m) H2 → Q k H2) → tt σ H Q
theorem etw_test {a : Addr} {te : TE} {m : Nat} (h : Ew a te ρ m (fun d => ∃ f : Bool, d = .bool f)) : Etw a (tTest te) ρ m := fun b c n S σ H ha hb al en dk hn Q q => h b c n S σ H ha hb al en dk hn _ fun v d H2 k2 d2 r p => by
  obtain ⟨f, rfl⟩ := p
  cases r
  exact ⟨f, rfl, q f H2 k2 d2⟩
theorem ew_lcF {a : Addr} {wi : TI} {g : TG} {tt : TT} {te : TE} {vs : List Nat} {xs : List PD} {m : Nat} (w : PD → PD) (hs : Es wi ρ xs) (h0 : rho0 ρ vs) (hz : xs.length ≤ 40000)
    (hb : ∀ x ∈ xs, ∃ ρ' us, Gd g x ρ ρ' us ∧ (∀ i ∈ us, i ∈ vs) ∧ Etw a tt ρ' m ∧ Ed te ρ' (.dat (w x))) :
    Ew a (tLc wi g tt te vs) ρ (xs.length * m) (fun d => ∃ ys : List PD, ys.Sublist xs ∧ d = .list (ys.map w)) := fun b c n S σ H ha hbS al en dk hn Q q =>
  hs S σ H al en _ fun J H1 e1 wk D hD => by
    have al1 := al.ex e1
    have dk1 := dk.exx e1
    obtain ⟨_, _, _, hA, hBb, hC, _⟩ := dk1.ex
    have nDa : D ≠ a := (ne_of_none hA hD).symm
    have nDb : D ≠ b := (ne_of_none hBb hD).symm
    have nDc : D ≠ c := (ne_of_none hC hD).symm
    refine ⟨fun i k H' => k = xs.length - i ∧ i ≤ xs.length ∧ Kp a b H1 H' ∧ Dk a b c (n + i * m) H' ∧ Al (D :: S) H' ∧ ∃ (acc : List V) (ys : List PD), ys.Sublist (xs.take i) ∧ H' D = some (.lst acc) ∧ RpAll (hid (D :: S) H') acc (ys.map w),
      ⟨_, rfl, Nat.zero_le _, Kp.of (Ex.new hD), by simpa using dk1.exx (Ex.new hD), (al1.ex (Ex.new hD)).cons (by rw [upd_same]; exact fun z => nomatch z), [], [], List.nil_sublist _, upd_same, .nil⟩, fun i k H' hw => ?_⟩
    obtain ⟨rfl, hi, k2, d2, al2, acc, ys, sub, hacc, ra⟩ := hw
    have eh : Ex (hid S H1) (hid (D :: S) H') := fun x o hx => by
      obtain ⟨cc, hx⟩ := hid_some hx
      have nx : x ∉ D :: S := fun z => by
        rcases List.mem_cons.mp z with z | z
        · subst z; rw [hD] at hx; cases hx
        · exact cc z
      rw [hid_out nx]
      exact k2 x o (fun z => cc (z ▸ ha)) (fun z => cc (z ▸ hbS)) hx
    obtain ⟨w1, w2⟩ := wk (D :: S) H' eh al2
    by_cases hlt : i < xs.length
    · obtain ⟨w3, w4⟩ := w2 i _ (List.getElem?_eq_getElem hlt)
      refine .inr ⟨w3, fun H2 => Kp a b H1 H2 ∧ Dk a b c (n + (i + 1) * m) H2 ∧ Al (D :: S) H2 ∧ ∃ (acc : List V) (ys : List PD), ys.Sublist (xs.take (i + 1)) ∧ H2 D = some (.lst acc) ∧ RpAll (hid (D :: S) H2) acc (ys.map w), fun H2 hnx => ⟨_, by omega, rfl, hlt, hnx⟩, fun v H3 y => ?_⟩
      obtain ⟨e3, rv⟩ := w4 v H3 y
      obtain ⟨ρ', us, hg, hus, ht, he⟩ := hb xs[i] (List.getElem_mem hlt)
      have al3 := al2.ex e3
      have en3 : En (hid (D :: S) H3) (wipe σ vs) ρ := wipe_en (en.ex (((hid_ex e1).trans eh).trans (hid_ex e3))) h0
      have hB2 : i * m + m ≤ xs.length * m := by
        have z : (i + 1) * m ≤ xs.length * m := Nat.mul_le_mul_right _ hlt
        rw [Nat.add_mul, Nat.one_mul] at z
        exact z
      have ee : n + i * m + m = n + (i + 1) * m := by rw [Nat.add_mul, Nat.one_mul]; omega
      refine hg (D :: S) (wipe σ vs) H3 v al3 en3 rv _ fun σ4 en4 off => ⟨?_, ?_⟩
      · have ew : wipe (wipe σ vs) vs = wipe σ vs := wipe_eq (wipe_length σ vs) fun j hj => wipe_get hj
        rw [← ew]
        exact wipe_eq off.1 fun j hj => off.2 j fun z => hj (hus j z)
      · refine ht b c (n + i * m) (D :: S) σ4 H3 (List.mem_cons_of_mem _ ha) (List.mem_cons_of_mem _ hbS) al3 en4 (d2.exx e3) (by omega) _ fun bb H5 k5 d5 => ?_
        rw [ee] at d5
        have tk : xs.take (i + 1) = xs.take i ++ [xs[i]] := (List.take_append_getElem hlt).symm
        have hacc5 : H5 D = some (.lst acc) := k5 D _ nDa nDb (e3 _ _ hacc)
        have al5 : Al (D :: S) H5 := d5.al k5 al3
        have eh5 : Ex (hid (D :: S) H3) (hid (D :: S) H5) := k5.hid (List.mem_cons_of_mem _ ha) (List.mem_cons_of_mem _ hbS)
        have la : acc.length ≤ i := by
          rw [ra.length, List.length_map]
          refine Nat.le_trans sub.length_le ?_
          rw [List.length_take]
          exact Nat.min_le_left _ _
        have k15 : Kp a b H1 H5 := (k2.trans (Kp.of e3)).trans k5
        cases bb with
        | true =>
          show te σ4 H5 _
          refine he (D :: S) σ4 H5 al5 (en4.ex eh5) _ fun z H6 e6 rz => ⟨acc, e6 _ _ hacc5, Evl.sz_lt (by omega), ?_, ?_, ?_, acc ++ [z], ys ++ [xs[i]], ?_, upd_same, ?_⟩
          · exact fun x o x1 x2 hx => by
              rw [upd_ne (ne_of_none hx hD)]
              exact e6 _ _ (k15 x o x1 x2 hx)
          · exact (d5.exx e6).upd nDa nDb nDc
          · intro x hx
            by_cases cx : x = D
            · subst cx
              rw [upd_same]
              exact fun q => nomatch q
            · rw [upd_ne cx]
              exact (al5.ex e6) x hx
          · rw [tk]
            exact List.Sublist.append sub (List.Sublist.refl _)
          · have hu : Ex (hid (D :: S) H6) (hid (D :: S) (upd H6 D (.lst (acc ++ [z])))) := fun x o h => by
              obtain ⟨c, h⟩ := hid_some h
              rw [hid_out c, upd_ne (fun z => c (by rw [z]; exact List.mem_cons_self ..))]
              exact h
            rw [List.map_append]
            exact RpAll.append (ra.ex ((((hid_ex e3).trans eh5).trans (hid_ex e6)).trans hu)) (.cons (rz.val.ex hu) .nil)
        | false =>
          show Kp a b H1 H5 ∧ _
          refine ⟨k15, d5, al5, acc, ys, ?_, hacc5, ra.ex ((hid_ex e3).trans eh5)⟩
          rw [tk]
          exact sub.trans (List.sublist_append_left _ _)
    · have ei : i = xs.length := by omega
      subst ei
      rw [List.take_length] at sub
      refine .inl ⟨w1, q _ (.list (ys.map w)) H' ((Kp.of e1).trans k2) d2 (.lst (xs := acc) (by rw [hid_out (al1.new hD)]; exact hacc) (ra.ex hid_uncons)) ⟨ys, sub, rfl⟩⟩
end
end Un

/-! ## UnZip -/
namespace Un
open PySem PySem.Spec PyProof.Rows L2
open Evl (Ex)
/-! ### min of a tuple of ints -/
def leastOf : Int → List Int → Int
  | x, [] => x
  | x, y :: ys => leastOf (if y < x then y else x) ys
theorem leastOf_mem : ∀ (ys : List Int) (x : Int), leastOf x ys ∈ x :: ys
  | [], x => List.mem_cons_self ..
  | y :: ys, x => by
    show leastOf (if y < x then y else x) ys ∈ x :: y :: ys
    have z := leastOf_mem ys (if y < x then y else x)
    rcases List.mem_cons.mp z with e | e
    · rw [e]
      by_cases c : y < x
      · rw [if_pos c]; exact List.mem_cons_of_mem _ (List.mem_cons_self ..)
      · rw [if_neg c]; exact List.mem_cons_self ..
    · exact List.mem_cons_of_mem _ (List.mem_cons_of_mem _ e)
theorem leastOf_le : ∀ (ys : List Int) (x : Int), ∀ y ∈ x :: ys, leastOf x ys ≤ y
  | [], x, y, h => by
    have e : y = x := by simpa using h
    rw [e]
    exact Int.le_refl _
  | z :: ys, x, y, h => by
    show leastOf (if z < x then z else x) ys ≤ y
    have ih := leastOf_le ys (if z < x then z else x)
    have i0 := ih _ (List.mem_cons_self ..)
    rcases List.mem_cons.mp h with e | h
    · subst e
      by_cases c : z < y
      · rw [if_pos c] at i0 ⊢; omega
      · rw [if_neg c] at i0 ⊢; exact i0
    · rcases List.mem_cons.mp h with e | h
      · subst e
        by_cases c : y < x
        · rw [if_pos c] at i0 ⊢; exact i0
        · rw [if_neg c] at i0 ⊢; omega
      · exact ih y (List.mem_cons_of_mem _ h)
theorem minOf_least : ∀ (ys : List Int) (x : Int), PySem.W.minOf x ys = leastOf x ys
  | [], x => rfl
  | y :: ys, x => by
    have z := minOf_least ys (if y < x then y else x)
    show PySem.W.minOf (if decide (y < x) = true then y else x) ys = leastOf (if y < x then y else x) ys
    rw [← z]
    by_cases c : y < x <;> simp [c]
def rMinT (K : PySem.W.Frag) : List V → Hp → VK → Prop := fun vs H Q => ∃ (a : Addr) (x : Int) (ns : List Int), vs = [V.ref a] ∧ SqT K H a ((x :: ns).map V.int) ∧ Q (.int (leastOf x ns)) H
theorem cr_minT {X : Cx} (hc : X.calm = true) (hu : X.A.units + 65 < cLine) : CallR X (.builtin "min") (rMinT X.K) := by
  intro pins s σ H vs us Q I r h
  obtain ⟨a, x, ns, rfl, hs, q⟩ := h
  obtain ⟨its, rv, hl, _⟩ := I.tuple hs
  rw [Vals.ref1 r]
  have hi := rv.ints
  refine PySem.W.min_tuple_datum (x := x) (xs := ns) (I.ok.hd hc) hl ⟨[], hi.reads s.heap⟩ (by show X.A.units + 1 + 0 < cLine; omega) fun i v h' tk hv hold hk => ?_
  obtain ⟨as, rd⟩ := hold
  obtain ⟨t, rfl, _⟩ := reads_int_inv rd
  rw [minOf_least]
  exact ⟨.int _, H, I.kept hk, ⟨_, rfl⟩, q⟩
section
variable {K : PySem.W.Frag} {ρ : Rho}
theorem rc_minT {x : Int} {ns : List Int} : Rc (rMinT K) [.dat (intsD (x :: ns))] (.dat (.int (leastOf x ns))) := fun S H vs al rv Q q => by
  cases rv with
  | cons h t =>
    cases t
    have rv' := h.val
    generalize hd : intsD (x :: ns) = d at rv'
    cases rv' with
    | tup h1 ra =>
      have e := PyData.tuple.inj hd
      subst e
      have ey := ra.ints
      subst ey
      exact ⟨_, x, ns, rfl, .inl (.inl (hid_le _ _ h1)), q _ H (Ex.refl H) (.of (.int _))⟩
    | _ => cases hd
/-! ### zip of two tuples of one length -/
def zipD (xs ys : List PD) : List PD := List.zipWith (fun x y => .tuple [x, y]) xs ys
theorem es_zip {ta : TA} {xs ys : List PD} (h : Ea ta ρ [.dat (.tuple xs), .dat (.tuple ys)]) (hl : xs.length = ys.length) : Es (RZ.iZipA K ta) ρ (zipD xs ys) := fun S σ H al en R q => h S σ H al en _ fun vs H1 e1 rs => by
  cases rs with
  | cons rv t =>
    cases t with
    | cons rv2 t =>
      cases t
      cases rv.val with
      | tup ha ra =>
        cases rv2.val with
        | tup hb rb =>
          refine ⟨_, _, _, _, rfl, .inr ⟨.inl (.inl (hid_le _ _ ha)), .inl (.inl (hid_le _ _ hb)), q _ H1 e1 fun S' H2 e2 al2 => ?_⟩⟩
          have ra2 := ra.ex e2
          have rb2 := rb.ex e2
          have sq : SqT K H2 _ _ := .inl (.inl (hid_le _ _ (e2 _ _ ha)))
          have sq2 : SqT K H2 _ _ := .inl (.inl (hid_le _ _ (e2 _ _ hb)))
          refine ⟨⟨_, _, sq, sq2, .inl (by rw [ra2.length]; unfold zipD; rw [List.length_zipWith]; omega)⟩, fun i x hx => ?_⟩
          obtain ⟨y, z, hy, hz, ey⟩ : ∃ y z, xs[i]? = some y ∧ ys[i]? = some z ∧ x = .tuple [y, z] := by
            unfold zipD at hx
            rw [List.getElem?_zipWith] at hx
            cases q1 : xs[i]? with
            | none => rw [q1] at hx; simp at hx
            | some y =>
              cases q2 : ys[i]? with
              | none => rw [q1, q2] at hx; simp at hx
              | some z =>
                rw [q1, q2] at hx
                simp at hx
                exact ⟨y, z, rfl, rfl, hx.symm⟩
          obtain ⟨v, hv, rv⟩ := ra2.get hy
          obtain ⟨u, hu, ru⟩ := rb2.get hz
          refine ⟨⟨_, _, v, u, sq, sq2, hv, hu⟩, fun w H3 yl => ?_⟩
          obtain ⟨T, z1, z2, e1, e2, e3, e4, e5⟩ := yl
          have ez := e4 _ sq
          rw [hv] at ez
          cases ez
          have ez2 := e5 _ sq2
          rw [hu] at ez2
          cases ez2
          subst e1 e3 ey
          exact ⟨Ex.new e2, .tup (new_ok al2 e2) (.cons (rv.ex (hid_ex (Ex.new e2))) (.cons (ru.ex (hid_ex (Ex.new e2))) .nil))⟩
/-- [f(a, b) for a, b in zip(xs, ys)], f of ints -/
theorem d_zipI {ta : TA} {r : R2} {f : Int → Int → Int} {xs ys : List Int} {i j : Nat} (hij : i ≠ j) (h : Ea ta ρ [.dat (intsD xs), .dat (intsD ys)]) (hl : xs.length = ys.length) (hz : xs.length ≤ 1000) (hi : ρ[i]? = some .un) (hj : ρ[j]? = some .un)
    (hr : ∀ a b : Int, Ro r (.dat (.int a)) (.dat (.int b)) (.dat (.int (f a b)))) :
    Ed (tCB (rTupQ K) (tCons (tLc (RZ.iZipA K ta) (gTup K 2 (gCons (gName i) (gCons (gName j) gNil))) tYes (tOp r (tVar i) (tVar j)) [i, j]) tNil)) ρ (.dat (intsD (List.zipWith f xs ys))) := by
  have li := (List.getElem?_eq_some_iff.mp hi).1
  have lj := (List.getElem?_eq_some_iff.mp hj).1
  let w : PD → PD := fun d => match d with
    | .tuple [.int a, .int b] => .int (f a b)
    | _ => .none
  have zz : ∀ xs ys : List Int, zipD (xs.map PyData.int) (ys.map PyData.int) = List.zipWith (fun a b => .tuple [.int a, .int b]) xs ys := fun xs ys => by
    unfold zipD
    rw [List.zipWith_map]
  have lc := d_lc (fun _ => true) w (es_zip (K := K) h (by rw [List.length_map, List.length_map]; exact hl)) (vs := [i, j]) (by
    intro v hv r hr
    have e : v = i ∨ v = j := by simpa using hv
    rcases e with e | e
    · subst e; rw [hi] at hr; exact (Option.some.inj hr).symm
    · subst e; rw [hj] at hr; exact (Option.some.inj hr).symm) (by rw [zz, List.length_zipWith]; omega) (te := tOp r (tVar i) (tVar j)) (tt := tYes) (g := gTup K 2 (gCons (gName i) (gCons (gName j) gNil))) (fun x hx => by
    rw [zz] at hx
    obtain ⟨a, b, rfl⟩ : ∃ a b : Int, x = .tuple [.int a, .int b] := by
      obtain ⟨k, hk, e⟩ := List.getElem_of_mem hx
      rw [List.getElem_zipWith] at e
      exact ⟨_, _, e.symm⟩
    refine ⟨_, _, g_tup (g_cons g_name (g_cons g_name g_nil)) rfl, fun j hj => hj, t_yes, fun _ => d_op (d_var (d := .int a) ?_) (d_var (d := .int b) ?_) (hr a b)⟩
    · rw [List.getElem?_set_ne hij.symm, List.getElem?_set_self li]
    · rw [List.getElem?_set_self (by rw [List.length_set]; exact lj)])
  have e : ((zipD (xs.map PyData.int) (ys.map PyData.int)).filter fun _ => true).map w = (List.zipWith f xs ys).map PyData.int := by
    rw [List.filter_eq_self.mpr (fun _ _ => rfl), zz, List.map_zipWith, List.map_zipWith]
  rw [e] at lc
  exact d_cb (a_cons lc a_nil) rc_tupL
/-- a, b = x, y, drawn -/
theorem sw_par {a : Addr} {ta : TA} {i j m : Nat} {P : PD → PD → Prop} (h : Ewa a ta ρ m (fun ds => ∃ x y, ds = [x, y] ∧ P x y)) : Sw a (tPar i j ta) ρ m (fun o => ∃ ρ', o = .nxt ρ' ∧ ∃ x y, P x y ∧ ρ' = (ρ.set i (.dat x)).set j (.dat y)) := fun b c n S σ H D ha hb al en dk hn q =>
  h b c n S σ H ha hb al en dk hn _ fun vs ds H2 k2 d2 r p => by
    obtain ⟨x, y, rfl, p⟩ := p
    cases r with
    | cons r1 t =>
      cases t with
      | cons r2 t =>
        cases t
        exact ⟨_, _, rfl, q _ ⟨_, rfl, x, y, p, rfl⟩ _ H2 k2 d2 (((en.ex (k2.hid ha hb)).set i (.of r1)).set j (.of r2))⟩
end
end Un

/-! ## UnK11 -/
namespace Un
open PySem PySem.Spec PyProof.Rows L2
open Evl (Ex)
namespace K11
theorem getD_zip {f : Int → Int → Int} (f0 : f 0 0 = 0) {xs ys : List Int} (hl : xs.length = ys.length) (k : Nat) : (List.zipWith f xs ys).getD k 0 = f (xs.getD k 0) (ys.getD k 0) := by
  rw [List.getD_eq_getElem?_getD, List.getD_eq_getElem?_getD, List.getD_eq_getElem?_getD, List.getElem?_zipWith]
  by_cases c : k < xs.length
  · have c2 : k < ys.length := by omega
    rw [List.getElem?_eq_getElem c, List.getElem?_eq_getElem c2]
    rfl
  · rw [List.getElem?_eq_none (by omega), List.getElem?_eq_none (by omega)]
    exact f0.symm
theorem sum_add {xs ys : List Int} (hl : xs.length = ys.length) : ∀ ks : List Nat, sumOn (List.zipWith (fun a b => a + b) xs ys) ks = sumOn xs ks + sumOn ys ks
  | [] => rfl
  | k :: ks => by
    rw [sumOn_cons, sumOn_cons, sumOn_cons, sum_add hl ks, getD_zip (f := fun a b => a + b) rfl hl]
    omega
theorem sum_sub {xs ys : List Int} (hl : xs.length = ys.length) : ∀ ks : List Nat, sumOn (List.zipWith (fun a b => a - b) xs ys) ks = sumOn xs ks - sumOn ys ks
  | [] => rfl
  | k :: ks => by
    rw [sumOn_cons, sumOn_cons, sumOn_cons, sum_sub hl ks, getD_zip (f := fun a b => a - b) rfl hl]
    omega
theorem fault_of {W : Web} {bs : List Int} {far : Int} (w : IsWeb W far) (hlen : bs.length = W.roads.length) (even : ∀ h, sideSum W bs 1 (some h) = sideSum W bs 0 (some h)) :
    faultD W (intsD bs) = if (bs.all fun i => decide (0 ≤ i)) = true then ((List.range W.roads.length).findSome? (overRoom W bs)).getD .none else .tuple [.str "form"] := by
  have hform : isFormD (intsD bs) W.roads.length = (bs.all fun i => decide (0 ≤ i)) := by
    show (decide ((bs.map PyData.int).length = W.roads.length) && (bs.map PyData.int).all numGe) = _
    rw [List.length_map, decide_eq_true hlen, Bool.true_and, List.all_map]
    rfl
  have e2 : (bs.map PyData.int).map unInt = bs := by rw [List.map_map, show unInt ∘ PyData.int = id from rfl, List.map_id]
  have e1 : faultD W (intsD bs) = if (bs.all fun i => decide (0 ≤ i)) = true then faultI W bs else .tuple [.str "form"] := by
    show (if isFormD (intsD bs) W.roads.length then faultI W ((bs.map PyData.int).map unInt) else _) = _
    rw [hform, e2]
  rw [e1]
  congr 1
  unfold faultI
  have r2 : (List.range W.gives.length).findSome? (uneven W bs) = none := by
    rw [List.findSome?_eq_none_iff]
    intro h hh
    have hh2 := List.mem_range.mp hh
    unfold uneven
    rw [if_neg]
    intro ne
    apply ne
    have t1 := congrArg (fun l : List Int => l.getD h 0) (takes_sum w bs)
    have t2 := congrArg (fun l : List Int => l.getD h 0) (gives_sum w bs)
    have ht : h < W.takes.length := by rw [w.same]; exact hh2
    simp only [List.getD_eq_getElem?_getD, List.getElem?_map, List.getElem?_eq_getElem ht, List.getElem?_eq_getElem hh2, List.getElem?_range hh2, Option.map_some, Option.getD_some] at t1 t2 ⊢
    rw [t1, t2]
    exact even h
  rw [r2]
  cases (List.range W.roads.length).findSome? (overRoom W bs) <;> rfl
def dueD : List Nat → PD
  | [] => .none
  | k :: _ => .tuple [.str "room", natD k]
def overs (W : Web) (bs : List Int) : List Nat := (List.range W.roads.length).filter fun k => decide (bs.getD k 0 > (W.rd k).r)
theorem find_over {W : Web} {bs : List Int} : ∀ l : List Nat, (l.findSome? (overRoom W bs)).getD .none = dueD (l.filter fun k => decide (bs.getD k 0 > (W.rd k).r))
  | [] => rfl
  | k :: l => by
    rw [List.findSome?_cons, List.filter_cons]
    by_cases c : (W.rd k).r < bs.getD k 0
    · have e : overRoom W bs k = some (.tuple [.str "room", natD k]) := by unfold overRoom; rw [if_pos c]
      rw [e, if_pos (decide_eq_true c)]
      rfl
    · have e : overRoom W bs k = none := by unfold overRoom; rw [if_neg c]
      rw [e, if_neg (by simpa using c)]
      exact find_over l
theorem both_fault {W : Web} {xs ys : List Int} {far : Int} (w : IsWeb W far) (sx : IsStream W xs) (sy : IsStream W ys) : faultD W (intsD (List.zipWith (fun a b => a + b) xs ys)) = dueD (overs W (List.zipWith (fun a b => a + b) xs ys)) := by
  have hl : xs.length = ys.length := by rw [sx.len, sy.len]
  have hz : (List.zipWith (fun a b => a + b) xs ys).length = W.roads.length := by rw [List.length_zipWith, ← hl, sx.len]; omega
  rw [fault_of w hz fun h => ?_]
  · have pos : ((List.zipWith (fun a b => a + b) xs ys).all fun i => decide (0 ≤ i)) = true := by
      rw [List.all_eq_true]
      intro i hi
      obtain ⟨k, hk, e⟩ := List.getElem_of_mem hi
      have z := getD_zip (f := fun a b => a + b) rfl hl k
      rw [List.getD_eq_getElem?_getD, List.getElem?_eq_getElem hk] at z
      have z2 : i = xs.getD k 0 + ys.getD k 0 := by rw [← e]; exact z
      have a1 := (sx.room k (by omega)).1
      have a2 := (sy.room k (by omega)).1
      exact decide_eq_true (by omega)
    rw [if_pos pos]
    exact find_over _
  · unfold sideSum
    rw [sum_add hl, sum_add hl]
    have a1 := sx.even h
    have a2 := sy.even h
    unfold sideSum at a1 a2
    rw [a1, a2]
theorem less_fault {W : Web} {xs ys : List Int} {far : Int} (w : IsWeb W far) (sx : IsStream W xs) (sy : IsStream W ys) : isNone (faultD W (intsD (List.zipWith (fun a b => a - b) xs ys))) = ((List.zipWith (fun a b => a - b) xs ys).all fun i => decide (0 ≤ i)) := by
  have hl : xs.length = ys.length := by rw [sx.len, sy.len]
  have hz : (List.zipWith (fun a b => a - b) xs ys).length = W.roads.length := by rw [List.length_zipWith, ← hl, sx.len]; omega
  rw [fault_of w hz fun h => ?_]
  · have r1 : (List.range W.roads.length).findSome? (overRoom W (List.zipWith (fun a b => a - b) xs ys)) = none := by
      rw [List.findSome?_eq_none_iff]
      intro k hk
      unfold overRoom
      rw [if_neg, ]
      rw [getD_zip (f := fun a b => a - b) rfl hl]
      have a1 := (sx.room k (List.mem_range.mp hk)).2
      have a2 := (sy.room k (List.mem_range.mp hk)).1
      omega
    rw [r1]
    cases (List.zipWith (fun a b => a - b) xs ys).all fun i => decide (0 ≤ i) <;> rfl
  · unfold sideSum
    rw [sum_sub hl, sum_sub hl]
    have a1 := sx.even h
    have a2 := sy.even h
    unfold sideSum at a1 a2
    rw [a1, a2]
/-! ### the law -/
def T_turn (K : PySem.W.Frag) : TS :=
    tSeq (tAsg (tCB (rTupQ K) (tCons (tLc (RZ.iZipA K (tCons (tVar 4) (tCons (tVar 5) tNil))) (gTup K 2 (gCons (gName 11) (gCons (gName 12) gNil))) tYes (tOp oAdd (tVar 11) (tVar 12)) [11, 12]) tNil)) (gName 6))
    (tSeq (tAsg (tLc (iRng1 (tCons (tCB (rLenQ K) (tCons (tVar 6) tNil)) tNil)) (gName 13) (tTest (tOp oGt (tOp (rIx K) (tVar 6) (tVar 13)) (tOp (rIx K) (tOp (rIx K) (tOp (rIx K) (tVar 3) (tC (.int 0))) (tVar 13)) (tC (.int 2))))) (tVar 13) [13]) (gName 7))
    (tSeq (tAsg (tC .non) (gName 8))
    (tSeq (tIfS (tTest (tOp (rNeD K) (tVar 7) (tLst tNil))) (tAsg (tTup (tCons (tC (.str "room")) (tCons (tOp (rIx K) (tVar 7) (tC (.int 0))) tNil))) (gName 8)) tNext)
    (tSeq (tIfS (tNot (tB (tCall (sp__law_same 1) [] E0 (tCons (tCall sp_streamfault [] E0 (tCons (tVar 3) (tCons (tVar 6) tNil))) (tCons (tVar 8) tNil))))) (tRet (tC (.bl false))) tNext)
    (tSeq (tIfS (tTest (tOp oIsN (tVar 8) (tC .non))) (tSeq (tAsg (tCB (rTupQ K) (tCons (tLc (RZ.iZipA K (tCons (tCall sp_through [] E0 (tCons (tVar 3) (tCons (tVar 4) tNil))) (tCons (tCall sp_through [] E0 (tCons (tVar 3) (tCons (tVar 5) tNil))) tNil))) (gTup K 2 (gCons (gName 11) (gCons (gName 12) gNil))) tYes (tOp oAdd (tVar 11) (tVar 12)) [11, 12]) tNil)) (gName 9))
    (tSeq (tIfS (tNot (tB (tCall (sp__law_same 1) [] E0 (tCons (tCall sp_through [] E0 (tCons (tVar 3) (tCons (tVar 6) tNil))) (tCons (tVar 9) tNil))))) (tRet (tC (.bl false))) tNext)
    (tIfS (tTest (tOp (rNeD K) (tCall sp_worth [] E0 (tCons (tVar 3) (tCons (tVar 6) tNil))) (tOp oAdd (tCall sp_worth [] E0 (tCons (tVar 3) (tCons (tVar 4) tNil))) (tCall sp_worth [] E0 (tCons (tVar 3) (tCons (tVar 5) tNil)))))) (tRet (tC (.bl false))) tNext))) tNext)
    (tSeq (tAsg (tCB (rTupQ K) (tCons (tLc (RZ.iZipA K (tCons (tVar 4) (tCons (tVar 5) tNil))) (gTup K 2 (gCons (gName 11) (gCons (gName 12) gNil))) tYes (tOp oSub (tVar 11) (tVar 12)) [11, 12]) tNil)) (gName 10))
    (tIfS (tTest (tOp (rNeD K) (tOp oIsN (tCall sp_streamfault [] E0 (tCons (tVar 3) (tCons (tVar 10) tNil))) (tC .non)) (tOp oGe (tCB (rMinT K) (tCons (tVar 10) tNil)) (tC (.int 0))))) (tRet (tC (.bl false))) tNext)))))))
def T_law (K : PySem.W.Frag) : TS :=
    tSeq (tAsg (tCall (sp__law_deck K) [] E0 (tCons (tVar 0) tNil)) (gName 1))
    (tSeq (tFor (iRng1 (tCons (tC (.int 8)) tNil)) (gName 2) (tSeq (tAsg (tCall sp__law_web [] E0 (tCons (tVar 1) (tCons (tC (.int 8)) (tCons (tC (.int 20)) (tCons (tOp (rEqD K) (tCall sp__law_next [] E0 (tCons (tVar 1) (tCons (tC (.int 2)) tNil))) (tC (.int 0))) tNil))))) (gName 3))
    (tSeq (tPar 4 5 (tCons (tCall sp__law_stream [] E0 (tCons (tVar 1) (tCons (tVar 3) (tCons (tCall sp__law_next [] E0 (tCons (tVar 1) (tCons (tC (.int 5)) tNil))) tNil)))) (tCons (tCall sp__law_stream [] E0 (tCons (tVar 1) (tCons (tVar 3) (tCons (tCall sp__law_next [] E0 (tCons (tVar 1) (tCons (tC (.int 5)) tNil))) tNil)))) tNil)))
    (T_turn K))))
    (tRet (tC (.bl true))))
section
variable {K : PySem.W.Frag}
theorem turn_ok {a : Addr} {x : PD} {W : Web} {xs ys : List Int} (w : IsWeb W 1000000000000) (sx : IsStream W xs) (sy : IsStream W ys) :
    ∃ ρ', Wkn ρ' [.un, .raw (.ref a), .un, .un, .un, .un, .un, .un, .un, .un, .un, .un, .un, .un] ∧ Sd (T_turn K) [.un, .raw (.ref a), .dat x, .dat (webD W), .dat (intsD xs), .dat (intsD ys), .un, .un, .un, .un, .un, .un, .un, .un] (.nxt ρ') := by
  have hr := w.count
  have hg := w.houses
  have hl : xs.length = ys.length := by rw [sx.len, sy.len]
  have lx := sx.len
  have ly := sy.len
  have hz : (List.zipWith (fun a b => a + b) xs ys).length = W.roads.length := by rw [List.length_zipWith, ← hl, sx.len]; omega
  have hz2 : (List.zipWith (fun a b => a - b) xs ys).length = W.roads.length := by rw [List.length_zipWith, ← hl, sx.len]; omega
  obtain ⟨zs, ezs⟩ : ∃ zs, zs = List.zipWith (fun a b => a + b) xs ys := ⟨_, rfl⟩
  obtain ⟨us, eus⟩ : ∃ us, us = List.zipWith (fun a b => a - b) xs ys := ⟨_, rfl⟩
  have bf := both_fault w sx sy
  have lf := less_fault w sx sy
  have sumA : ∀ ks, sumOn zs ks = sumOn xs ks + sumOn ys ks := fun ks => by rw [ezs]; exact sum_add hl ks
  rw [← ezs] at hz bf
  rw [← eus] at hz2 lf
  have seqI : ∀ bs : List Int, SeqI (intsD bs) bs := fun bs => .inl rfl
  have thr : ∀ (ρ : Rho) (i : Nat) (bs : List Int), ρ[3]? = some (.dat (webD W)) → ρ[i]? = some (.dat (intsD bs)) → bs.length = W.roads.length → Ed (tCall sp_through [] E0 (tCons (tVar 3) (tCons (tVar i) tNil))) ρ (.dat (intsD (W.takes.map (sumOn bs)))) := fun ρ i bs h3 h4 hlen =>
    d_callR (ds := [webD W, intsD bs]) (a_cons (d_var h3) (a_cons (d_var h4) a_nil)) ⟨W, intsD bs, bs, rfl, seqI bs, by rw [w.same]; omega, fun l hl => ⟨by have := (takes_ok w hl).1; omega, fun k hk => by rw [hlen]; exact (takes_ok w hl).2 k hk⟩, rfl⟩
  have wor : ∀ (ρ : Rho) (i : Nat) (bs : List Int), ρ[3]? = some (.dat (webD W)) → ρ[i]? = some (.dat (intsD bs)) → bs.length = W.roads.length → Ed (tCall sp_worth [] E0 (tCons (tVar 3) (tCons (tVar i) tNil))) ρ (.dat (.int (sumOn bs (inDoors W)))) := fun ρ i bs h3 h4 hlen =>
    d_callR (ds := [webD W, intsD bs]) (a_cons (d_var h3) (a_cons (d_var h4) a_nil)) ⟨W, intsD bs, bs, rfl, seqI bs, by omega, hlen, rfl⟩
  have flt : ∀ (ρ : Rho) (i : Nat) (bs : List Int), ρ[3]? = some (.dat (webD W)) → ρ[i]? = some (.dat (intsD bs)) → bs.length = W.roads.length → Ed (tCall sp_streamfault [] E0 (tCons (tVar 3) (tCons (tVar i) tNil))) ρ (.dat (faultD W (intsD bs))) := fun ρ i bs h3 h4 hlen =>
    d_callR (ds := [webD W, intsD bs]) (a_cons (d_var h3) (a_cons (d_var h4) a_nil)) ⟨W, intsD bs, rfl, w.ok, rfl, fun xs e => by
      have ex := PyData.tuple.inj e
      subst ex
      refine ⟨by rw [List.length_map]; omega, fun y hy => ?_⟩
      obtain ⟨i, _, rfl⟩ := List.mem_map.mp hy
      rfl, rfl⟩
  obtain ⟨ov, eov⟩ : ∃ ov, ov = overs W zs := ⟨_, rfl⟩
  rw [← eov] at bf
  have fin : ∀ ρ9 : Sl, Sd (tSeq (tAsg (tCB (rTupQ K) (tCons (tLc (RZ.iZipA K (tCons (tVar 4) (tCons (tVar 5) tNil))) (gTup K 2 (gCons (gName 11) (gCons (gName 12) gNil))) tYes (tOp oSub (tVar 11) (tVar 12)) [11, 12]) tNil)) (gName 10))
    (tIfS (tTest (tOp (rNeD K) (tOp oIsN (tCall sp_streamfault [] E0 (tCons (tVar 3) (tCons (tVar 10) tNil))) (tC .non)) (tOp oGe (tCB (rMinT K) (tCons (tVar 10) tNil)) (tC (.int 0))))) (tRet (tC (.bl false))) tNext))
      [.un, .raw (.ref a), .dat x, .dat (webD W), .dat (intsD xs), .dat (intsD ys), .dat (intsD zs), .dat (.list (ov.map natD)), .dat (dueD ov), .un, .un, .un, .un, .un] (.nxt [.un, .raw (.ref a), .dat x, .dat (webD W), .dat (intsD xs), .dat (intsD ys), .dat (intsD zs), .dat (.list (ov.map natD)), .dat (dueD ov), .un, .dat (intsD us), .un, .un, .un]) := fun ρ9 => by
    refine sd_seq (sd_asg (d_is (d_zipI (f := fun a b => a - b) (i := 11) (j := 12) (by decide) (a_cons (d_var rfl) (a_cons (d_var rfl) a_nil)) hl (by omega) rfl rfl (fun a b => ro_Ii)) (by rw [← eus]))) ?_
    obtain ⟨u, us', eu⟩ : ∃ u us', us = u :: us' := by
      cases us with
      | nil => rw [List.length_nil] at hz2; omega
      | cons u r => exact ⟨u, r, rfl⟩
    refine sd_no (t_is (t_test (d_op (d_op (flt _ 10 us rfl rfl hz2) d_non ro_isN) (d_op (d_cb (a_cons (d_is (d_var (d := intsD us) rfl) (by rw [eu])) a_nil) (rc_minT (x := u) (ns := us'))) d_int ro_Ib) (ro_neD rfl rfl))) ?_)
    rw [lf, eu]
    have em : ((u :: us').all fun i => decide (0 ≤ i)) = decide (leastOf u us' ≥ 0) := by
      rw [Bool.eq_iff_iff, List.all_eq_true, decide_eq_true_eq]
      constructor
      · intro h
        exact of_decide_eq_true (h _ (leastOf_mem us' u))
      · intro h y hy
        have := leastOf_le us' u y hy
        exact decide_eq_true (by omega)
    rw [em]
    show (!(decide (leastOf u us' ≥ 0) == decide (leastOf u us' ≥ 0))) = false
    simp
  have natsL : ∀ l : List Nat, SeqAt.shaped (.list (l.map natD)) = true := fun l => by
    have e : l.map natD = (l.map fun k => ((k : Nat) : Int)).map PyData.int := by rw [List.map_map]; rfl
    rw [e]
    exact PySem.W.shaped_ints _
  refine ⟨[.un, .raw (.ref a), .dat x, .dat (webD W), .dat (intsD xs), .dat (intsD ys), .dat (intsD zs), .dat (.list (ov.map natD)), .dat (dueD ov), .un, .dat (intsD us), .un, .un, .un], .same (.same (.un (.un (.un (.un (.un (.un (.un (.same (.un (.same (.same (.same .nil))))))))))))), ?_⟩
  refine sd_seq (sd_asg (d_is (d_zipI (f := fun a b => a + b) (i := 11) (j := 12) (by decide) (a_cons (d_var rfl) (a_cons (d_var rfl) a_nil)) hl (by omega) rfl rfl (fun a b => ro_Ii)) (by rw [← ezs]))) ?_
  refine sd_seq (sd_asg (d_is (d_mapNF (p := fun k => decide (zs.getD k 0 > (W.rd k).r)) (g := natD) (j := 13) (es_rangeN (n := W.roads.length) (a_cons (d_is (d_cb (a_cons (d_var (d := intsD zs) rfl) a_nil) rc_lenT) (by rw [List.length_map, hz]; rfl)) a_nil) (by omega)) rfl (by rw [List.length_range]; omega) (fun k hk => ?t1) (fun k hk _ => d_var rfl)) (show Sl.dat (.list ((overs W zs).map natD)) = .dat (.list (ov.map natD)) by rw [eov]))) ?_
  case t1 =>
    have hk2 := List.mem_range.mp hk
    refine t_test (d_op (d_op (d_var (d := intsD zs) rfl) (d_var (d := natD k) rfl) (ro_seqI (seqI zs) (by omega))) (d_op (d_op (d_roads (W := W) rfl) (d_var (d := natD k) rfl) (ro_sqT (d := roadD (W.rd k)) (atI_nat ?_))) (d_int (i := 2)) (ro_sqT (d := .int (W.rd k).r) rfl)) ro_Ib)
    rw [List.getElem?_map, List.getElem?_eq_getElem hk2]
    show some (roadD W.roads[k]) = some (roadD (W.rd k))
    unfold Web.rd
    rw [List.getD_eq_getElem?_getD, List.getElem?_eq_getElem hk2]
    rfl
  refine sd_seq (sd_asg d_non) ?_
  refine sd_seq (ρ' := [.un, .raw (.ref a), .dat x, .dat (webD W), .dat (intsD xs), .dat (intsD ys), .dat (intsD zs), .dat (.list (ov.map natD)), .dat (dueD ov), .un, .un, .un, .un, .un]) ?d1 ?_
  case d1 =>
    clear fin
    cases ov with
    | nil => exact sd_no (t_is (t_test (d_op (d_var rfl) (d_lst (ds := []) a_nil (by decide)) (ro_neD rfl rfl))) rfl)
    | cons k r => exact sd_yes (t_is (t_test (d_op (d_var rfl) (d_lst (ds := []) a_nil (by decide)) (ro_neD (natsL (k :: r)) rfl))) rfl) (sd_asg (d_tup (ds := [.str "room", natD k]) (a_cons d_str (a_cons (d_op (d_var rfl) d_int (ro_sqL (atI_nat (j := 0) rfl))) a_nil)) (by simp)))
  refine sd_seq (sd_no (t_notSame (n := 1) (d_is (flt _ 6 zs rfl rfl hz) (by rw [bf])) (d_var rfl) ?p1)) ?_
  case p1 =>
    cases ov with
    | nil => exact .inl rfl
    | cons k r =>
      refine pln_tup (by simp) fun y hy => ?_
      have e : y = .str "room" ∨ y = natD k := by simpa [dueD] using hy
      rcases e with e | e
      · rw [e]; show SeqAt.shaped (.str "room") = true; decide +kernel
      · rw [e]; show true = true; rfl
  refine sd_seq ?d2 (fin .un)
  case d2 =>
    clear fin bf
    cases ov with
    | cons k r => exact sd_no (t_is (t_test (d_op (d_var rfl) d_non ro_isN)) rfl)
    | nil =>
      refine sd_yes (t_is (t_test (d_op (d_var rfl) d_non ro_isN)) rfl) ?_
      have rowsE : List.zipWith (fun a b => a + b) (W.takes.map (sumOn xs)) (W.takes.map (sumOn ys)) = W.takes.map (sumOn zs) := by
        have gen : ∀ l : List (List Nat), List.zipWith (fun a b => a + b) (l.map (sumOn xs)) (l.map (sumOn ys)) = l.map (sumOn zs) := fun l => by
          induction l with
          | nil => rfl
          | cons h t ih => rw [List.map_cons, List.map_cons, List.map_cons, List.zipWith_cons_cons, ih, sumA]
        exact gen W.takes
      have tl : W.takes.length ≤ 1000 := by rw [w.same]; omega
      refine sd_seq (sd_asg (d_is (d_zipI (f := fun a b => a + b) (i := 11) (j := 12) (by decide) (a_cons (thr _ 4 xs rfl rfl lx) (a_cons (thr _ 5 ys rfl rfl ly) a_nil)) (by rw [List.length_map, List.length_map]) (by rw [List.length_map]; exact tl) rfl rfl (fun a b => ro_Ii)) (by rw [rowsE]))) ?_
      refine sd_seq (sd_no (t_notSame (n := 1) (thr _ 6 zs rfl rfl hz) (d_var rfl) (pln_ints _ (by rw [List.length_map]; exact tl)))) ?_
      refine sd_out (sd_no (t_is (t_test (d_op (wor _ 6 zs rfl rfl hz) (d_op (wor _ 4 xs rfl rfl lx) (wor _ 5 ys rfl rfl ly) ro_Ii) (ro_neD rfl rfl))) ?_)) (.same (.same (.same (.same (.same (.same (.same (.same (.same (.un (.same (.same (.same (.same .nil))))))))))))))
      show (!(sumOn zs (inDoors W) == sumOn xs (inDoors W) + sumOn ys (inDoors W))) = false
      rw [sumA]
      simp
theorem go_law {N : List Str} {vs : List V} {H : Hp} {Q : VK} {E : XK} (hN : N.length = 14) (hs : sp_law K vs H Q E) : T_law K { nx := fun _ H' => Q .non H', rt := Q } (L2.start N vs) H := by
  refine law_go (k := 12) (m := 8 * 4100 + 0) (fun a => ?_) (by decide) hN hs
  refine sw_then (sw_mono (sw_for (m := 4100) (es_rng1 (n := 8) (a_cons d_int a_nil) (by decide) (by decide)) fun x hx => ⟨_, _, g_name, ?_⟩) (by simp) (fun o h => h)) ?_
  · refine sw_mono (sw_then (sw_asg (ew_web (i := 1) rfl (ew_nextEq (i := 1) rfl (by decide) (by decide)) 8 20 (by decide) (by decide))) ?c1) (m1 := 2001 + 2010) (by decide) (fun o h => h)
    rintro ρ' ⟨d, ⟨W, rfl, w, _⟩, rfl⟩
    have one : Ew a (tCall sp__law_stream [] E0 (tCons (tVar 1) (tCons (tVar 3) (tCons (tCall sp__law_next [] E0 (tCons (tVar 1) (tCons (tC (.int 5)) tNil))) tNil)))) [.un, .raw (.ref a), .dat x, .dat (webD W), .un, .un, .un, .un, .un, .un, .un, .un, .un, .un] 1001 (fun d => ∃ bs, d = intsD bs ∧ IsStream W bs) :=
      ew_mono (ew_stream (i := 1) (j := 3) rfl rfl w (ew_mono (ew_nextN (i := 1) (m := 5) rfl (by decide) (by decide)) (Nat.le_refl _) (fun d ⟨r, e, hr⟩ => ⟨r, e, by omega⟩))) (by decide) (fun d h => h)
    refine sw_mono (sw_then (sw_par (P := fun x y => ∃ xs ys, IsStream W xs ∧ IsStream W ys ∧ x = intsD xs ∧ y = intsD ys) (ewa_mono (ewa_cons one (ewa_cons one ewa_nil)) (Nat.le_refl _) ?l1)) (m2 := 0) ?c2) (by decide) (fun o h => h)
    case l1 =>
      rintro ds ⟨_, _, rfl, ⟨xs, rfl, sx⟩, _, _, rfl, ⟨ys, rfl, sy⟩, rfl⟩
      exact ⟨_, _, rfl, xs, ys, sx, sy, rfl, rfl⟩
    rintro ρ' ⟨_, _, ⟨xs, ys, sx, sy, rfl, rfl⟩, rfl⟩
    obtain ⟨ρ2, wk, sd⟩ := turn_ok (K := K) (a := a) (x := x) w sx sy
    refine sw_mono (sw_pure sd) (Nat.le_refl _) ?_
    rintro o rfl
    exact ⟨_, .inl rfl, wk⟩
  · rintro ρ' rfl
    exact sw_mono (sw_ret (ew_pure d_bl)) (Nat.le_refl _) fun o ⟨d, e1, e2⟩ => by rw [e1, e2]
end
end K11
end Un

namespace Row
open PySem PySem.Spec PyProof.Rows L2 Un
def topS (i : Nat) : Stmt := PySem.Challenge.pw_unturned_k11_whole_streams_added.main.body.getD i (.Pass ⟨0, 0, 0, 0⟩)
abbrev s_is_number : Stmt := topS 1
abbrev N_is_number : List Str := ["thing"]
theorem sc_is_number : FnScope N_is_number ["thing"] (defScope s_is_number) := ⟨rfl, rfl, rfl, by decide +kernel, rfl, by decide +kernel, by decide +kernel⟩
-- slots: 0 thing
abbrev s_is_tuple_of : Stmt := topS 2
abbrev N_is_tuple_of : List Str := ["thing", "least", "most"]
theorem sc_is_tuple_of : FnScope N_is_tuple_of ["thing", "least", "most"] (defScope s_is_tuple_of) := ⟨rfl, rfl, rfl, by decide +kernel, rfl, by decide +kernel, by decide +kernel⟩
-- slots: 0 thing, 1 least, 2 most
abbrev s_borne : Stmt := topS 3
abbrev N_borne : List Str := ["bears", "numbers", "number"]
theorem sc_borne : FnScope N_borne ["bears", "numbers"] (defScope s_borne) := ⟨rfl, rfl, rfl, by decide +kernel, rfl, by decide +kernel, by decide +kernel⟩
-- slots: 0 bears*, 1 numbers, 2 number
abbrev s_in_doors : Stmt := topS 5
abbrev N_in_doors : List Str := ["web", "number", "road"]
theorem sc_in_doors : FnScope N_in_doors ["web"] (defScope s_in_doors) := ⟨rfl, rfl, rfl, by decide +kernel, rfl, by decide +kernel, by decide +kernel⟩
-- slots: 0 web, 1 number, 2 road
abbrev s_is_form : Stmt := topS 8
abbrev N_is_form : List Str := ["thing", "many", "bears"]
theorem sc_is_form : FnScope N_is_form ["thing", "many"] (defScope s_is_form) := ⟨rfl, rfl, rfl, by decide +kernel, rfl, by decide +kernel, by decide +kernel⟩
-- slots: 0 thing, 1 many, 2 bears
abbrev s_streamfault : Stmt := topS 7
abbrev N_streamfault : List Str := ["web", "thing", "roads", "gives", "takes", "road", "bears", "house", "order"]
theorem sc_streamfault : FnScope N_streamfault ["web", "thing"] (defScope s_streamfault) := ⟨rfl, rfl, rfl, by decide +kernel, rfl, by decide +kernel, by decide +kernel⟩
-- slots: 0 web, 1 thing, 2 roads, 3 gives, 4 takes, 5 road, 6 bears, 7 house, 8 order
abbrev s_through : Stmt := topS 9
abbrev N_through : List Str := ["web", "stream", "order"]
theorem sc_through : FnScope N_through ["web", "stream"] (defScope s_through) := ⟨rfl, rfl, rfl, by decide +kernel, rfl, by decide +kernel, by decide +kernel⟩
-- slots: 0 web, 1 stream*, 2 order
abbrev s_worth : Stmt := topS 10
abbrev N_worth : List Str := ["web", "stream"]
theorem sc_worth : FnScope N_worth ["web", "stream"] (defScope s_worth) := ⟨rfl, rfl, rfl, by decide +kernel, rfl, by decide +kernel, by decide +kernel⟩
-- slots: 0 web, 1 stream
abbrev s__law_deck : Stmt := topS 12
abbrev N__law_deck : List Str := ["_law_script", "_law_cells", "_law_cell"]
theorem sc__law_deck : FnScope N__law_deck ["_law_script"] (defScope s__law_deck) := ⟨rfl, rfl, rfl, by decide +kernel, rfl, by decide +kernel, by decide +kernel⟩
-- slots: 0 _law_script, 1 _law_cells, 2 _law_cell
abbrev s__law_next : Stmt := topS 13
abbrev N__law_next : List Str := ["_law_deck_here", "_law_many", "_law_rest", "_law_cell", "_law_mixed"]
theorem sc__law_next : FnScope N__law_next ["_law_deck_here", "_law_many"] (defScope s__law_next) := ⟨rfl, rfl, rfl, by decide +kernel, rfl, by decide +kernel, by decide +kernel⟩
-- slots: 0 _law_deck_here, 1 _law_many, 2 _law_rest, 3 _law_cell, 4 _law_mixed
abbrev s__law_one : Stmt := topS 14
abbrev N__law_one : List Str := ["_law_deck_here", "_law_some"]
theorem sc__law_one : FnScope N__law_one ["_law_deck_here", "_law_some"] (defScope s__law_one) := ⟨rfl, rfl, rfl, by decide +kernel, rfl, by decide +kernel, by decide +kernel⟩
-- slots: 0 _law_deck_here, 1 _law_some
abbrev s__law_room : Stmt := topS 15
abbrev N__law_room : List Str := ["_law_deck_here", "_law_far", "_law_small", "_law_great"]
theorem sc__law_room : FnScope N__law_room ["_law_deck_here", "_law_far"] (defScope s__law_room) := ⟨rfl, rfl, rfl, by decide +kernel, rfl, by decide +kernel, by decide +kernel⟩
-- slots: 0 _law_deck_here, 1 _law_far, 2 _law_small, 3 _law_great
abbrev s__law_order : Stmt := topS 16
abbrev N__law_order : List Str := ["_law_deck_here", "_law_numbers", "_law_found", "_law_number"]
theorem sc__law_order : FnScope N__law_order ["_law_deck_here", "_law_numbers"] (defScope s__law_order) := ⟨rfl, rfl, rfl, by decide +kernel, rfl, by decide +kernel, by decide +kernel⟩
-- slots: 0 _law_deck_here, 1 _law_numbers, 2 _law_found, 3 _law_number
abbrev s__law_road : Stmt := topS 17
abbrev N__law_road : List Str := ["_law_deck_here", "_law_houses", "_law_far", "_law_one_here", "_law_other", "_law_begin", "_law_end", "_law_number"]
theorem sc__law_road : FnScope N__law_road ["_law_deck_here", "_law_houses", "_law_far"] (defScope s__law_road) := ⟨rfl, rfl, rfl, by decide +kernel, rfl, by decide +kernel, by decide +kernel⟩
-- slots: 0 _law_deck_here, 1 _law_houses, 2 _law_far, 3 _law_one_here, 4 _law_other, 5 _law_begin, 6 _law_end, 7 _law_number
abbrev s__law_web : Stmt := topS 18
abbrev N__law_web : List Str := ["_law_deck_here", "_law_houses", "_law_roads", "_law_far", "_law_count", "_law_found", "_law_orders", "_law_side", "_law_rows", "_law_house", "_law_k"]
theorem sc__law_web : FnScope N__law_web ["_law_deck_here", "_law_houses", "_law_roads", "_law_far"] (defScope s__law_web) := ⟨rfl, rfl, rfl, by decide +kernel, rfl, by decide +kernel, by decide +kernel⟩
-- slots: 0 _law_deck_here*, 1 _law_houses, 2 _law_roads, 3 _law_far*, 4 _law_count*, 5 _law_found*, 6 _law_orders, 7 _law_side*, 8 _law_rows, 9 _law_house*, 10 _law_k
abbrev s__law_round : Stmt := topS 19
abbrev N__law_round : List Str := ["_law_deck_here", "_law_web_here", "_law_bears", "_law_lit", "_law_begins", "_law_row", "_law_seen", "_law_house", "_law_further", "_law_end", "_law_k"]
theorem sc__law_round : FnScope N__law_round ["_law_deck_here", "_law_web_here", "_law_bears"] (defScope s__law_round) := ⟨rfl, rfl, rfl, by decide +kernel, rfl, by decide +kernel, by decide +kernel⟩
-- slots: 0 _law_deck_here, 1 _law_web_here*, 2 _law_bears*, 3 _law_lit, 4 _law_begins, 5 _law_row, 6 _law_seen, 7 _law_house*, 8 _law_further, 9 _law_end, 10 _law_k
abbrev s__law_stream : Stmt := topS 20
abbrev N__law_stream : List Str := ["_law_deck_here", "_law_web_here", "_law_several", "_law_bears", "_law_turn", "_law_row", "_law_most", "_law_many", "_law_k"]
theorem sc__law_stream : FnScope N__law_stream ["_law_deck_here", "_law_web_here", "_law_several"] (defScope s__law_stream) := ⟨rfl, rfl, rfl, by decide +kernel, rfl, by decide +kernel, by decide +kernel⟩
-- slots: 0 _law_deck_here, 1 _law_web_here*, 2 _law_several, 3 _law_bears*, 4 _law_turn, 5 _law_row, 6 _law_most, 7 _law_many, 8 _law_k
abbrev s__law_same : Stmt := topS 21
abbrev N__law_same : List Str := ["_law_found", "_law_due", "_law_k"]
theorem sc__law_same : FnScope N__law_same ["_law_found", "_law_due"] (defScope s__law_same) := ⟨rfl, rfl, rfl, by decide +kernel, rfl, by decide +kernel, by decide +kernel⟩
-- slots: 0 _law_found*, 1 _law_due*, 2 _law_k
abbrev s_law : Stmt := topS 22
abbrev N_law : List Str := ["_law_script", "_law_deck_here", "_law_turn", "_law_web_here", "_law_one_here", "_law_other", "_law_both", "_law_over", "_law_due", "_law_rows", "_law_less", "_law_a", "_law_b", "_law_k"]
theorem sc_law : FnScope N_law ["_law_script"] (defScope s_law) := ⟨rfl, rfl, rfl, by decide +kernel, rfl, by decide +kernel, by decide +kernel⟩
-- slots: 0 _law_script, 1 _law_deck_here, 2 _law_turn, 3 _law_web_here*, 4 _law_one_here, 5 _law_other, 6 _law_both*, 7 _law_over, 8 _law_due, 9 _law_rows, 10 _law_less, 11 _law_a, 12 _law_b, 13 _law_k
section
variable {P : Program} {w : World} {K : PySem.W.Frag} {mg : Str → Option Value} {base : Heap}
theorem c_is_number (B : Bm mg) (F : Dfn K mg "is_number" s_is_number ["thing"]) : C8.Cal P w K mg base 1 "is_number" sp_is_number [] := by
  refine cal_of F sc_is_number (fun vs H Q E h => len_R (fun ds d ⟨_, e, _⟩ => by subst e; rfl) h) (fun f cdv A outer s H E hr => ⟨T_is_number K, ?_, fun vs Q h => go_R 0 (fun ds d ⟨_, e, _⟩ => by subst e; rfl) (fun ds d h => e_num h) h⟩)
  exact pss_one (ps_ret (pe_and (pe_callB call_isi (by rfl) B.n_isinstance (by decide +kernel) (pa_cons (pv 0) (pa_cons (pe_bltn (v := .ty "int") (by rfl) B.n_int (by decide +kernel) rfl) pa_nil))) (pe_one (pe_not (pe_callB call_isi (by rfl) B.n_isinstance (by decide +kernel) (pa_cons (pv 0) (pa_cons (pe_bltn (v := .ty "bool") (by rfl) B.n_bool (by decide +kernel) rfl) pa_nil)))))))
theorem c_is_tuple_of (B : Bm mg) (F : Dfn K mg "is_tuple_of" s_is_tuple_of ["thing", "least", "most"]) : C8.Cal P w K mg base 1 "is_tuple_of" sp_is_tuple_of [] := by
  refine cal_of F sc_is_tuple_of (fun vs H Q E h => len_R (fun ds d ⟨_, _, _, e, _⟩ => by subst e; rfl) h) (fun f cdv A outer s H E hr => ⟨T_is_tuple_of K, ?_, fun vs Q h => go_R 0 (fun ds d ⟨_, _, _, e, _⟩ => by subst e; rfl) (fun ds d h => e_tupof h) h⟩)
  exact pss_one (ps_ret (pe_and (pe_callB call_isi (by rfl) B.n_isinstance (by decide +kernel) (pa_cons (pv 0) (pa_cons (pe_bltn (v := .ty "tuple") (by rfl) B.n_tuple (by decide +kernel) rfl) pa_nil))) (pe_one (pe_chain op_le op_le (pv 1) (pe_callB call_len_seq (by rfl) B.n_len (by decide +kernel) (pa_cons (pv 0) pa_nil)) (pv 2)))))
theorem c_borne (B : Bm mg) (F : Dfn K mg "borne" s_borne ["bears", "numbers"]) : C8.Cal P w K mg base 1 "borne" sp_borne [] := by
  refine cal_of F sc_borne (fun vs H Q E h => len_R (fun ds d ⟨_, _, _, e, _⟩ => by subst e; rfl) h) (fun f cdv A outer s H E hr => ⟨T_borne K, ?_, fun vs Q h => go_R 1 (fun ds d ⟨_, _, _, e, _⟩ => by subst e; rfl) (fun ds d h => e_borne h) h⟩)
  exact pss_one (ps_ret (pe_callB (cr_sum rfl) (by rfl) B.n_sum (by decide +kernel) (pa_cons (pe_lc (own := [("number", 2)]) rfl sc_borne.nd (pi_tup (pv 1)) (blkOk_by (N := N_borne) (sc := defScope s_borne) (by decide +kernel)) (fun _ _ _ _ _ => (pg_name (i := 2) sc_borne.nd rfl (.inl rfl))) (fun _ _ _ _ _ => pts_nil) (fun _ _ _ _ _ => pe_ix ix_seq (pv 0) (pv 2) (fun _ _ => rfl))) pa_nil)))
theorem c_in_doors (B : Bm mg) (F : Dfn K mg "in_doors" s_in_doors ["web"]) : C8.Cal P w K mg base 1 "in_doors" sp_in_doors [] := by
  refine cal_of F sc_in_doors (fun vs H Q E h => len_R (fun ds d ⟨_, e, _⟩ => by subst e; rfl) h) (fun f cdv A outer s H E hr => ⟨T_in_doors K, ?_, fun vs Q h => go_R 2 (fun ds d ⟨_, e, _⟩ => by subst e; rfl) (fun ds d h => e_in h) h⟩)
  exact pss_one (ps_ret (pe_callTy call_tuple_of (by rfl) B.n_tuple (by decide +kernel) (pa_cons (pe_lc (own := [("number", 1), ("road", 2)]) rfl sc_in_doors.nd (pi_enumT (by rfl) B.n_enumerate (pa_cons (pe_ix ix_seq (pv 0) pe_int (fun _ _ => rfl)) pa_nil)) (blkOk_by (N := N_in_doors) (sc := defScope s_in_doors) (by decide +kernel)) (fun _ _ _ _ _ => (pg_tup rfl (pgs_cons (pg_name (i := 1) sc_in_doors.nd rfl (.inl rfl)) (pgs_cons (pg_name (i := 2) sc_in_doors.nd rfl (.inl rfl)) pgs_nil)))) (fun _ _ _ _ _ => pts_one (pt_cmpR op_isN (pe_ix ix_seq (pv 2) pe_int (fun _ _ => rfl)) pe_non (nomark _))) (fun _ _ _ _ _ => (pv 1))) pa_nil)))
theorem c_is_form (B : Bm mg) (F : Dfn K mg "is_form" s_is_form ["thing", "many"]) (c_is_number : C8.Cal P w K mg base 1 "is_number" sp_is_number []) (c_is_tuple_of : C8.Cal P w K mg base 1 "is_tuple_of" sp_is_tuple_of []) : C8.Cal P w K mg base 2 "is_form" sp_is_form [] := by
  refine cal_of F sc_is_form (fun vs H Q E h => len_R (fun ds d ⟨_, _, e, _⟩ => by subst e; rfl) h) (fun f cdv A outer s H E hr => ⟨T_is_form K, ?_, fun vs Q h => go_R 1 (fun ds d ⟨_, _, e, _⟩ => by subst e; rfl) (fun ds d h => e_form h) h⟩)
  exact pss_one (ps_ret (pe_and (C8.pe_c c_is_tuple_of hr (by decide) (by rfl) (pa_cons (pv 0) (pa_cons (pv 1) (pa_cons (pv 1) pa_nil)))) (pe_one (pe_callB (cr_all rfl) (by rfl) B.n_all (by decide +kernel) (pa_cons (pe_lc (own := [("bears", 2)]) rfl sc_is_form.nd (pi_tup (pv 0)) (blkOk_by (N := N_is_form) (sc := defScope s_is_form) (by decide +kernel)) (fun _ _ _ _ _ => (pg_name (i := 2) sc_is_form.nd rfl (.inl rfl))) (fun _ _ _ _ _ => pts_nil) (fun _ _ _ _ _ => (pe_and (C8.pe_c c_is_number hr (by decide) (by rfl) (pa_cons (pv 2) pa_nil)) (pe_one (pe_cmpR op_ge (pv 2) pe_int (nomark _)))))) pa_nil)))))
theorem c_streamfault (B : Bm mg) (F : Dfn K mg "streamfault" s_streamfault ["web", "thing"]) (c_borne : C8.Cal P w K mg base 1 "borne" sp_borne []) (c_is_form : C8.Cal P w K mg base 2 "is_form" sp_is_form []) : C8.Cal P w K mg base 3 "streamfault" sp_streamfault [] := by
  refine cal_of F sc_streamfault (fun vs H Q E h => len_R (fun ds d ⟨_, _, e, _⟩ => by subst e; rfl) h) (fun f cdv A outer s H E hr => ⟨T_streamfault K, ?_, fun vs Q h => go_R 7 (fun ds d ⟨_, _, e, _⟩ => by subst e; rfl) (fun ds d h => e_fault h) h⟩)
  exact pss_cons (ps_asg (pv 0) (pg_tup rfl (pgs_cons (pg_name (i := 2) sc_streamfault.nd rfl (.inl rfl)) (pgs_cons (pg_name (i := 3) sc_streamfault.nd rfl (.inl rfl)) (pgs_cons (pg_name (i := 4) sc_streamfault.nd rfl (.inl rfl)) pgs_nil)))))
      (pss_cons (ps_if (pt_not (pt_val (C8.pe_c c_is_form hr (by decide) (by rfl) (pa_cons (pv 1) (pa_cons (pe_callB call_len_seq (by rfl) B.n_len (by decide +kernel) (pa_cons (pv 2) pa_nil)) pa_nil))))) (pss_one (ps_ret (pe_tup (pa_cons pe_str pa_nil)))) pss_nil)
      (pss_cons (ps_for PassesOwn.never rfl (pi_enumT (by rfl) B.n_enumerate (pa_cons (pv 1) pa_nil)) (pg_tup rfl (pgs_cons (pg_name (i := 5) sc_streamfault.nd rfl (.inl rfl)) (pgs_cons (pg_name (i := 6) sc_streamfault.nd rfl (.inl rfl)) pgs_nil))) (pss_one (ps_if (pt_cmpR op_gt (pv 6) (pe_ix ix_seq (pe_ix ix_seq (pv 2) (pv 5) (fun _ _ => rfl)) pe_int (fun _ _ => rfl)) (nomark _)) (pss_one (ps_ret (pe_tup (pa_cons pe_str (pa_cons (pv 5) pa_nil))))) pss_nil)))
      (pss_cons (ps_for PassesOwn.never rfl (pi_enumT (by rfl) B.n_enumerate (pa_cons (pv 3) pa_nil)) (pg_tup rfl (pgs_cons (pg_name (i := 7) sc_streamfault.nd rfl (.inl rfl)) (pgs_cons (pg_name (i := 8) sc_streamfault.nd rfl (.inl rfl)) pgs_nil))) (pss_one (ps_if (pt_cmpR (op_neD hr.units) (C8.pe_c c_borne hr (by decide) (by rfl) (pa_cons (pv 1) (pa_cons (pe_ix ix_seq (pv 4) (pv 7) (fun _ _ => rfl)) pa_nil))) (C8.pe_c c_borne hr (by decide) (by rfl) (pa_cons (pv 1) (pa_cons (pv 8) pa_nil))) (nomark _)) (pss_one (ps_ret (pe_tup (pa_cons pe_str (pa_cons (pv 7) pa_nil))))) pss_nil)))
      (pss_one (ps_ret pe_non)))))
theorem c_through (B : Bm mg) (F : Dfn K mg "through" s_through ["web", "stream"]) (c_borne : C8.Cal P w K mg base 1 "borne" sp_borne []) : C8.Cal P w K mg base 2 "through" sp_through [] := by
  refine cal_of F sc_through (fun vs H Q E h => len_R (fun ds d ⟨_, _, _, e, _⟩ => by subst e; rfl) h) (fun f cdv A outer s H E hr => ⟨T_through K, ?_, fun vs Q h => go_R 1 (fun ds d ⟨_, _, _, e, _⟩ => by subst e; rfl) (fun ds d h => e_through h) h⟩)
  exact pss_one (ps_ret (pe_callTy call_tuple_of (by rfl) B.n_tuple (by decide +kernel) (pa_cons (pe_lc (own := [("order", 2)]) rfl sc_through.nd (pi_tup (pe_ix ix_seq (pv 0) pe_int (fun _ _ => rfl))) (blkOk_by (N := N_through) (sc := defScope s_through) (by decide +kernel)) (fun _ _ _ _ _ => (pg_name (i := 2) sc_through.nd rfl (.inl rfl))) (fun _ _ _ _ _ => pts_nil) (fun _ _ _ _ _ => C8.pe_c c_borne hr (by decide) (by rfl) (pa_cons (pv 1) (pa_cons (pv 2) pa_nil)))) pa_nil)))
theorem c_worth (B : Bm mg) (F : Dfn K mg "worth" s_worth ["web", "stream"]) (c_borne : C8.Cal P w K mg base 1 "borne" sp_borne []) (c_in_doors : C8.Cal P w K mg base 1 "in_doors" sp_in_doors []) : C8.Cal P w K mg base 2 "worth" sp_worth [] := by
  refine cal_of F sc_worth (fun vs H Q E h => len_R (fun ds d ⟨_, _, _, e, _⟩ => by subst e; rfl) h) (fun f cdv A outer s H E hr => ⟨T_worth K, ?_, fun vs Q h => go_R 0 (fun ds d ⟨_, _, _, e, _⟩ => by subst e; rfl) (fun ds d h => e_worth h) h⟩)
  exact pss_one (ps_ret (C8.pe_c c_borne hr (by decide) (by rfl) (pa_cons (pv 1) (pa_cons (C8.pe_c c_in_doors hr (by decide) (by rfl) (pa_cons (pv 0) pa_nil)) pa_nil))))
theorem c__law_deck (B : Bm mg) (F : Dfn K mg "_law_deck" s__law_deck ["_law_script"]) : C8.Cal P w K mg base 1 "_law_deck" (sp__law_deck K) [] := by
  refine cal_of F sc__law_deck (fun vs H Q E h => by obtain ⟨s, ns, rfl, _⟩ := h; rfl) (fun f cdv A outer s H E hr => ⟨T__law_deck K, ?_, fun vs Q h => go_deck rfl h⟩)
  exact pss_cons (ps_setLc (i := 1) (own := [("_law_cell", 2)]) rfl sc__law_deck.nd rfl rfl (sw_true rfl rfl rfl (by decide +kernel)) (pi_list (pv 0)) (blkOk_by (N := N__law_deck) (sc := defScope s__law_deck) (by decide +kernel)) (fun _ _ _ _ _ => (pg_name (i := 2) sc__law_deck.nd rfl (.inl rfl))) (fun _ _ _ _ _ => pts_nil) (fun _ _ _ _ _ => pe_callB call_abs (by rfl) B.n_abs (by decide +kernel) (pa_cons (pv 2) pa_nil)))
      (pss_one (ps_ret (pe_lst (pa_cons (pe_lc (own := [("_law_cell", 2)]) rfl sc__law_deck.nd (pi_list (pv 1)) (blkOk_by (N := N__law_deck) (sc := defScope s__law_deck) (by decide +kernel)) (fun _ _ _ _ _ => (pg_name (i := 2) sc__law_deck.nd rfl (.inl rfl))) (fun _ _ _ _ _ => pts_one (pt_cmpR op_ge (pv 2) (pe_op op_pow pe_int pe_int) (nomark _))) (fun _ _ _ _ _ => (pv 2))) (pa_cons (pe_op op_cat (pv 1) (pe_lst (pa_cons (pe_op op_add (pe_callB call_len_seq (by rfl) B.n_len (by decide +kernel) (pa_cons (pv 1) pa_nil)) pe_int) pa_nil))) (pa_cons pe_int pa_nil))))))
theorem c__law_next (B : Bm mg) (F : Dfn K mg "_law_next" s__law_next ["_law_deck_here", "_law_many"]) : C8.Cal P w K mg base 1 "_law_next" sp__law_next [] := by
  refine cal_of F sc__law_next (fun vs H Q E h => len_K (fun ds ⟨_, e, _⟩ => by subst e; rfl) h) (fun f cdv A outer s H E hr => ⟨T__law_next K, ?_, fun vs Q h => go_next rfl h⟩)
  exact pss_cons (ps_while PassesOwn.never (pt_cmpR (op_neD hr.units) (pe_ix ix_seq (pv 0) pe_int (fun _ _ => rfl)) (pe_lst pa_nil) (nomark _)) (pss_cons (ps_set (i := 2) sc__law_next.nd rfl (.inl rfl) (pe_ix ix_seq (pe_ix ix_seq (pv 0) pe_int (fun _ _ => rfl)) pe_int (fun _ _ => rfl)))
      (pss_cons (ps_if (pt_cmpR op_gt (pv 2) pe_int (nomark _)) (pss_cons (ps_asg (pe_op op_fdivW (pv 2) (pv 1)) (pg_sub (pe_ix ix_seq (pv 0) pe_int (fun _ _ => rfl)) pe_int set_list))
      (pss_one (ps_ret (pe_op op_mod (pv 2) (pv 1))))) pss_nil)
      (pss_one (ps_expr (pe_bm PySem.F.plainAttrs_list PySem.F.slot_list_pop PySem.F.type_list_pop mt_popAt (pe_ix ix_seq (pv 0) pe_int (fun _ _ => rfl)) (pa_cons pe_int pa_nil)))))))
      (pss_cons (ps_asg (pe_op op_add (pe_ix ix_seq (pv 0) pe_int (fun _ _ => rfl)) pe_int) (pg_sub (pv 0) pe_int set_list))
      (pss_cons (ps_set (i := 3) sc__law_next.nd rfl (.inl rfl) (pe_op op_mod (pe_ix ix_seq (pe_ix ix_seq (pv 0) pe_int (fun _ _ => rfl)) (pe_op op_mod (pe_ix ix_seq (pv 0) pe_int (fun _ _ => rfl)) (pe_callB call_len_seq (by rfl) B.n_len (by decide +kernel) (pa_cons (pe_ix ix_seq (pv 0) pe_int (fun _ _ => rfl)) pa_nil))) (fun _ _ => rfl)) pe_int))
      (pss_cons (ps_set (i := 4) sc__law_next.nd rfl (.inl rfl) (pe_op op_add (pe_op op_add (pe_op op_mul (pv 3) (pe_op op_add pe_int (pe_op op_mul pe_int (pe_ix ix_seq (pv 0) pe_int (fun _ _ => rfl))))) (pe_op op_mul (pe_op op_mul pe_int (pe_ix ix_seq (pv 0) pe_int (fun _ _ => rfl))) (pe_ix ix_seq (pv 0) pe_int (fun _ _ => rfl)))) pe_int))
      (pss_cons (ps_set (i := 4) sc__law_next.nd rfl (.inl rfl) (pe_op op_mod (pv 4) pe_int))
      (pss_one (ps_ret (pe_op op_mod (pe_op op_fdivW (pe_op op_mod (pe_op op_mul (pv 4) (pv 4)) pe_int) pe_int) (pv 1))))))))
theorem c__law_one (B : Bm mg) (F : Dfn K mg "_law_one" s__law_one ["_law_deck_here", "_law_some"]) (c__law_next : C8.Cal P w K mg base 1 "_law_next" sp__law_next []) : C8.Cal P w K mg base 2 "_law_one" sp__law_one [] := by
  refine cal_of F sc__law_one (fun vs H Q E h => len_K (fun ds ⟨_, e, _⟩ => by subst e; rfl) h) (fun f cdv A outer s H E hr => ⟨T__law_one K, ?_, fun vs Q h => go_one rfl h⟩)
  exact pss_one (ps_ret (pe_ix ix_seq (pv 1) (C8.pe_c c__law_next hr (by decide) (by rfl) (pa_cons (pv 0) (pa_cons (pe_callB call_len_seq (by rfl) B.n_len (by decide +kernel) (pa_cons (pv 1) pa_nil)) pa_nil))) (fun _ _ => rfl)))
theorem c__law_room (B : Bm mg) (F : Dfn K mg "_law_room" s__law_room ["_law_deck_here", "_law_far"]) (c__law_next : C8.Cal P w K mg base 1 "_law_next" sp__law_next []) (c__law_one : C8.Cal P w K mg base 2 "_law_one" sp__law_one []) : C8.Cal P w K mg base 3 "_law_room" sp__law_room [] := by
  refine cal_of F sc__law_room (fun vs H Q E h => len_K (fun ds ⟨_, e⟩ => by subst e; rfl) h) (fun f cdv A outer s H E hr => ⟨T__law_room K, ?_, fun vs Q h => go_room rfl h⟩)
  exact pss_cons (ps_set (i := 2) sc__law_room.nd rfl (.inl rfl) (C8.pe_c c__law_one hr (by decide) (by rfl) (pa_cons (pv 0) (pa_cons (pe_lst (pa_cons pe_int (pa_cons pe_int (pa_cons pe_int (pa_cons pe_int (pa_cons pe_int (pa_cons pe_int pa_nil))))))) pa_nil))))
      (pss_cons (ps_set (i := 3) sc__law_room.nd rfl (.inl rfl) (C8.pe_c c__law_one hr (by decide) (by rfl) (pa_cons (pv 0) (pa_cons (pe_lst (pa_cons pe_int (pa_cons pe_int (pa_cons (pe_op op_pow pe_int pe_int) (pa_cons (pe_op op_sub (pe_op op_pow pe_int pe_int) (C8.pe_c c__law_next hr (by decide) (by rfl) (pa_cons (pv 0) (pa_cons pe_int pa_nil)))) (pa_cons (C8.pe_c c__law_next hr (by decide) (by rfl) (pa_cons (pv 0) (pa_cons (pe_op op_pow pe_int pe_int) pa_nil))) pa_nil)))))) pa_nil))))
      (pss_one (ps_ret (pe_ix ix_seq (pe_lst (pa_cons (pv 2) (pa_cons (pv 3) pa_nil))) (pe_callTy call_int1 (by rfl) B.n_int (by decide +kernel) (pa_cons (pv 1) pa_nil)) (fun _ _ => rfl)))))
theorem c__law_order (B : Bm mg) (F : Dfn K mg "_law_order" s__law_order ["_law_deck_here", "_law_numbers"]) (c__law_next : C8.Cal P w K mg base 1 "_law_next" sp__law_next []) : C8.Cal P w K mg base 2 "_law_order" sp__law_order [] := by
  refine cal_of F sc__law_order (fun vs H Q E h => len_K (fun ds ⟨_, e, _⟩ => by subst e; rfl) h) (fun f cdv A outer s H E hr => ⟨T__law_order K, ?_, fun vs Q h => go_order rfl h⟩)
  exact pss_cons (ps_set (i := 2) sc__law_order.nd rfl (.inl rfl) (pe_lst pa_nil))
      (pss_cons (ps_for PassesOwn.never rfl (pi_list (pv 1)) (pg_name (i := 3) sc__law_order.nd rfl (.inl rfl)) (pss_one (ps_expr (pe_bm PySem.F.plainAttrs_list PySem.F.slot_list_insert PySem.F.type_list_insert mt_insert (pv 2) (pa_cons (C8.pe_c c__law_next hr (by decide) (by rfl) (pa_cons (pv 0) (pa_cons (pe_op op_add (pe_callB call_len_seq (by rfl) B.n_len (by decide +kernel) (pa_cons (pv 2) pa_nil)) pe_int) pa_nil))) (pa_cons (pv 3) pa_nil))))))
      (pss_one (ps_ret (pe_callTy call_tuple_of (by rfl) B.n_tuple (by decide +kernel) (pa_cons (pv 2) pa_nil)))))
theorem c__law_road (B : Bm mg) (F : Dfn K mg "_law_road" s__law_road ["_law_deck_here", "_law_houses", "_law_far"]) (c__law_next : C8.Cal P w K mg base 1 "_law_next" sp__law_next []) (c__law_room : C8.Cal P w K mg base 3 "_law_room" sp__law_room []) : C8.Cal P w K mg base 4 "_law_road" sp__law_road [] := by
  refine cal_of F sc__law_road (fun vs H Q E h => len_K (fun ds ⟨_, _, e, _⟩ => by subst e; rfl) h) (fun f cdv A outer s H E hr => ⟨T__law_road K, ?_, fun vs Q h => go_road rfl h⟩)
  exact pss_cons (ps_set (i := 3) sc__law_road.nd rfl (.inl rfl) (C8.pe_c c__law_next hr (by decide) (by rfl) (pa_cons (pv 0) (pa_cons (pe_op op_add (pv 1) pe_int) pa_nil))))
      (pss_cons (ps_set (i := 4) sc__law_road.nd rfl (.inl rfl) (pe_op op_mod (pe_op op_add (pe_op op_add (pv 3) pe_int) (C8.pe_c c__law_next hr (by decide) (by rfl) (pa_cons (pv 0) (pa_cons (pv 1) pa_nil)))) (pe_op op_add (pv 1) pe_int)))
      (pss_cons (ps_asg (pe_lc (own := [("_law_number", 7)]) rfl sc__law_road.nd (pi_tup (pe_tup (pa_cons (pv 3) (pa_cons (pv 4) pa_nil)))) (blkOk_by (N := N__law_road) (sc := defScope s__law_road) (by decide +kernel)) (fun _ _ _ _ _ => (pg_name (i := 7) sc__law_road.nd rfl (.inl rfl))) (fun _ _ _ _ _ => pts_nil) (fun _ _ _ _ _ => pe_ix ix_seq (pe_lst (pa_cons pe_non (pa_cons (pe_op op_sub (pv 7) pe_int) pa_nil))) (pe_callTy call_int1 (by rfl) B.n_int (by decide +kernel) (pa_cons (pe_cmpR op_gt (pv 7) pe_int (nomark _)) pa_nil)) (fun _ _ => rfl))) (pg_unl rfl (pgs_cons (pg_name (i := 5) sc__law_road.nd rfl (.inl rfl)) (pgs_cons (pg_name (i := 6) sc__law_road.nd rfl (.inl rfl)) pgs_nil))))
      (pss_one (ps_ret (pe_tup (pa_cons (pv 5) (pa_cons (pv 6) (pa_cons (C8.pe_c c__law_room hr (by decide) (by rfl) (pa_cons (pv 0) (pa_cons (pv 2) pa_nil))) pa_nil))))))))
theorem c__law_web (B : Bm mg) (F : Dfn K mg "_law_web" s__law_web ["_law_deck_here", "_law_houses", "_law_roads", "_law_far"]) (c__law_next : C8.Cal P w K mg base 1 "_law_next" sp__law_next []) (c__law_order : C8.Cal P w K mg base 2 "_law_order" sp__law_order []) (c__law_road : C8.Cal P w K mg base 4 "_law_road" sp__law_road []) : C8.Cal P w K mg base 5 "_law_web" sp__law_web [] := by
  refine cal_of F sc__law_web (fun vs H Q E h => len_K (fun ds ⟨_, _, _, e, _⟩ => by subst e; rfl) h) (fun f cdv A outer s H E hr => ⟨T__law_web K, ?_, fun vs Q h => go_web rfl h⟩)
  exact pss_cons (ps_set (i := 4) sc__law_web.nd rfl (.inr rfl) (pe_op op_add pe_int (C8.pe_c c__law_next hr (by decide) (by rfl) (pa_cons (pv 0) (pa_cons (pv 1) pa_nil)))))
      (pss_cons (ps_set (i := 5) sc__law_web.nd rfl (.inr rfl) (pe_lc (own := [("_law_k", 10)]) rfl sc__law_web.nd (pi_range1 (by rfl) B.n_range (pa_cons (pe_op op_add pe_int (C8.pe_c c__law_next hr (by decide) (by rfl) (pa_cons (pv 0) (pa_cons (pv 2) pa_nil)))) pa_nil)) (blkOk_by (N := N__law_web) (sc := defScope s__law_web) (by decide +kernel)) (fun _ _ _ _ _ => (pg_name (i := 10) sc__law_web.nd rfl (.inl rfl))) (fun _ _ _ _ _ => pts_nil) (fun _ _ _ _ _ => C8.pe_c c__law_road hr (by decide) (by rfl) (pa_cons (pv 0) (pa_cons (pv 4) (pa_cons (pv 3) pa_nil))))))
      (pss_cons (ps_set (i := 6) sc__law_web.nd rfl (.inl rfl) (pe_lst pa_nil))
      (pss_cons (ps_for PassesOwn.never rfl (pi_tup (pe_tup (pa_cons pe_int (pa_cons pe_int pa_nil)))) (pg_name (i := 7) sc__law_web.nd rfl (.inr rfl)) (pss_cons (ps_set (i := 8) sc__law_web.nd rfl (.inl rfl) (pe_lst pa_nil))
      (pss_cons (ps_for PassesOwn.never rfl (pi_range1 (by rfl) B.n_range (pa_cons (pv 4) pa_nil)) (pg_name (i := 9) sc__law_web.nd rfl (.inr rfl)) (pss_one (ps_expr (pe_bm PySem.F.plainAttrs_list PySem.F.slot_list_append PySem.F.type_list_append mt_append (pv 8) (pa_cons (C8.pe_c c__law_order hr (by decide) (by rfl) (pa_cons (pv 0) (pa_cons (pe_lc (own := [("_law_k", 10)]) rfl sc__law_web.nd (pi_range1 (by rfl) B.n_range (pa_cons (pe_callB call_len_seq (by rfl) B.n_len (by decide +kernel) (pa_cons (pv 5) pa_nil)) pa_nil)) (blkOk_by (N := N__law_web) (sc := defScope s__law_web) (by decide +kernel)) (fun _ _ _ _ _ => (pg_name (i := 10) sc__law_web.nd rfl (.inl rfl))) (fun _ _ _ _ _ => pts_one (pt_cmpR (op_eqD hr.units) (pe_ix ix_seq (pe_ix ix_seq (pv 5) (pv 10) (fun _ _ => rfl)) (pv 7) (fun _ _ => rfl)) (pv 9) (nomark _))) (fun _ _ _ _ _ => (pv 10))) pa_nil))) pa_nil)))))
      (pss_one (ps_expr (pe_bm PySem.F.plainAttrs_list PySem.F.slot_list_append PySem.F.type_list_append mt_append (pv 6) (pa_cons (pe_callTy call_tuple_of (by rfl) B.n_tuple (by decide +kernel) (pa_cons (pv 8) pa_nil)) pa_nil)))))))
      (pss_one (ps_ret (pe_tup (pa_cons (pe_callTy call_tuple_of (by rfl) B.n_tuple (by decide +kernel) (pa_cons (pv 5) pa_nil)) (pa_cons (pe_ix ix_seq (pv 6) pe_int (fun _ _ => rfl)) (pa_cons (pe_ix ix_seq (pv 6) pe_int (fun _ _ => rfl)) pa_nil)))))))))
theorem c__law_round (B : Bm mg) (F : Dfn K mg "_law_round" s__law_round ["_law_deck_here", "_law_web_here", "_law_bears"]) (c__law_next : C8.Cal P w K mg base 1 "_law_next" sp__law_next []) (c__law_one : C8.Cal P w K mg base 2 "_law_one" sp__law_one []) : C8.Cal P w K mg base 3 "_law_round" sp__law_round [] := by
  refine cal_of F sc__law_round (fun vs H Q E h => by obtain ⟨_, _, _, _, _, _, _, _, _, rfl, _⟩ := h; rfl) (fun f cdv A outer s H E hr => ⟨T__law_round K, ?_, fun vs Q h => go_round rfl h⟩)
  exact pss_cons (ps_setLc (i := 3) (own := [("_law_k", 10)]) rfl sc__law_round.nd rfl rfl (sw_true rfl rfl rfl (by decide +kernel)) (pi_range1 (by rfl) B.n_range (pa_cons (pe_callB call_len_seq (by rfl) B.n_len (by decide +kernel) (pa_cons (pe_ix ix_seq (pv 1) pe_int (fun _ _ => rfl)) pa_nil)) pa_nil)) (blkOk_by (N := N__law_round) (sc := defScope s__law_round) (by decide +kernel)) (fun _ _ _ _ _ => (pg_name (i := 10) sc__law_round.nd rfl (.inl rfl))) (fun _ _ _ _ _ => pts_one (pt_cmpR op_lt (pe_ix ix_seq (pv 2) (pv 10) (fun _ _ => rfl)) (pe_ix ix_seq (pe_ix ix_seq (pe_ix ix_seq (pv 1) pe_int (fun _ _ => rfl)) (pv 10) (fun _ _ => rfl)) pe_int (fun _ _ => rfl)) (nomark _))) (fun _ _ _ _ _ => (pv 10)))
      (pss_cons (ps_setLc (i := 4) (own := [("_law_k", 10)]) rfl sc__law_round.nd rfl rfl (sw_true rfl rfl rfl (by decide +kernel)) (pi_list (pv 3)) (blkOk_by (N := N__law_round) (sc := defScope s__law_round) (by decide +kernel)) (fun _ _ _ _ _ => (pg_name (i := 10) sc__law_round.nd rfl (.inl rfl))) (fun _ _ _ _ _ => pts_one (pt_cmpR op_isN (pe_ix ix_seq (pe_ix ix_seq (pe_ix ix_seq (pv 1) pe_int (fun _ _ => rfl)) (pv 10) (fun _ _ => rfl)) pe_int (fun _ _ => rfl)) pe_non (nomark _))) (fun _ _ _ _ _ => (pv 10)))
      (pss_cons (ps_if (PW.pt (pw_or (pt_cmpR (op_eqD hr.units) (pv 4) (pe_lst pa_nil) (nomark _)) (pw_or1 (pt_cmpR (op_eqD hr.units) (C8.pe_c c__law_next hr (by decide) (by rfl) (pa_cons (pv 0) (pa_cons pe_int pa_nil))) pe_int (nomark _))))) (pss_one (ps_set (i := 4) sc__law_round.nd rfl (.inl rfl) (pv 3))) pss_nil)
      (pss_cons (ps_if (pt_cmpR (op_eqD hr.units) (pv 4) (pe_lst pa_nil) (nomark _)) (pss_one (ps_ret (pe_lst pa_nil))) pss_nil)
      (pss_cons (ps_set (i := 5) sc__law_round.nd rfl (.inl rfl) (pe_lst (pa_cons (C8.pe_c c__law_one hr (by decide) (by rfl) (pa_cons (pv 0) (pa_cons (pv 4) pa_nil))) pa_nil)))
      (pss_cons (ps_set (i := 6) sc__law_round.nd rfl (.inl rfl) (pe_lst (pa_cons (pe_ix ix_seq (pe_ix ix_seq (pe_ix ix_seq (pv 1) pe_int (fun _ _ => rfl)) (pe_ix ix_seq (pv 5) pe_int (fun _ _ => rfl)) (fun _ _ => rfl)) pe_int (fun _ _ => rfl)) pa_nil)))
      (pss_cons (ps_while PassesOwn.never (pt_cmpR op_notIn_seq (pe_ix ix_seq (pe_ix ix_seq (pe_ix ix_seq (pv 1) pe_int (fun _ _ => rfl)) (pe_ix ix_seq (pv 5) (pe_un un_neg pe_int) (fun _ _ => rfl)) (fun _ _ => rfl)) pe_int (fun _ _ => rfl)) (pe_op op_cat (pv 6) (pe_lst (pa_cons pe_non pa_nil))) (by rfl)) (pss_cons (ps_set (i := 7) sc__law_round.nd rfl (.inr rfl) (pe_ix ix_seq (pe_ix ix_seq (pe_ix ix_seq (pv 1) pe_int (fun _ _ => rfl)) (pe_ix ix_seq (pv 5) (pe_un un_neg pe_int) (fun _ _ => rfl)) (fun _ _ => rfl)) pe_int (fun _ _ => rfl)))
      (pss_cons (ps_expr (pe_bm PySem.F.plainAttrs_list PySem.F.slot_list_append PySem.F.type_list_append mt_append (pv 6) (pa_cons (pv 7) pa_nil)))
      (pss_cons (ps_setLc (i := 8) (own := [("_law_k", 10)]) rfl sc__law_round.nd rfl rfl (sw_true rfl rfl rfl (by decide +kernel)) (pi_list (pv 3)) (blkOk_by (N := N__law_round) (sc := defScope s__law_round) (by decide +kernel)) (fun _ _ _ _ _ => (pg_name (i := 10) sc__law_round.nd rfl (.inl rfl))) (fun _ _ _ _ _ => pts_one (pt_cmpR (op_eqD hr.units) (pe_ix ix_seq (pe_ix ix_seq (pe_ix ix_seq (pv 1) pe_int (fun _ _ => rfl)) (pv 10) (fun _ _ => rfl)) pe_int (fun _ _ => rfl)) (pv 7) (nomark _))) (fun _ _ _ _ _ => (pv 10)))
      (pss_cons (ps_if (pt_cmpR (op_eqD hr.units) (pv 8) (pe_lst pa_nil) (nomark _)) (pss_one (ps_ret (pe_lst pa_nil))) pss_nil)
      (pss_one (ps_expr (pe_bm PySem.F.plainAttrs_list PySem.F.slot_list_append PySem.F.type_list_append mt_append (pv 5) (pa_cons (C8.pe_c c__law_one hr (by decide) (by rfl) (pa_cons (pv 0) (pa_cons (pv 8) pa_nil))) pa_nil)))))))))
      (pss_cons (ps_set (i := 9) sc__law_round.nd rfl (.inl rfl) (pe_ix ix_seq (pe_ix ix_seq (pe_ix ix_seq (pv 1) pe_int (fun _ _ => rfl)) (pe_ix ix_seq (pv 5) (pe_un un_neg pe_int) (fun _ _ => rfl)) (fun _ _ => rfl)) pe_int (fun _ _ => rfl)))
      (pss_cons (ps_if (PW.pt (pw_and (pt_cmpR op_isN (pv 9) pe_non (nomark _)) (pw_and1 (pt_cmpR op_notN (pe_ix ix_seq (pe_ix ix_seq (pe_ix ix_seq (pv 1) pe_int (fun _ _ => rfl)) (pe_ix ix_seq (pv 5) pe_int (fun _ _ => rfl)) (fun _ _ => rfl)) pe_int (fun _ _ => rfl)) pe_non (nomark _))))) (pss_one (ps_ret (pe_lst pa_nil))) pss_nil)
      (pss_one (ps_ret (pe_slice sl_list (pv 5) (po_some (pe_ix ix_seq (pe_lst (pa_cons (pe_bm PySem.F.plainAttrs_list PySem.F.slot_list_index PySem.F.type_list_index mt_index (pv 6) (pa_cons (pv 9) pa_nil)) (pa_cons pe_int pa_nil))) (pe_callTy call_int1 (by rfl) B.n_int (by decide +kernel) (pa_cons (pe_cmpR op_isN (pv 9) pe_non (nomark _)) pa_nil)) (fun _ _ => rfl))) po_none)))))))))))
theorem c__law_stream (B : Bm mg) (F : Dfn K mg "_law_stream" s__law_stream ["_law_deck_here", "_law_web_here", "_law_several"]) (c__law_next : C8.Cal P w K mg base 1 "_law_next" sp__law_next []) (c__law_one : C8.Cal P w K mg base 2 "_law_one" sp__law_one []) (c__law_round : C8.Cal P w K mg base 3 "_law_round" sp__law_round []) : C8.Cal P w K mg base 4 "_law_stream" sp__law_stream [] := by
  refine cal_of F sc__law_stream (fun vs H Q E h => len_K (fun ds ⟨_, _, e, _⟩ => by subst e; rfl) h) (fun f cdv A outer s H E hr => ⟨T__law_stream K, ?_, fun vs Q h => go_stream rfl h⟩)
  exact pss_cons (ps_set (i := 3) sc__law_stream.nd rfl (.inr rfl) (pe_op op_rep (pe_lst (pa_cons pe_int pa_nil)) (pe_callB call_len_seq (by rfl) B.n_len (by decide +kernel) (pa_cons (pe_ix ix_seq (pv 1) pe_int (fun _ _ => rfl)) pa_nil))))
      (pss_cons (ps_for PassesOwn.never rfl (pi_range1 (by rfl) B.n_range (pa_cons (pv 2) pa_nil)) (pg_name (i := 4) sc__law_stream.nd rfl (.inl rfl)) (pss_cons (ps_set (i := 5) sc__law_stream.nd rfl (.inl rfl) (C8.pe_c c__law_round hr (by decide) (by rfl) (pa_cons (pv 0) (pa_cons (pv 1) (pa_cons (pv 3) pa_nil)))))
      (pss_one (ps_if (pt_cmpR (op_neD hr.units) (pv 5) (pe_lst pa_nil) (nomark _)) (pss_cons (ps_set (i := 6) sc__law_stream.nd rfl (.inl rfl) (pe_callB (cr_min rfl) (by rfl) B.n_min (by decide +kernel) (pa_cons (pe_lc (own := [("_law_k", 8)]) rfl sc__law_stream.nd (pi_list (pv 5)) (blkOk_by (N := N__law_stream) (sc := defScope s__law_stream) (by decide +kernel)) (fun _ _ _ _ _ => (pg_name (i := 8) sc__law_stream.nd rfl (.inl rfl))) (fun _ _ _ _ _ => pts_nil) (fun _ _ _ _ _ => pe_op op_sub (pe_ix ix_seq (pe_ix ix_seq (pe_ix ix_seq (pv 1) pe_int (fun _ _ => rfl)) (pv 8) (fun _ _ => rfl)) pe_int (fun _ _ => rfl)) (pe_ix ix_seq (pv 3) (pv 8) (fun _ _ => rfl)))) pa_nil)))
      (pss_cons (ps_set (i := 7) sc__law_stream.nd rfl (.inl rfl) (C8.pe_c c__law_one hr (by decide) (by rfl) (pa_cons (pv 0) (pa_cons (pe_lst (pa_cons pe_int (pa_cons (pv 6) (pa_cons (pe_op op_add pe_int (C8.pe_c c__law_next hr (by decide) (by rfl) (pa_cons (pv 0) (pa_cons (pv 6) pa_nil)))) pa_nil)))) pa_nil))))
      (pss_one (ps_for PassesOwn.never rfl (pi_list (pv 5)) (pg_name (i := 8) sc__law_stream.nd rfl (.inl rfl)) (pss_one (ps_asg (pe_op op_add (pe_ix ix_seq (pv 3) (pv 8) (fun _ _ => rfl)) (pv 7)) (pg_sub (pv 3) (pv 8) set_list))))))) pss_nil))))
      (pss_one (ps_ret (pe_callTy call_tuple_of (by rfl) B.n_tuple (by decide +kernel) (pa_cons (pv 3) pa_nil)))))
theorem s1__law_same {k : Nat} {R' R : List PD → PD → Prop} (B : Bm mg) (F : Dfn K mg "_law_same" s__law_same ["_law_found", "_law_due"]) (c__law_same : C8.Cal P w K mg base k "_law_same" (spR R') []) (len : ∀ ds d, R ds d → ds.length = 2) (ev : ∀ ds d, R ds d → Sd (T__law_same K (spR R')) (ds.map Sl.dat ++ List.replicate 1 Sl.un) (.ret d)) : C8.Cal P w K mg base (k + 1) "_law_same" (spR R) [] := by
  refine cal_of F sc__law_same (fun vs H Q E h => len_R len h) (fun f cdv A outer s H E hr => ⟨T__law_same K (spR R'), ?_, fun vs Q h => go_R 1 (fun ds d h => by rw [len ds d h]; rfl) ev h⟩)
  exact pss_cons (ps_if (pt_val (pe_callB call_isi (by rfl) B.n_isinstance (by decide +kernel) (pa_cons (pv 1) (pa_cons (pe_bltn (v := .ty "tuple") (by rfl) B.n_tuple (by decide +kernel) rfl) pa_nil)))) (pss_cons (ps_if (PW.pt (pw_or (pt_not (pt_val (pe_callB call_isi (by rfl) B.n_isinstance (by decide +kernel) (pa_cons (pv 0) (pa_cons (pe_bltn (v := .ty "tuple") (by rfl) B.n_tuple (by decide +kernel) rfl) pa_nil))))) (pw_or1 (pt_cmpR (op_neD hr.units) (pe_callB call_len_seq (by rfl) B.n_len (by decide +kernel) (pa_cons (pv 0) pa_nil)) (pe_callB call_len_seq (by rfl) B.n_len (by decide +kernel) (pa_cons (pv 1) pa_nil)) (nomark _))))) (pss_one (ps_ret pe_bl)) pss_nil)
      (pss_one (ps_ret (pe_callB (cr_all rfl) (by rfl) B.n_all (by decide +kernel) (pa_cons (pe_lc (own := [("_law_k", 2)]) rfl sc__law_same.nd (pi_range1 (by rfl) B.n_range (pa_cons (pe_callB call_len_seq (by rfl) B.n_len (by decide +kernel) (pa_cons (pv 1) pa_nil)) pa_nil)) (blkOk_by (N := N__law_same) (sc := defScope s__law_same) (by decide +kernel)) (fun _ _ _ _ _ => (pg_name (i := 2) sc__law_same.nd rfl (.inl rfl))) (fun _ _ _ _ _ => pts_nil) (fun _ _ _ _ _ => C8.pe_c c__law_same hr (Nat.le_refl _) (by rfl) (pa_cons (pe_ix ix_seq (pv 0) (pv 2) (fun _ _ => rfl)) (pa_cons (pe_ix ix_seq (pv 1) (pv 2) (fun _ _ => rfl)) pa_nil)))) pa_nil))))) pss_nil)
      (pss_cons (ps_if (pt_cmpR op_isN (pv 1) pe_non (nomark _)) (pss_one (ps_ret (pe_cmpR op_isN (pv 0) pe_non (nomark _)))) pss_nil)
      (pss_cons (ps_if (PW.pt (pw_or (pt_val (pe_callB call_isi (by rfl) B.n_isinstance (by decide +kernel) (pa_cons (pv 1) (pa_cons (pe_bltn (v := .ty "bool") (by rfl) B.n_bool (by decide +kernel) rfl) pa_nil)))) (pw_or1 (pt_val (pe_callB call_isi (by rfl) B.n_isinstance (by decide +kernel) (pa_cons (pv 0) (pa_cons (pe_bltn (v := .ty "bool") (by rfl) B.n_bool (by decide +kernel) rfl) pa_nil))))))) (pss_one (ps_ret (pe_and (pe_callB call_isi (by rfl) B.n_isinstance (by decide +kernel) (pa_cons (pv 1) (pa_cons (pe_bltn (v := .ty "bool") (by rfl) B.n_bool (by decide +kernel) rfl) pa_nil))) (pe_and (pe_callB call_isi (by rfl) B.n_isinstance (by decide +kernel) (pa_cons (pv 0) (pa_cons (pe_bltn (v := .ty "bool") (by rfl) B.n_bool (by decide +kernel) rfl) pa_nil))) (pe_one (pe_cmpR (op_eqD hr.units) (pv 0) (pv 1) (nomark _))))))) pss_nil)
      (pss_cons (ps_if (pt_val (pe_callB call_isi (by rfl) B.n_isinstance (by decide +kernel) (pa_cons (pv 1) (pa_cons (pe_bltn (v := .ty "str") (by rfl) B.n_str (by decide +kernel) rfl) pa_nil)))) (pss_one (ps_ret (pe_and (pe_callB call_isi (by rfl) B.n_isinstance (by decide +kernel) (pa_cons (pv 0) (pa_cons (pe_bltn (v := .ty "str") (by rfl) B.n_str (by decide +kernel) rfl) pa_nil))) (pe_one (pe_cmpR (op_eqD hr.units) (pv 0) (pv 1) (nomark _)))))) pss_nil)
      (pss_one (ps_ret (pe_and (pe_callB call_isi (by rfl) B.n_isinstance (by decide +kernel) (pa_cons (pv 0) (pa_cons (pe_bltn (v := .ty "int") (by rfl) B.n_int (by decide +kernel) rfl) pa_nil))) (pe_one (pe_cmpR (op_eqD hr.units) (pv 0) (pv 1) (nomark _)))))))))
theorem c__law_same (B : Bm mg) (F : Dfn K mg "_law_same" s__law_same ["_law_found", "_law_due"]) : ∀ n : Nat, C8.Cal P w K mg base (n + 1) "_law_same" (sp__law_same n) []
  | 0 => s1__law_same B F (cal_bot (k := 0) F) (fun ds d h => by obtain ⟨x, e, _⟩ := h; subst e; rfl) (fun ds d h => e_same (fun m x e _ => nomatch e) h)
  | n + 1 => s1__law_same B F (c__law_same B F n) (fun ds d h => by obtain ⟨x, e, _⟩ := h; subst e; rfl) (fun ds d h => e_same (fun m x e hp => ⟨x, rfl, by cases e; exact hp, rfl⟩) h)
theorem ok_law {f : Addr} {fd : FuncData} (B : Bm mg) (F : Fun K "law" "law" s_law f fd) (c__law_deck : C8.Cal P w K mg base 1 "_law_deck" (sp__law_deck K) []) (c__law_next : C8.Cal P w K mg base 1 "_law_next" sp__law_next []) (c__law_same : C8.Cal P w K mg base 2 "_law_same" (sp__law_same 1) []) (c__law_stream : C8.Cal P w K mg base 4 "_law_stream" sp__law_stream []) (c__law_web : C8.Cal P w K mg base 5 "_law_web" sp__law_web []) (c_streamfault : C8.Cal P w K mg base 3 "streamfault" sp_streamfault []) (c_through : C8.Cal P w K mg base 2 "through" sp_through []) (c_worth : C8.Cal P w K mg base 2 "worth" sp_worth []) : FnOk P w K mg base CX0 6 f fd ["_law_script"] (sp_law K) := by
  refine F.ok sc_law (fun vs H Q E h => by obtain ⟨s, ns, rfl, _⟩ := h; rfl) (fun cdv A outer s H vs Q E hr h => ⟨K11.T_law K, ?_, K11.go_law rfl h⟩)
  exact pss_cons (ps_set (i := 1) sc_law.nd rfl (.inl rfl) (C8.pe_c c__law_deck hr (by decide) (by rfl) (pa_cons (pv 0) pa_nil)))
      (pss_cons (ps_for PassesOwn.never rfl (pi_range1 (by rfl) B.n_range (pa_cons pe_int pa_nil)) (pg_name (i := 2) sc_law.nd rfl (.inl rfl)) (pss_cons (ps_set (i := 3) sc_law.nd rfl (.inr rfl) (C8.pe_c c__law_web hr (by decide) (by rfl) (pa_cons (pv 1) (pa_cons pe_int (pa_cons pe_int (pa_cons (pe_cmpR (op_eqD hr.units) (C8.pe_c c__law_next hr (by decide) (by rfl) (pa_cons (pv 1) (pa_cons pe_int pa_nil))) pe_int (nomark _)) pa_nil))))))
      (pss_cons (ps_par (i := 4) (j := 5) rfl sc_law.nd rfl rfl (by decide) rfl rfl (pa_cons (C8.pe_c c__law_stream hr (by decide) (by rfl) (pa_cons (pv 1) (pa_cons (pv 3) (pa_cons (C8.pe_c c__law_next hr (by decide) (by rfl) (pa_cons (pv 1) (pa_cons pe_int pa_nil))) pa_nil)))) (pa_cons (C8.pe_c c__law_stream hr (by decide) (by rfl) (pa_cons (pv 1) (pa_cons (pv 3) (pa_cons (C8.pe_c c__law_next hr (by decide) (by rfl) (pa_cons (pv 1) (pa_cons pe_int pa_nil))) pa_nil)))) pa_nil)) rfl)
      (pss_cons (ps_set (i := 6) sc_law.nd rfl (.inr rfl) (pe_callTy call_tuple_of (by rfl) B.n_tuple (by decide +kernel) (pa_cons (pe_lc (own := [("_law_a", 11), ("_law_b", 12)]) rfl sc_law.nd (RZ.pi_zipA (by rfl) B.n_zip (pa_cons (pv 4) (pa_cons (pv 5) pa_nil))) (blkOk_by (N := N_law) (sc := defScope s_law) (by decide +kernel)) (fun _ _ _ _ _ => (pg_tup rfl (pgs_cons (pg_name (i := 11) sc_law.nd rfl (.inl rfl)) (pgs_cons (pg_name (i := 12) sc_law.nd rfl (.inl rfl)) pgs_nil)))) (fun _ _ _ _ _ => pts_nil) (fun _ _ _ _ _ => pe_op op_add (pv 11) (pv 12))) pa_nil)))
      (pss_cons (ps_setLc (i := 7) (own := [("_law_k", 13)]) rfl sc_law.nd rfl rfl (sw_true rfl rfl rfl (by decide +kernel)) (pi_range1 (by rfl) B.n_range (pa_cons (pe_callB call_len_seq (by rfl) B.n_len (by decide +kernel) (pa_cons (pv 6) pa_nil)) pa_nil)) (blkOk_by (N := N_law) (sc := defScope s_law) (by decide +kernel)) (fun _ _ _ _ _ => (pg_name (i := 13) sc_law.nd rfl (.inl rfl))) (fun _ _ _ _ _ => pts_one (pt_cmpR op_gt (pe_ix ix_seq (pv 6) (pv 13) (fun _ _ => rfl)) (pe_ix ix_seq (pe_ix ix_seq (pe_ix ix_seq (pv 3) pe_int (fun _ _ => rfl)) (pv 13) (fun _ _ => rfl)) pe_int (fun _ _ => rfl)) (nomark _))) (fun _ _ _ _ _ => (pv 13)))
      (pss_cons (ps_set (i := 8) sc_law.nd rfl (.inl rfl) pe_non)
      (pss_cons (ps_if (pt_cmpR (op_neD hr.units) (pv 7) (pe_lst pa_nil) (nomark _)) (pss_one (ps_set (i := 8) sc_law.nd rfl (.inl rfl) (pe_tup (pa_cons pe_str (pa_cons (pe_ix ix_seq (pv 7) pe_int (fun _ _ => rfl)) pa_nil))))) pss_nil)
      (pss_cons (ps_if (pt_not (pt_val (C8.pe_c c__law_same hr (by decide) (by rfl) (pa_cons (C8.pe_c c_streamfault hr (by decide) (by rfl) (pa_cons (pv 3) (pa_cons (pv 6) pa_nil))) (pa_cons (pv 8) pa_nil))))) (pss_one (ps_ret pe_bl)) pss_nil)
      (pss_cons (ps_if (pt_cmpR op_isN (pv 8) pe_non (nomark _)) (pss_cons (ps_set (i := 9) sc_law.nd rfl (.inl rfl) (pe_callTy call_tuple_of (by rfl) B.n_tuple (by decide +kernel) (pa_cons (pe_lc (own := [("_law_a", 11), ("_law_b", 12)]) rfl sc_law.nd (RZ.pi_zipA (by rfl) B.n_zip (pa_cons (C8.pe_c c_through hr (by decide) (by rfl) (pa_cons (pv 3) (pa_cons (pv 4) pa_nil))) (pa_cons (C8.pe_c c_through hr (by decide) (by rfl) (pa_cons (pv 3) (pa_cons (pv 5) pa_nil))) pa_nil))) (blkOk_by (N := N_law) (sc := defScope s_law) (by decide +kernel)) (fun _ _ _ _ _ => (pg_tup rfl (pgs_cons (pg_name (i := 11) sc_law.nd rfl (.inl rfl)) (pgs_cons (pg_name (i := 12) sc_law.nd rfl (.inl rfl)) pgs_nil)))) (fun _ _ _ _ _ => pts_nil) (fun _ _ _ _ _ => pe_op op_add (pv 11) (pv 12))) pa_nil)))
      (pss_cons (ps_if (pt_not (pt_val (C8.pe_c c__law_same hr (by decide) (by rfl) (pa_cons (C8.pe_c c_through hr (by decide) (by rfl) (pa_cons (pv 3) (pa_cons (pv 6) pa_nil))) (pa_cons (pv 9) pa_nil))))) (pss_one (ps_ret pe_bl)) pss_nil)
      (pss_one (ps_if (pt_cmpR (op_neD hr.units) (C8.pe_c c_worth hr (by decide) (by rfl) (pa_cons (pv 3) (pa_cons (pv 6) pa_nil))) (pe_op op_add (C8.pe_c c_worth hr (by decide) (by rfl) (pa_cons (pv 3) (pa_cons (pv 4) pa_nil))) (C8.pe_c c_worth hr (by decide) (by rfl) (pa_cons (pv 3) (pa_cons (pv 5) pa_nil)))) (nomark _)) (pss_one (ps_ret pe_bl)) pss_nil)))) pss_nil)
      (pss_cons (ps_set (i := 10) sc_law.nd rfl (.inl rfl) (pe_callTy call_tuple_of (by rfl) B.n_tuple (by decide +kernel) (pa_cons (pe_lc (own := [("_law_a", 11), ("_law_b", 12)]) rfl sc_law.nd (RZ.pi_zipA (by rfl) B.n_zip (pa_cons (pv 4) (pa_cons (pv 5) pa_nil))) (blkOk_by (N := N_law) (sc := defScope s_law) (by decide +kernel)) (fun _ _ _ _ _ => (pg_tup rfl (pgs_cons (pg_name (i := 11) sc_law.nd rfl (.inl rfl)) (pgs_cons (pg_name (i := 12) sc_law.nd rfl (.inl rfl)) pgs_nil)))) (fun _ _ _ _ _ => pts_nil) (fun _ _ _ _ _ => pe_op op_sub (pv 11) (pv 12))) pa_nil)))
      (pss_one (ps_if (pt_cmpR (op_neD hr.units) (pe_cmpR op_isN (C8.pe_c c_streamfault hr (by decide) (by rfl) (pa_cons (pv 3) (pa_cons (pv 10) pa_nil))) pe_non (nomark _)) (pe_cmpR op_ge (pe_callB (cr_minT rfl (u65 hr)) (by rfl) B.n_min (by decide +kernel) (pa_cons (pv 10) pa_nil)) pe_int (nomark _)) (nomark _)) (pss_one (ps_ret pe_bl)) pss_nil))))))))))))
      (pss_one (ps_ret pe_bl)))
end
theorem all_mk {l : PySem.W.OpenLaw} {w : World} {K : PySem.W.Frag} {h : Heap} {mg : Str → Option Value} {fa : Addr} (X : K.In h) (G : h.Ns mainGlobals mg) (hfa : mg "law" = some (.ref fa))
    {f0 : Addr} {od0 an0 : Option Addr} {sl0 : Array (Option Value)} {oc0 kV0 dc0 pm0 cd0 ct0 : Value}
    {f1 : Addr} {od1 an1 : Option Addr} {sl1 : Array (Option Value)} {oc1 kV1 dc1 pm1 cd1 ct1 : Value}
    {f2 : Addr} {od2 an2 : Option Addr} {sl2 : Array (Option Value)} {oc2 kV2 dc2 pm2 cd2 ct2 : Value}
    {f3 : Addr} {od3 an3 : Option Addr} {sl3 : Array (Option Value)} {oc3 kV3 dc3 pm3 cd3 ct3 : Value}
    {f4 : Addr} {od4 an4 : Option Addr} {sl4 : Array (Option Value)} {oc4 kV4 dc4 pm4 cd4 ct4 : Value}
    {f5 : Addr} {od5 an5 : Option Addr} {sl5 : Array (Option Value)} {oc5 kV5 dc5 pm5 cd5 ct5 : Value}
    {f6 : Addr} {od6 an6 : Option Addr} {sl6 : Array (Option Value)} {oc6 kV6 dc6 pm6 cd6 ct6 : Value}
    {f7 : Addr} {od7 an7 : Option Addr} {sl7 : Array (Option Value)} {oc7 kV7 dc7 pm7 cd7 ct7 : Value}
    {f8 : Addr} {od8 an8 : Option Addr} {sl8 : Array (Option Value)} {oc8 kV8 dc8 pm8 cd8 ct8 : Value}
    {f9 : Addr} {od9 an9 : Option Addr} {sl9 : Array (Option Value)} {oc9 kV9 dc9 pm9 cd9 ct9 : Value}
    {f10 : Addr} {od10 an10 : Option Addr} {sl10 : Array (Option Value)} {oc10 kV10 dc10 pm10 cd10 ct10 : Value}
    {f11 : Addr} {od11 an11 : Option Addr} {sl11 : Array (Option Value)} {oc11 kV11 dc11 pm11 cd11 ct11 : Value}
    {f12 : Addr} {od12 an12 : Option Addr} {sl12 : Array (Option Value)} {oc12 kV12 dc12 pm12 cd12 ct12 : Value}
    {f13 : Addr} {od13 an13 : Option Addr} {sl13 : Array (Option Value)} {oc13 kV13 dc13 pm13 cd13 ct13 : Value}
    {f14 : Addr} {od14 an14 : Option Addr} {sl14 : Array (Option Value)} {oc14 kV14 dc14 pm14 cd14 ct14 : Value}
    {f15 : Addr} {od15 an15 : Option Addr} {sl15 : Array (Option Value)} {oc15 kV15 dc15 pm15 cd15 ct15 : Value}
    {f16 : Addr} {od16 an16 : Option Addr} {sl16 : Array (Option Value)} {oc16 kV16 dc16 pm16 cd16 ct16 : Value}
    {f17 : Addr} {od17 an17 : Option Addr} {sl17 : Array (Option Value)} {oc17 kV17 dc17 pm17 cd17 ct17 : Value}
    {f18 : Addr} {od18 an18 : Option Addr} {sl18 : Array (Option Value)} {oc18 kV18 dc18 pm18 cd18 ct18 : Value}
    (a0 : PySem.W.nsIn K mainGlobals "is_number" = some (some (.ref f0))) (l0 : K.lookup f0 = some ⟨oc0, od0, .func (PySem.W.fnOf "is_number" "is_number" (defArgs s_is_number) (defBody s_is_number) (defScope s_is_number) .none kV0 dc0 pm0 an0 cd0 ct0), sl0⟩) (c0 : PySem.W.codeIn K cd0 "is_number" = true) (k0 : PySem.W.keepIn K (.ref f0) = true)
    (a1 : PySem.W.nsIn K mainGlobals "is_tuple_of" = some (some (.ref f1))) (l1 : K.lookup f1 = some ⟨oc1, od1, .func (PySem.W.fnOf "is_tuple_of" "is_tuple_of" (defArgs s_is_tuple_of) (defBody s_is_tuple_of) (defScope s_is_tuple_of) .none kV1 dc1 pm1 an1 cd1 ct1), sl1⟩) (c1 : PySem.W.codeIn K cd1 "is_tuple_of" = true) (k1 : PySem.W.keepIn K (.ref f1) = true)
    (a2 : PySem.W.nsIn K mainGlobals "borne" = some (some (.ref f2))) (l2 : K.lookup f2 = some ⟨oc2, od2, .func (PySem.W.fnOf "borne" "borne" (defArgs s_borne) (defBody s_borne) (defScope s_borne) .none kV2 dc2 pm2 an2 cd2 ct2), sl2⟩) (c2 : PySem.W.codeIn K cd2 "borne" = true) (k2 : PySem.W.keepIn K (.ref f2) = true)
    (a3 : PySem.W.nsIn K mainGlobals "in_doors" = some (some (.ref f3))) (l3 : K.lookup f3 = some ⟨oc3, od3, .func (PySem.W.fnOf "in_doors" "in_doors" (defArgs s_in_doors) (defBody s_in_doors) (defScope s_in_doors) .none kV3 dc3 pm3 an3 cd3 ct3), sl3⟩) (c3 : PySem.W.codeIn K cd3 "in_doors" = true) (k3 : PySem.W.keepIn K (.ref f3) = true)
    (a4 : PySem.W.nsIn K mainGlobals "is_form" = some (some (.ref f4))) (l4 : K.lookup f4 = some ⟨oc4, od4, .func (PySem.W.fnOf "is_form" "is_form" (defArgs s_is_form) (defBody s_is_form) (defScope s_is_form) .none kV4 dc4 pm4 an4 cd4 ct4), sl4⟩) (c4 : PySem.W.codeIn K cd4 "is_form" = true) (k4 : PySem.W.keepIn K (.ref f4) = true)
    (a5 : PySem.W.nsIn K mainGlobals "streamfault" = some (some (.ref f5))) (l5 : K.lookup f5 = some ⟨oc5, od5, .func (PySem.W.fnOf "streamfault" "streamfault" (defArgs s_streamfault) (defBody s_streamfault) (defScope s_streamfault) .none kV5 dc5 pm5 an5 cd5 ct5), sl5⟩) (c5 : PySem.W.codeIn K cd5 "streamfault" = true) (k5 : PySem.W.keepIn K (.ref f5) = true)
    (a6 : PySem.W.nsIn K mainGlobals "through" = some (some (.ref f6))) (l6 : K.lookup f6 = some ⟨oc6, od6, .func (PySem.W.fnOf "through" "through" (defArgs s_through) (defBody s_through) (defScope s_through) .none kV6 dc6 pm6 an6 cd6 ct6), sl6⟩) (c6 : PySem.W.codeIn K cd6 "through" = true) (k6 : PySem.W.keepIn K (.ref f6) = true)
    (a7 : PySem.W.nsIn K mainGlobals "worth" = some (some (.ref f7))) (l7 : K.lookup f7 = some ⟨oc7, od7, .func (PySem.W.fnOf "worth" "worth" (defArgs s_worth) (defBody s_worth) (defScope s_worth) .none kV7 dc7 pm7 an7 cd7 ct7), sl7⟩) (c7 : PySem.W.codeIn K cd7 "worth" = true) (k7 : PySem.W.keepIn K (.ref f7) = true)
    (a8 : PySem.W.nsIn K mainGlobals "_law_deck" = some (some (.ref f8))) (l8 : K.lookup f8 = some ⟨oc8, od8, .func (PySem.W.fnOf "_law_deck" "_law_deck" (defArgs s__law_deck) (defBody s__law_deck) (defScope s__law_deck) .none kV8 dc8 pm8 an8 cd8 ct8), sl8⟩) (c8 : PySem.W.codeIn K cd8 "_law_deck" = true) (k8 : PySem.W.keepIn K (.ref f8) = true)
    (a9 : PySem.W.nsIn K mainGlobals "_law_next" = some (some (.ref f9))) (l9 : K.lookup f9 = some ⟨oc9, od9, .func (PySem.W.fnOf "_law_next" "_law_next" (defArgs s__law_next) (defBody s__law_next) (defScope s__law_next) .none kV9 dc9 pm9 an9 cd9 ct9), sl9⟩) (c9 : PySem.W.codeIn K cd9 "_law_next" = true) (k9 : PySem.W.keepIn K (.ref f9) = true)
    (a10 : PySem.W.nsIn K mainGlobals "_law_one" = some (some (.ref f10))) (l10 : K.lookup f10 = some ⟨oc10, od10, .func (PySem.W.fnOf "_law_one" "_law_one" (defArgs s__law_one) (defBody s__law_one) (defScope s__law_one) .none kV10 dc10 pm10 an10 cd10 ct10), sl10⟩) (c10 : PySem.W.codeIn K cd10 "_law_one" = true) (k10 : PySem.W.keepIn K (.ref f10) = true)
    (a11 : PySem.W.nsIn K mainGlobals "_law_room" = some (some (.ref f11))) (l11 : K.lookup f11 = some ⟨oc11, od11, .func (PySem.W.fnOf "_law_room" "_law_room" (defArgs s__law_room) (defBody s__law_room) (defScope s__law_room) .none kV11 dc11 pm11 an11 cd11 ct11), sl11⟩) (c11 : PySem.W.codeIn K cd11 "_law_room" = true) (k11 : PySem.W.keepIn K (.ref f11) = true)
    (a12 : PySem.W.nsIn K mainGlobals "_law_order" = some (some (.ref f12))) (l12 : K.lookup f12 = some ⟨oc12, od12, .func (PySem.W.fnOf "_law_order" "_law_order" (defArgs s__law_order) (defBody s__law_order) (defScope s__law_order) .none kV12 dc12 pm12 an12 cd12 ct12), sl12⟩) (c12 : PySem.W.codeIn K cd12 "_law_order" = true) (k12 : PySem.W.keepIn K (.ref f12) = true)
    (a13 : PySem.W.nsIn K mainGlobals "_law_road" = some (some (.ref f13))) (l13 : K.lookup f13 = some ⟨oc13, od13, .func (PySem.W.fnOf "_law_road" "_law_road" (defArgs s__law_road) (defBody s__law_road) (defScope s__law_road) .none kV13 dc13 pm13 an13 cd13 ct13), sl13⟩) (c13 : PySem.W.codeIn K cd13 "_law_road" = true) (k13 : PySem.W.keepIn K (.ref f13) = true)
    (a14 : PySem.W.nsIn K mainGlobals "_law_web" = some (some (.ref f14))) (l14 : K.lookup f14 = some ⟨oc14, od14, .func (PySem.W.fnOf "_law_web" "_law_web" (defArgs s__law_web) (defBody s__law_web) (defScope s__law_web) .none kV14 dc14 pm14 an14 cd14 ct14), sl14⟩) (c14 : PySem.W.codeIn K cd14 "_law_web" = true) (k14 : PySem.W.keepIn K (.ref f14) = true)
    (a15 : PySem.W.nsIn K mainGlobals "_law_round" = some (some (.ref f15))) (l15 : K.lookup f15 = some ⟨oc15, od15, .func (PySem.W.fnOf "_law_round" "_law_round" (defArgs s__law_round) (defBody s__law_round) (defScope s__law_round) .none kV15 dc15 pm15 an15 cd15 ct15), sl15⟩) (c15 : PySem.W.codeIn K cd15 "_law_round" = true) (k15 : PySem.W.keepIn K (.ref f15) = true)
    (a16 : PySem.W.nsIn K mainGlobals "_law_stream" = some (some (.ref f16))) (l16 : K.lookup f16 = some ⟨oc16, od16, .func (PySem.W.fnOf "_law_stream" "_law_stream" (defArgs s__law_stream) (defBody s__law_stream) (defScope s__law_stream) .none kV16 dc16 pm16 an16 cd16 ct16), sl16⟩) (c16 : PySem.W.codeIn K cd16 "_law_stream" = true) (k16 : PySem.W.keepIn K (.ref f16) = true)
    (a17 : PySem.W.nsIn K mainGlobals "_law_same" = some (some (.ref f17))) (l17 : K.lookup f17 = some ⟨oc17, od17, .func (PySem.W.fnOf "_law_same" "_law_same" (defArgs s__law_same) (defBody s__law_same) (defScope s__law_same) .none kV17 dc17 pm17 an17 cd17 ct17), sl17⟩) (c17 : PySem.W.codeIn K cd17 "_law_same" = true) (k17 : PySem.W.keepIn K (.ref f17) = true)
    (a18 : PySem.W.nsIn K mainGlobals "law" = some (some (.ref f18))) (l18 : K.lookup f18 = some ⟨oc18, od18, .func (PySem.W.fnOf "law" "law" (defArgs s_law) (defBody s_law) (defScope s_law) .none kV18 dc18 pm18 an18 cd18 ct18), sl18⟩) (c18 : PySem.W.codeIn K cd18 "law" = true) (k18 : PySem.W.keepIn K (.ref f18) = true)
    (z_len : PySem.W.nsIn K mainGlobals "len" = some none)
    (z_range : PySem.W.nsIn K mainGlobals "range" = some none)
    (z_tuple : PySem.W.nsIn K mainGlobals "tuple" = some none)
    (z_list : PySem.W.nsIn K mainGlobals "list" = some none)
    (z_int : PySem.W.nsIn K mainGlobals "int" = some none)
    (z_bool : PySem.W.nsIn K mainGlobals "bool" = some none)
    (z_str : PySem.W.nsIn K mainGlobals "str" = some none)
    (z_dict : PySem.W.nsIn K mainGlobals "dict" = some none)
    (z_set : PySem.W.nsIn K mainGlobals "set" = some none)
    (z_abs : PySem.W.nsIn K mainGlobals "abs" = some none)
    (z_sum : PySem.W.nsIn K mainGlobals "sum" = some none)
    (z_all : PySem.W.nsIn K mainGlobals "all" = some none)
    (z_any : PySem.W.nsIn K mainGlobals "any" = some none)
    (z_min : PySem.W.nsIn K mainGlobals "min" = some none)
    (z_max : PySem.W.nsIn K mainGlobals "max" = some none)
    (z_sorted : PySem.W.nsIn K mainGlobals "sorted" = some none)
    (z_zip : PySem.W.nsIn K mainGlobals "zip" = some none)
    (z_enumerate : PySem.W.nsIn K mainGlobals "enumerate" = some none)
    (z_reversed : PySem.W.nsIn K mainGlobals "reversed" = some none)
    (z_isinstance : PySem.W.nsIn K mainGlobals "isinstance" = some none) :
    ∃ fd : FuncData, (∀ (s : Shared) (v : Value), BindsTo s fd ⟨[v], []⟩ [("_law_script", v)]) ∧ ∀ base : Heap, K.In base → base.Ns mainGlobals mg → FnOk l.prog w K mg base CX0 6 fa fd ["_law_script"] (sp_law K) := by
  have e := hfa.symm.trans (PySem.W.mg_of X G a18)
  cases e
  have B : Bm mg := ⟨PySem.W.mg_none_of X G z_len, PySem.W.mg_none_of X G z_range, PySem.W.mg_none_of X G z_tuple, PySem.W.mg_none_of X G z_list, PySem.W.mg_none_of X G z_int, PySem.W.mg_none_of X G z_bool, PySem.W.mg_none_of X G z_str, PySem.W.mg_none_of X G z_dict, PySem.W.mg_none_of X G z_set, PySem.W.mg_none_of X G z_abs, PySem.W.mg_none_of X G z_sum, PySem.W.mg_none_of X G z_all, PySem.W.mg_none_of X G z_any, PySem.W.mg_none_of X G z_min, PySem.W.mg_none_of X G z_max, PySem.W.mg_none_of X G z_sorted, PySem.W.mg_none_of X G z_zip, PySem.W.mg_none_of X G z_enumerate, PySem.W.mg_none_of X G z_reversed, PySem.W.mg_none_of X G z_isinstance⟩
  have D0 : Dfn K mg "is_number" s_is_number ["thing"] := dfn_mk X G a0 l0 c0 k0 fun _ _ _ _ _ _ us hl => match us, hl with | [_], _ => rfl
  have D1 : Dfn K mg "is_tuple_of" s_is_tuple_of ["thing", "least", "most"] := dfn_mk X G a1 l1 c1 k1 fun _ _ _ _ _ _ us hl => match us, hl with | [_, _, _], _ => rfl
  have D2 : Dfn K mg "borne" s_borne ["bears", "numbers"] := dfn_mk X G a2 l2 c2 k2 fun _ _ _ _ _ _ us hl => match us, hl with | [_, _], _ => rfl
  have D3 : Dfn K mg "in_doors" s_in_doors ["web"] := dfn_mk X G a3 l3 c3 k3 fun _ _ _ _ _ _ us hl => match us, hl with | [_], _ => rfl
  have D4 : Dfn K mg "is_form" s_is_form ["thing", "many"] := dfn_mk X G a4 l4 c4 k4 fun _ _ _ _ _ _ us hl => match us, hl with | [_, _], _ => rfl
  have D5 : Dfn K mg "streamfault" s_streamfault ["web", "thing"] := dfn_mk X G a5 l5 c5 k5 fun _ _ _ _ _ _ us hl => match us, hl with | [_, _], _ => rfl
  have D6 : Dfn K mg "through" s_through ["web", "stream"] := dfn_mk X G a6 l6 c6 k6 fun _ _ _ _ _ _ us hl => match us, hl with | [_, _], _ => rfl
  have D7 : Dfn K mg "worth" s_worth ["web", "stream"] := dfn_mk X G a7 l7 c7 k7 fun _ _ _ _ _ _ us hl => match us, hl with | [_, _], _ => rfl
  have D8 : Dfn K mg "_law_deck" s__law_deck ["_law_script"] := dfn_mk X G a8 l8 c8 k8 fun _ _ _ _ _ _ us hl => match us, hl with | [_], _ => rfl
  have D9 : Dfn K mg "_law_next" s__law_next ["_law_deck_here", "_law_many"] := dfn_mk X G a9 l9 c9 k9 fun _ _ _ _ _ _ us hl => match us, hl with | [_, _], _ => rfl
  have D10 : Dfn K mg "_law_one" s__law_one ["_law_deck_here", "_law_some"] := dfn_mk X G a10 l10 c10 k10 fun _ _ _ _ _ _ us hl => match us, hl with | [_, _], _ => rfl
  have D11 : Dfn K mg "_law_room" s__law_room ["_law_deck_here", "_law_far"] := dfn_mk X G a11 l11 c11 k11 fun _ _ _ _ _ _ us hl => match us, hl with | [_, _], _ => rfl
  have D12 : Dfn K mg "_law_order" s__law_order ["_law_deck_here", "_law_numbers"] := dfn_mk X G a12 l12 c12 k12 fun _ _ _ _ _ _ us hl => match us, hl with | [_, _], _ => rfl
  have D13 : Dfn K mg "_law_road" s__law_road ["_law_deck_here", "_law_houses", "_law_far"] := dfn_mk X G a13 l13 c13 k13 fun _ _ _ _ _ _ us hl => match us, hl with | [_, _, _], _ => rfl
  have D14 : Dfn K mg "_law_web" s__law_web ["_law_deck_here", "_law_houses", "_law_roads", "_law_far"] := dfn_mk X G a14 l14 c14 k14 fun _ _ _ _ _ _ us hl => match us, hl with | [_, _, _, _], _ => rfl
  have D15 : Dfn K mg "_law_round" s__law_round ["_law_deck_here", "_law_web_here", "_law_bears"] := dfn_mk X G a15 l15 c15 k15 fun _ _ _ _ _ _ us hl => match us, hl with | [_, _, _], _ => rfl
  have D16 : Dfn K mg "_law_stream" s__law_stream ["_law_deck_here", "_law_web_here", "_law_several"] := dfn_mk X G a16 l16 c16 k16 fun _ _ _ _ _ _ us hl => match us, hl with | [_, _, _], _ => rfl
  have D17 : Dfn K mg "_law_same" s__law_same ["_law_found", "_law_due"] := dfn_mk X G a17 l17 c17 k17 fun _ _ _ _ _ _ us hl => match us, hl with | [_, _], _ => rfl
  refine ⟨PySem.W.fnOf "law" "law" (defArgs s_law) (defBody s_law) (defScope s_law) .none kV18 dc18 pm18 an18 cd18 ct18, fun s v => .of_eq rfl, fun base _ _ => ?_⟩
  have C_is_number := c_is_number (P := l.prog) (w := w) (base := base) B D0 
  have C_is_tuple_of := c_is_tuple_of (P := l.prog) (w := w) (base := base) B D1 
  have C_borne := c_borne (P := l.prog) (w := w) (base := base) B D2 
  have C_in_doors := c_in_doors (P := l.prog) (w := w) (base := base) B D3 
  have C_is_form := c_is_form (P := l.prog) (w := w) (base := base) B D4 C_is_number C_is_tuple_of
  have C_streamfault := c_streamfault (P := l.prog) (w := w) (base := base) B D5 C_borne C_is_form
  have C_through := c_through (P := l.prog) (w := w) (base := base) B D6 C_borne
  have C_worth := c_worth (P := l.prog) (w := w) (base := base) B D7 C_borne C_in_doors
  have C__law_deck := c__law_deck (P := l.prog) (w := w) (base := base) B D8 
  have C__law_next := c__law_next (P := l.prog) (w := w) (base := base) B D9 
  have C__law_one := c__law_one (P := l.prog) (w := w) (base := base) B D10 C__law_next
  have C__law_room := c__law_room (P := l.prog) (w := w) (base := base) B D11 C__law_next C__law_one
  have C__law_order := c__law_order (P := l.prog) (w := w) (base := base) B D12 C__law_next
  have C__law_road := c__law_road (P := l.prog) (w := w) (base := base) B D13 C__law_next C__law_room
  have C__law_web := c__law_web (P := l.prog) (w := w) (base := base) B D14 C__law_next C__law_order C__law_road
  have C__law_round := c__law_round (P := l.prog) (w := w) (base := base) B D15 C__law_next C__law_one
  have C__law_stream := c__law_stream (P := l.prog) (w := w) (base := base) B D16 C__law_next C__law_one C__law_round
  have C__law_same := c__law_same (P := l.prog) (w := w) (base := base) B D17
  exact ok_law B (fun_mk (st := s_law) l18 c18 k18) C__law_deck C__law_next (C__law_same 1) C__law_stream C__law_web C_streamfault C_through C_worth
end Row
open PySem PySem.W PyProof.Rows
set_option maxHeartbeats 0 in
theorem PySem.Challenge.cw_unturned_k11_whole_streams_added_holds : PySem.Challenge.rw_unturned_k11_whole_streams_added.Holds := by
  w_on; o_law; k_head; (case hw => w_witness2)
  k_fill
  refine L2.walk_of (l := PySem.Challenge.rw_unturned_k11_whole_streams_added) (n := 63) (k := 6) (x := "_law_script") (CX := fun _ => L2.CX0) (sp := fun w => Un.sp_law _) rfl (by decide) rfl ⟨rfl, by decide, by decide⟩ (fun w h Y => PySem.W.kIn_of Y) ?F (fun _ _ a ns hl _ hS => ⟨a, ns, rfl, hS, hl, fun _ => rfl⟩) (fun _ _ _ _ _ h => h)
  case F =>
    intro w mg fa h KX G hmg
    refine' Row.all_mk KX G hmg ?a0 ?l0 ?c0 ?k0 ?a1 ?l1 ?c1 ?k1 ?a2 ?l2 ?c2 ?k2 ?a3 ?l3 ?c3 ?k3 ?a4 ?l4 ?c4 ?k4 ?a5 ?l5 ?c5 ?k5 ?a6 ?l6 ?c6 ?k6 ?a7 ?l7 ?c7 ?k7 ?a8 ?l8 ?c8 ?k8 ?a9 ?l9 ?c9 ?k9 ?a10 ?l10 ?c10 ?k10 ?a11 ?l11 ?c11 ?k11 ?a12 ?l12 ?c12 ?k12 ?a13 ?l13 ?c13 ?k13 ?a14 ?l14 ?c14 ?k14 ?a15 ?l15 ?c15 ?k15 ?a16 ?l16 ?c16 ?k16 ?a17 ?l17 ?c17 ?k17 ?a18 ?l18 ?c18 ?k18 ?z_len ?z_range ?z_tuple ?z_list ?z_int ?z_bool ?z_str ?z_dict ?z_set ?z_abs ?z_sum ?z_all ?z_any ?z_min ?z_max ?z_sorted ?z_zip ?z_enumerate ?z_reversed ?z_isinstance
    (case a0 => k_is); (case l0 => k_is); (case c0 => k_is); (case k0 => k_is); (case a1 => k_is); (case l1 => k_is); (case c1 => k_is); (case k1 => k_is); (case a2 => k_is); (case l2 => k_is); (case c2 => k_is); (case k2 => k_is); (case a3 => k_is); (case l3 => k_is); (case c3 => k_is); (case k3 => k_is); (case a4 => k_is); (case l4 => k_is); (case c4 => k_is); (case k4 => k_is); (case a5 => k_is); (case l5 => k_is); (case c5 => k_is); (case k5 => k_is); (case a6 => k_is); (case l6 => k_is); (case c6 => k_is); (case k6 => k_is); (case a7 => k_is); (case l7 => k_is); (case c7 => k_is); (case k7 => k_is); (case a8 => k_is); (case l8 => k_is); (case c8 => k_is); (case k8 => k_is); (case a9 => k_is); (case l9 => k_is); (case c9 => k_is); (case k9 => k_is); (case a10 => k_is); (case l10 => k_is); (case c10 => k_is); (case k10 => k_is); (case a11 => k_is); (case l11 => k_is); (case c11 => k_is); (case k11 => k_is); (case a12 => k_is); (case l12 => k_is); (case c12 => k_is); (case k12 => k_is); (case a13 => k_is); (case l13 => k_is); (case c13 => k_is); (case k13 => k_is); (case a14 => k_is); (case l14 => k_is); (case c14 => k_is); (case k14 => k_is); (case a15 => k_is); (case l15 => k_is); (case c15 => k_is); (case k15 => k_is); (case a16 => k_is); (case l16 => k_is); (case c16 => k_is); (case k16 => k_is); (case a17 => k_is); (case l17 => k_is); (case c17 => k_is); (case k17 => k_is); (case a18 => k_is); (case l18 => k_is); (case c18 => k_is); (case k18 => k_is); (case z_len => k_is); (case z_range => k_is); (case z_tuple => k_is); (case z_list => k_is); (case z_int => k_is); (case z_bool => k_is); (case z_str => k_is); (case z_dict => k_is); (case z_set => k_is); (case z_abs => k_is); (case z_sum => k_is); (case z_all => k_is); (case z_any => k_is); (case z_min => k_is); (case z_max => k_is); (case z_sorted => k_is); (case z_zip => k_is); (case z_enumerate => k_is); (case z_reversed => k_is); (case z_isinstance => k_is)
