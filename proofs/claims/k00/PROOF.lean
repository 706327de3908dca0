import PyProof.Rows.All
import Wide.All
import OpenK.AllK
import Wide.FinOn
import HandS.ForMost
import HandS.SortInts
import HandS.Zip0
import HandS.Conv
import HandS.RevRange
import PyProof.Draws
import HandS.Style
import KE.KRevSl
import HandS.RevTup
import HandS.Strs
import HandS.TupAny
import HandS.IsInst
import HandS.Wide
import HandS.Evl
import HandS.Zip
import HandS.Rev
import HandS.Flow
import HandS.Exc
import HandS.ExcOwn
import HandS.TryOnly
import HandS.WordsExc
import HandS.HotCalls
import HandS.ExcCtx
import HandS.Walk
import HandS.Iter
import HandS.Comp
import HandS.ExcIs
import HandS.CallSlots
import HandS.CallLocal
import HandS.Lambda
import HandS.EndOwn
import KE.KNestM
import PySem.Challenge.RW_wiredorders_k00_orders_and_what_comes_of
set_option Elab.async false
set_option linter.all false
set_option maxRecDepth 100000
/-! WoR -/
namespace WoR
open PySem PySem.Spec
    PyProof.Rows L2
section
variable {prog : Program} {w : World} {A : Around} {E
    : Value → Shared → Prop} {s : Shared}
def gath (g : Heap) (us : List Value) : Heap := (g.push (seqObj "list" #[] 0)).update g.objs.size (Obj.mapSeq (· ++ us.toArray))
theorem collect_tup {tp : Addr} {us : List Value} {Z : List Value → Shared → Prop} (ht : IsTup s.heap tp us.toArray) (hz : us.length ≤ sizeLine)
    (q : Z us { s with heap := gath s.heap us }) : wpAny (model prog w) A (collect (.ref tp)) Z E s := by
  obtain ⟨ob, e1, e2, m, e3⟩ := id ht
  unfold collect
  refine wpAny_bind (wpAny_runValue (codeAny_builtin
      entry_proto_collect' ?_))
  show wpAny _ _ (do
    again (.builtin "list.__iadd__" ⟨[← newList [], .ref tp], []⟩)) _ _ s
  refine wpAny_bind
    (wpAny_newList (wpAny_pure ⟨Code.quiet_builtin _ (by decide +kernel), codeAny_builtin entry_list_iadd' ?_⟩))
  show wpAny _ _ (Builtin.List.listExtendWith (.ref s.heap.objs.size) (.ref tp) (.ref s.heap.objs.size)) _ _
    { s with heap := s.heap.push (seqObj "list" #[] 0) }
  unfold
    Builtin.List.listExtendWith
  have e1' : (s.heap.push (seqObj "list" #[] 0)).get? tp = some ob := Heap.get?_push_of_some _ e1
  refine wpAny_bind (wpAny_typeOf (T := "tuple") ⟨ob, e1', e2⟩ ?_)
  have hty : (Value.type "tuple" == Value.type "tuple") = true := by rfl
  rw [if_pos (by rw [hty]; simp)]
  refine wpAny_bind (listItems_at e1' e3 ?_)
  refine wpAny_bind
    (listItems_at (xs := #[]) (n := 0) (Heap.get?_push_size _ rfl) rfl ?_)
  rw [if_neg (by simp)]
  refine wpAny_bind (listUpdate_at (xs := #[]) (n := 0)
    (Heap.get?_push_size _ rfl) rfl ?_ (Nat.zero_le _)
    (by show (#[] ++ us.toArray).size ≤ sizeLine + 1; simp only [Array.size_append, List.size_toArray, List.length_nil]; omega))
  refine wpAny_pure ?_
  show wpAny (model
      prog w) A (do
      let ld ← load s.heap.objs.size
      match ld.data with
      | .seq ys _ => pure ys.toList
      | _ => unsupported "internal:collect") Z E { s with heap := gath s.heap us }
  refine wpAny_bind (wpAny_load (get?_update_seq
      (Heap.get?_push_size _ rfl) _) ?_)
  show wpAny _ _ (pure ((#[] : Array Value) ++ us.toArray).toList) Z E _
  rw [show ((#[] : Array Value) ++ us.toArray).toList = us by simp]
  exact wpAny_pure q
theorem sorted_tup {tp : Addr} {us : List Value} {ltv : Value → Value → Bool} {Z : Value → Shared → Prop} (O : SrtO.Swo ltv) (ht : IsTup s.heap tp us.toArray) (hz : us.length ≤ sizeLine)
    (hS : 2 ≤ us.length → ∀ (g : Heap) (a : Addr), SrtO.SortableO prog w A.in1.in1 { s with heap := g } a us ltv)
    (q : ∀ out : List Value, SrtO.Srtd ltv out → SrtO.Stb ltv out us → Z (.ref (s.heap.objs.size + 1)) { s with heap := sortedAll s.heap us out.toArray }) :
    wpAny (model prog w) A (call (.builtin "sorted") [.ref tp]) Z E s := by
  refine Calls.call_function_entry kind_sorted
      plain_sorted entry_sorted (args_sorted1 _) ?_
  unfold Builtin.«sorted»
  refine wpAny_bind (m := checkCount
      "sorted" 1 1 _) (wpAny_pure ?_)
  refine wpAny_bind (collect_tup ht hz ?_)
  refine wpAny_bind
      (wpAny_newList ?_ hz)
  have n1 : (gath s.heap us).objs.size = s.heap.objs.size + 1 := by
    unfold gath
    rw [Heap.size_update,
        size_push']
  have n2 : ((gath s.heap us).push (seqObj "list" us.toArray 0)).get? (s.heap.objs.size + 1) = some (seqObj "list" us.toArray 0) := by
    rw [← n1]
    exact Heap.get?_push_size
        _ rfl
  show wpAny _ _ _ _ _ { s with heap := (gath s.heap us).push (seqObj "list" us.toArray 0) }
  rw [n1]
  refine wpAny_bind (wpAny_holding (wpAny_call_entry slot_list_sort ⟨_, n2, rfl⟩ entry_list_sort
    (SrtO.list_sort_ord O n2 hz (fun h2 => hS h2 _ _) fun out hs hb => ⟨_, rfl, ?_⟩) (args_list_sort _)))
  exact wpAny_pure ⟨_, rfl, q out hs hb⟩
end
/-- sorted of a tuple of ints -/
def rSrtT (K : PySem.W.Frag) : List V → Hp → VK → Prop := fun vs H Q => ∃ (a : Addr) (ns : List Int), vs = [V.ref a] ∧ SqT K H a (ns.map V.int) ∧
  ∀ (ms : List Int) (p : Addr), ms.Perm ns → ms.Pairwise (· ≤ ·) → H p = none → Q (.ref p) (upd H p (.lst (ms.map V.int)))
theorem cr_srtT {X : Cx} : CallR X (.builtin "sorted") (rSrtT X.K) := by
  intro pins s σ H
      vs us Q I r h
  obtain ⟨a, ns, rfl,
      hs, q⟩ := h
  obtain ⟨its, rv, pl,
      hz⟩ := I.tuple hs
  rw [Vals.ref1 r]
  have hi := rv.ints
  refine sorted_tup SrtO.swo_int pl (by rw [← rv.length]; exact hz) (fun h2 _ _ => SrtO.ints_sortable hi h2) fun out k1 k2 => ?_
  obtain ⟨z1, z2, z3⟩ := SrtO.ints_out hi k1 k2
  obtain ⟨ep, he⟩ := PyProof.Rows.sortedAll_at s.heap its out.toArray
  have hl : ((out.map SrtO.iv).map V.int).length ≤ sizeLine := by
    rw [List.length_map, z2.length_eq]
    rw [List.length_map] at hz
    exact hz
  refine ⟨.ref _, upd H (s.heap.objs.size + 1) (.lst ((out.map SrtO.iv).map V.int)), ?_, rfl, q _ _ z2 z3 (I.hok.fresh (Nat.le_succ _))⟩
  exact I.laid (t' := s.toks) (fun _ _ => PyProof.Rows.sortedAll_old) (Nat.le_succ _) ⟨hl, out, ep, vals_of_ints z1, he⟩
/-! enumerate of a tuple -/
section
variable {prog : Program} {w : World} {A : Around} {E
    : Value → Shared → Prop} {s : Shared}
theorem tup_draws {it tp : Addr} {us : Array Value} (hh : A.handled = none) :
    Draws prog w A it [it, tp] us.size (fun i v => us[i]? = some v) (fun i g => g.IsTupleIter it tp i ∧ g.IsTuple tp us) where
  live := fun i g st => let ⟨⟨o, e, _⟩, _⟩ := st; ⟨o, e⟩
  frame := fun i g g' st k => by
    obtain ⟨⟨o, e, r⟩, o2, e2, r2⟩ := st
    exact ⟨⟨o, k it (by simp) o e, r⟩, o2, k tp (by simp) o2 e2, r2⟩
  item := fun i s Q E hi st q => by
    obtain ⟨h1, h2⟩ := st
    have hne : tp ≠ it := fun z => by
      obtain ⟨o, e, c, _⟩ := h1
      obtain ⟨o2, e2, c2, _⟩ := h2
      rw [z, e] at e2
      cases e2
      rw [c] at c2
      revert c2
      decide
    exact RZ.nextOf_tuple_item h1 h2 (x := us[i]) (by simp [hi]) fun g' h1' sb => q _ g' s.toks (by simp [hi]) ⟨h1', h2.extBut sb.extBut hne⟩ sb
  done := fun s Q E st q => RZ.nextOf_tuple_end hh st.1 st.2 (by simp) q
end
def IteT (K : PySem.W.Frag) (a : Addr) : It where
  go := fun i H => ∃ (xs : List V) (x : V), SqT K H a xs ∧ xs[i]? = some x
  yld := fun i H v H' => ∃ T x, v = .ref T ∧ H T = none ∧ H' = upd H T (.tup [.int (i : Nat), x]) ∧ ∀ xs, SqT K H a xs → xs[i]? = some x
  stop := fun i H => ∃ xs : List V, SqT K H a xs ∧ xs.length = i
theorem turn_enumT {P : Program} {w : World} {K : PySem.W.Frag} {elts : List Expr} {kk : Nat} {tpos : Pos} (a en it : Addr) :
    Turn P w K (.Tuple elts kk tpos) (IteT K a) [en, it] en (fun i g => (∃ old, IsEnum g en it ((i : Nat) : Int) old) ∧ g.IsTupleIter it a i ∧ en ≠ it) where
  mem := by simp
  obj := fun i g st b hb => by
    obtain ⟨⟨old, he⟩, ⟨o, ho,
        hc, hd⟩, _⟩ := st
    rcases (show b = en ∨ b = it by simpa using hb) with rfl | rfl
    · exact ⟨_, he, fun v q => nomatch q⟩
    · exact ⟨o, ho, fun v q => by rw [hd] at q; cases q⟩
  keep := fun i g g' st k => by
    obtain ⟨⟨old, he⟩, hi, hne⟩ := st
    exact ⟨⟨old, k en (by simp) _ he⟩, hi.at fun o q => k it (by simp) o q, hne⟩
  item := by
    intro X hP hw hK hc i pins
        s σ H E I hf st hg
    subst hP hw hK
    obtain ⟨⟨old, he⟩,
        hit, hne⟩ := st
    obtain ⟨xs, x, hq, hx⟩ := hg
    obtain ⟨its, rv, pt, hz⟩ := I.tuple hq
    obtain ⟨u, hu, ru⟩
        := rv.get hx
    have hen : en < s.heap.objs.size := Heap.lt_size he
    have hil : it < s.heap.objs.size := by
      obtain ⟨_, q, _⟩ := hit
      exact Heap.lt_size q
    have hlt : i < its.toArray.size := by
      rw [List.size_toArray]
      exact (List.getElem?_eq_some_iff.mp hu).1
    have hea : en ≠ a := fun z => by
      obtain ⟨o2, e2, c2, _⟩ := (show s.heap.IsTuple a its.toArray from pt)
      rw [← z, he] at e2
      cases e2
      exact absurd c2 (by show ¬ (Value.type "enumerate" = Value.type "tuple"); decide)
    refine wpAny_pyNext_enum_itemD (tup_draws (tp := a) (us := its.toArray) (I.ok.hd hc)) he ⟨hit, pt⟩ hlt hne (by simp [hne, hea]) fun x' h' tk hx' ho st' hT hsz hk => ?_
    obtain rfl : x' = u := by
      have z : its.toArray[i]? = some u := by simpa using hu
      rw [z] at hx'
      exact (Option.some.inj hx').symm
    refine ⟨_, rfl, wpAny_letOwnedTupleGo_enum (s := { s with heap := h', toks := tk + 1 }) ho fun h'' he' sb => ?_⟩
    have hT2 : h''.get? s.heap.objs.size = some { cls := .type "tuple", data := .seq #[.int i tk, x'] } := (sb.2 _ (Nat.ne_of_gt hen)).trans hT
    have new : ObjOk X.prog X.w (upd H s.heap.objs.size (.tup [.int (i : Nat),
        x])) h'' s.heap.objs.size (.tup [.int (i : Nat), x]) :=
      ⟨by show 2 ≤ sizeLine; decide, [.int i tk, x'], .cons ⟨_, rfl⟩ (.cons ru .nil), ⟨_, hT2, rfl, _, rfl⟩⟩
    have I1 : Inv X pins σ (upd H s.heap.objs.size (.tup [.int (i : Nat), x])) { s with heap := h'', toks := tk + 1 } :=
      I.turnedNew (ch := [en, it]) (fun b ob hb q => (sb.2 b (fun z => hb (by simp [z]))).trans (hk b ob (fun z => hb (by simp [z])) (fun z => hb (by simp [z])) q)) hf (Nat.le_refl _) new
    refine ⟨.ref s.heap.objs.size, _, I1, rfl, ⟨_, x, rfl, I.hok.fresh (Nat.le_refl _), rfl, fun ys hy => ?_⟩, ⟨⟨x', ?_⟩, st'.1.at fun o q => (sb.2 it (Ne.symm hne)).trans q, hne⟩, fun b hb => ?_⟩
    · rw [I.tuple_inj hy hq]
      exact hx
    · rw [show ((i + 1 : Nat) : Int) = (i : Int) + 1 by omega]
      exact he'
    · have hb' : b <
        s.heap.objs.size := by
        rcases (show b = en ∨ b = it by simpa using hb) with rfl | rfl
        · exact hen
        · exact hil
      rw [upd_ne
          (Nat.ne_of_lt hb')]
      exact (hf b hb).1
  done := by
    intro X hP hw hK hc i pins
        s σ H E I hf st hg
    subst hP hw hK
    obtain ⟨⟨old, he⟩,
        hit, hne⟩ := st
    obtain ⟨xs, hq, hx⟩ := hg
    obtain ⟨its, rv, pt, hz⟩ := I.tuple hq
    obtain ⟨f0, f1, f2, f3, f4,
        f5⟩ := hf it (by simp)
    have hl : its.toArray.size = i := by
      rw [List.size_toArray, ← rv.length, hx]
    exact wpAny_pyNext_enum_endD (tup_draws (tp := a) (us := its.toArray) (I.ok.hd hc)) he ⟨by rw [hl]; exact hit, pt⟩ fun h' eb =>
      ⟨rfl, I.turned (t' := s.toks) (fun b o hb q => eb b o hb q) f0 f1 f3 f4 f5⟩
  self := fun A i s
      Q E st h => by
    obtain ⟨⟨_, he⟩, _⟩ := st
    exact wpAny_pyIter_enum he h
theorem meets_enumT (l : Addr) (items : Array Value) (n : Nat) (dct : Option Addr) (sl : Array (Option Value)) :
    Meets (Builtin.«enumerate.__new__» ⟨[.type "enumerate", .ref l], []⟩) (fun _ R s => s.heap.get? l = some { cls := .type "tuple", dict := dct, data := .seq items n, slots := sl } ∧
      R (.ok (.ret (.ref (s.heap.push { cls := .type "tuple_iterator", data := .fields #[.ref l, .int 0 0] }).objs.size)))
        { s with heap := (s.heap.push { cls := .type "tuple_iterator", data := .fields #[.ref l, .int 0 0] }).push { cls := .type "enumerate", data := .fields #[.none, .bool false, .ref s.heap.objs.size, rawInt 0, .none, .none] } }) :=
  .of_wp fun prog w
      A R s h => by
    obtain ⟨hp, g, d,
        tk, os⟩ := s
    obtain ⟨hl, h⟩ := h
    have hsub := sub_enumerate
    have hT : Heap.IsTuple (Shared.heap ⟨hp, g, d, tk, os⟩) l items := ⟨_, hl, rfl, n, rfl⟩
    wp_walk using AutoSeq1.wpAny_loadPart' hl
    refine wpAny_stack_any
        fun st => wpAny_pure ?_
    split
    · rename_i c _ _ _ _ _
      cases (c == Value.type "enumerate") <;>
        (wp_walk using AutoSeq1.wpAny_loadPart' hl, wpAny_pyIter_tuple hT
         exact ⟨_, rfl, h⟩)
    · wp_walk using AutoSeq1.wpAny_loadPart' hl, wpAny_pyIter_tuple hT
      exact ⟨_, rfl, h⟩
theorem call_enumT {prog : Program} {w : World} {A : Around} {E : Value → Shared → Prop} {s : Shared} {l : Addr} {items : Array Value} {Q : Value → Shared → Prop} (hL : s.heap.IsTuple l items)
    (h : ∀ h', IsEnum h' (s.heap.objs.size + 1) s.heap.objs.size 0 .none → h'.IsTupleIter s.heap.objs.size l 0 → (∀ b o, s.heap.get? b = some o → h'.get? b = some o) → Q (.ref (s.heap.objs.size + 1)) { s with heap := h' }) :
    wpAny (model prog w) A (call (.type
        "enumerate") [.ref l]) Q E s := by
  obtain ⟨⟨c, dct, dt, sl⟩,
      hl, hc, n, hd⟩ := hL
  replace hc : c = .type "tuple" := hc
  replace hd : dt = .seq
      items n := hd
  subst hc hd
  refine callType_new F.called_enumerate (by decide) (F.typeCall_enumerate_1 _) (F.newCall_enumerate_1 _) (fun obj => F.args_object_init_2 obj _)
    F.entry_enumerate_new (meets_enumT l items n dct sl) ⟨hl, ?_⟩
  have hz : (s.heap.push { cls := .type "tuple_iterator", data := .fields #[.ref l, .int 0 0] }).objs.size = s.heap.objs.size + 1 := Heap.size_push ..
  show _ ∧ _
  rw [hz]
  have he : IsEnum ((s.heap.push { cls := .type "tuple_iterator", data := .fields #[.ref l, .int 0 0] }).push
      { cls := .type "enumerate", data := .fields #[.none, .bool false, .ref s.heap.objs.size, rawInt
          0, .none, .none] }) (s.heap.objs.size + 1) s.heap.objs.size 0 .none := by
    have z := Heap.get?_push_size (s.heap.push { cls := .type "tuple_iterator", data := .fields #[.ref l, .int 0 0] })
      (o := { cls := .type "enumerate", data := .fields #[.none, .bool false,
          .ref s.heap.objs.size, rawInt 0, .none, .none] }) rfl
    rw [hz] at z
    exact z
  exact ⟨⟨_, he, rfl⟩, h _ he ⟨_, Heap.get?_push_of_some _ (Heap.get?_push_size _ rfl), rfl, rfl⟩ fun b o x => Heap.get?_push_of_some _ (Heap.get?_push_of_some _ x)⟩
def iEnT (K : PySem.W.Frag) (ta : TA) : TI := fun σ H R => ta σ H fun vs H1 => ∃ a xs, vs = [.ref a] ∧ SqT K H1 a xs ∧ R (IteT K a) H1
theorem pi_enT {X : Cx} {e : Expr} {ta : TA} {p pos tpos : Pos} {elts : List Expr} {kk : Nat} (hg : Gl X "enumerate") (hm : X.mg "enumerate" = none) (ha : PA X [e] ta)
    (hs : starEach [e] X.env = [(false, eval e X.env)] := by rfl) : PI X (.Tuple elts kk tpos) (.Call (.Name "enumerate" p) [e] [] pos) (iEnT X.K ta) := by
  refine ⟨fun pins s σ
      H R I h => ?_⟩
  refine Call_ (ld_blt I hg hm boot_enumerate (PyProof.Rows.callWith_type1
    (thn (ha.run pos pins s σ H _ I h) fun us s1 ⟨vs, H1, I1, r1, q1⟩ => ?_) hs rfl))
  obtain ⟨a, xs, ex,
      hq, q⟩ := q1
  subst ex
  cases r1 with
  | cons r rr =>
    cases rr
    cases r
    obtain ⟨its, rv, pt,
        hz⟩ := I1.tuple hq
    refine call_enumT pt fun h' he hit hk => wpAny_pyIter_enum he ?_
    have I2 : Inv X pins σ H1 { s1 with heap :=
        h' } := I1.kept (t' := s1.toks) hk
    refine ⟨s1.heap.objs.size + 1, [s1.heap.objs.size + 1, s1.heap.objs.size], _, _, H1, rfl, I2, turn_enumT a (s1.heap.objs.size + 1) s1.heap.objs.size, ⟨⟨.none, he⟩, hit, Nat.succ_ne_self _⟩, fun b hb => ?_, q⟩
    have hle : s1.heap.objs.size
        ≤ b := by
      rcases (show b = s1.heap.objs.size + 1 ∨ b = s1.heap.objs.size by simpa using hb) with z | z
      · rw [z]
        exact Nat.le_add_right _ _
      · rw [z]
        exact Nat.le_refl _
    exact I1.fpOk hle
        (I1.hok.fresh hle)
/-! a tuple from its end: t[::-1] -/
theorem adj_back (n : Nat) : Builtin.Slice.sliceAdjust none none (-1) (n : Int) = ((n : Int) - 1, -1) := by
  first
  | rfl
  | (unfold Builtin.Slice.sliceAdjust; simp)
theorem places_back (n : Nat) : Builtin.Slice.slicePlaces ((n : Int) - 1) (-1) (-1) = n := by
  unfold
    Builtin.Slice.slicePlaces
  by_cases h : 0 < n
  · simp [h]
    omega
  · have e : n = 0 := by omega
    subst e
    rfl
theorem pick_back (us : Array Value) : ((List.range us.size).filterMap fun (k : Nat) => us[(((us.size : Nat) : Int) - 1 + (k : Int) * (-1)).toNat]?).toArray = us.toList.reverse.toArray := by
  have e : ((List.range us.size).filterMap fun (k : Nat) => us[(((us.size : Nat) : Int) - 1 + (k : Int) * (-1)).toNat]?) = us.toList.reverse := by
    rw [← PySem.W.krv_all us, ← List.filterMap_reverse, ← PySem.W.krv_range, List.filterMap_map]
    have ef : ∀ k ∈ List.range us.size, us[(((us.size : Nat) : Int) - 1 + (k : Int) * (-1)).toNat]? = ((us[·]?) ∘ fun k => us.size - 1 - k) k := fun k hk => by
      have := List.mem_range.mp hk
      show us[(((us.size : Nat) : Int) - 1 + (k : Int) * (-1)).toNat]? = us[us.size - 1 - k]?
      rw [show (((us.size : Nat) : Int) - 1 + (k : Int) * (-1)).toNat = us.size - 1 - k by omega]
    generalize List.range us.size = l at ef
    induction l with
    | nil => rfl
    | cons x r ih => rw [List.filterMap_cons, List.filterMap_cons, ef x (by simp), ih fun k hk => ef k (by simp [hk])]
  rw [e]
section
variable {prog : Program} {w : World} {A : Around} {E
    : Value → Shared → Prop} {s : Shared}
theorem applied_back {sl : Addr} {vl vu vs : Value} {n : Nat} {Z : Int × Int × Nat → Shared → Prop} (hs : s.heap.IsSliceOf sl vl vu vs) (pl : IsPart vl none) (pu : IsPart vu none) (ps : IsPart vs (some (-1)))
    (q : Z ((n : Int) - 1, -1, n) s) : wpAny (model prog w) A (Builtin.Slice.sliceApplied (.ref sl) (pure (n : Int))) Z E s := by
  obtain ⟨ob, e1, e2, e3⟩ := id hs
  unfold Builtin.Slice.sliceApplied
      Builtin.Slice.sliceFields
  refine wpAny_bind (wpAny_bind (wpAny_field e1 e3 (x := vl) rfl (wpAny_bind (wpAny_field e1 e3 (x := vu) rfl
    (wpAny_bind (wpAny_field e1 e3 (x := vs) rfl (wpAny_pure ?_)))))))
  refine wpAny_bind (HT.slicePart_ ps ?_)
  show wpAny _ _ (if ((-1 : Int) == 0) = true then _ else _) _ _ s
  rw [if_neg (by decide)]
  refine wpAny_bind (HT.slicePart_ pl (wpAny_bind (HT.slicePart_ pu (wpAny_bind (wpAny_pure ?_)))))
  show wpAny _ _ (match Builtin.Slice.sliceAdjust none none (-1) (n : Int) with | (lo, hi) => pure (lo, (-1 : Int), Builtin.Slice.slicePlaces lo hi (-1))) _ _ s
  rw [adj_back n]
  show wpAny _ _ (pure (((n : Int) - 1), (-1 : Int), Builtin.Slice.slicePlaces ((n : Int) - 1) (-1) (-1))) _ _ s
  rw [places_back]
  exact wpAny_pure q
theorem getItem_tup_back {t sl : Addr} {us : Array Value} {vl vu vs : Value} {Z : Value → Shared → Prop} (ht : IsTup s.heap t us) (hs : s.heap.IsSliceOf sl vl vu vs) (pl : IsPart vl none) (pu : IsPart vu none) (ps : IsPart vs (some (-1)))
    (hz : us.size ≤ sizeLine) (q : Z (.ref s.heap.objs.size) { s with heap := s.heap.push { cls := .type "tuple", data := .seq us.toList.reverse.toArray } }) :
    wpAny (model prog w) A (getItem (.ref t) (.ref sl)) Z E s := by
  have hk : sizeOk (.seq us.toList.reverse.toArray) := by
    show us.toList.reverse.toArray.size ≤ sizeLine
    rw [List.size_toArray, List.length_reverse, Array.length_toList]
    exact hz
  obtain ⟨ob, e1, e2, e3⟩ := id hs
  have hTs : s.TypeIs (.ref sl) "slice" := ⟨ob, e1, e2⟩
  unfold getItem
  try (with_reducible refine wpAny_holding ?_)
  try (refine wpAny_bind (wpAny_pure ?_))
  refine wpAny_bind (wpAny_sequenceKey
      ht.typeIs (by decide) ?_)
  refine wpAny_bind (wpAny_callSpecial?_slot (name := Str.ofString
      "__getitem__") ht.typeIs PyProof.Rows.slot_tuple_getitem
    (wpAny_call_entry PyProof.Rows.slot_tuple_getitem ht.typeIs
        entry_tuple_getitem ?_ (args_tuple_getitem _ _)))
  show wpAny _ _ (Builtin.Tuple.tupleItemsOf
      (.ref t) >>= _) _ _ s
  refine wpAny_bind
      (tupleItemsOf_ ht ?_)
  refine wpAny_bind
      (wpAny_typeOf hTs ?_)
  rw [if_pos (by decide)]
  refine wpAny_bind (applied_back hs pl pu ps ?_)
  have hno : ¬ (((((us.size : Nat) : Int) - 1) == 0 && (-1 : Int) == 1 && us.size == us.size) = true) := by
    rw [show ((-1 : Int) == 1) = false by decide]
    simp
  show wpAny _ _ (if ((((us.size : Nat) : Int) - 1) == 0 && (-1 : Int) == 1 && us.size == us.size) = true then _ else _) _ _ s
  rw [if_neg hno, pick_back]
  first
    | exact wpAny_bind (m := Builtin.Tuple.tupleExact _) (wpAny_newObj_type (wpAny_pure ⟨_, rfl, wpAny_pure q⟩) hk)
    | exact wpAny_bind (m := Builtin.Tuple.tupleExact _) (wpAny_newObj_type (wpAny_bind (wpAny_pure (wpAny_pure ⟨_, rfl, wpAny_pure q⟩))) hk)
    | exact wpAny_bind (wpAny_bind (m := Builtin.Tuple.tupleExact _) (wpAny_newObj_type (wpAny_pure (wpAny_pure ⟨_, rfl, wpAny_pure q⟩)) hk))
    | exact wpAny_bind (wpAny_bind (m := Builtin.Tuple.tupleExact _) (wpAny_newObj_type (wpAny_pure ⟨_, rfl, wpAny_pure q⟩) hk))
end
def tRevT (K : PySem.W.Frag) (te : TE) : TE := fun σ H Q => te σ H fun x H1 => ∃ a xs, x = .ref a ∧ SqT K H1 a xs ∧ ∀ p, H1 p = none → Q (.ref p) (upd H1 p (.tup xs.reverse))
theorem pe_revT {X : Cx} {e : Expr} {te : TE} {k : Nat} {p1 p2 p3 pos : Pos} (he : PE X e te) :
    PE X (.Subscript e (.Slice none none (some (.UnaryOp .USub (.Constant (.int 1) k p1) p2)) p3) pos) (tRevT X.K te) := by
  refine ⟨fun pins s σ
      H Q I h => ?_⟩
  refine Subscript_ (thn (he.run pins s σ H _ I
      h) fun v s1 ⟨x, H1, I1, r1, q1⟩ => ?_)
  obtain ⟨a, xs, ex,
      hx, q⟩ := q1
  subst ex
  cases r1
  have hst : PO X (some (.UnaryOp .USub (.Constant (.int 1) k p1) p2)) (tPart (tUn (rU
      fun i => .int (-i)) (tC (.int 1)))) := po_some (pe_un un_neg pe_int)
  refine wpAny_Slice (thn (po_none.run pins s1 σ H1 (fun o H2 => o = none ∧ H2
      = H1) I1 ⟨rfl, rfl⟩) fun vl s2 ⟨l, H2, I2, pl, el, e2⟩ => ?_)
  subst el e2
  refine thn (po_none.run pins s2 σ H2 (fun o H3 => o = none ∧ H3 = H2)
      I2 ⟨rfl, rfl⟩) fun vu s3 ⟨u, H3, I3, pu, eu, e3⟩ => ?_
  subst eu e3
  refine thn (hst.run pins s3 σ H3 (fun o H4 => o = some (-1) ∧ H4 = H3) I3 ⟨1,
      rfl, -1, rfl, rfl, rfl⟩) fun vs s4 ⟨o, H4, I4, ps, eo, e4⟩ => ?_
  subst eo e4
  have I5 : Inv X pins σ H4 { s4 with heap := s4.heap.push { cls := .type "slice", data := .fields #[vl, vu, vs] } } := I4.kept (t' := s4.toks) fun b ob z => Heap.get?_push_of_some _ z
  obtain ⟨its, r, ht, hz⟩ := I5.tuple hx
  have hlen := r.length
  show wpAny (model X.prog X.w) X.A (subscriptTail e (.Slice none none (some (.UnaryOp .USub (.Constant (.int 1) k p1) p2)) p3) (.ref a) (.ref s4.heap.objs.size)) (EP X pins σ Q) X.xe
    { s4 with heap := s4.heap.push { cls := .type "slice", data := .fields #[vl, vu, vs] } }
  refine tail_any (ops := [.ref a, .ref s4.heap.objs.size]) ht.typeIs (PyProof.Rows.slot_tuple_getitem.lookup) ?_ (by with_unfolding_all rfl)
  refine getItem_tup_back ht (Heap.IsSliceOf.new _ vl vu vs) pl pu ps (by rw [List.size_toArray]; omega) ?_
  refine ⟨.ref _, _, I5.laid (t' := s4.toks) (o := .tup xs.reverse) (fun b ob z => Heap.get?_push_of_some _ z) (Nat.le_refl _) ?_, rfl, q _ (I5.hok.fresh (Nat.le_refl _))⟩
  exact ⟨by rw [List.length_reverse]; exact hz, _, r.reverse, IsTup.new _ _⟩
end WoR
/-! WoR3 -/
namespace WoR
open PySem PySem.Spec
    PyProof.Rows L2
theorem nolen_rit : typeLookup (.type "range_iterator") "__len__" = pure none := by rw [typeLookup_type, builtinLookup_eq_fast]; kernel_rfl
section
variable {prog : Program} {w : World} {A : Around} {E
    : Value → Shared → Prop} {s : Shared}
theorem hint_rit {it : Addr} {a c : Int} {n : Nat} {Q : Bool → Shared → Prop} (hit : IsRangeIter s.heap it a (n : Int) c) (hn : n ≤ 2 ^ 24) (q : ∀ tk, Q false { s with toks := tk }) :
    wpAny (model prog w) A (Builtin.List.listLengthHint (.ref it)) Q E s := by
  have hT : s.TypeIs (.ref it)
      "range_iterator" := ⟨_, hit, rfl⟩
  unfold
    Builtin.List.listLengthHint
  refine wpAny_bind (wpAny_specialOf hT nolen_rit ?_)
  show wpAny _ _ (specialOf (Value.ref it) (Str.ofString "__length_hint__") >>= _) _ _ _
  refine wpAny_bind (wpAny_specialOf hT F.slot_range_iterator_length_hint.lookup ?_)
  generalize hid : ("range_iterator.__length_hint__" : String) = id0
  wp_delta
  rw [show splitId id0 = some ("range_iterator", "__length_hint__") from by subst hid; decide +kernel]
  subst hid
  refine wpAny_bind (wpAny_isInstance (b := true) hT
      (by rw [isSubtype_type]; kernel_rfl) ?_)
  refine wpAny_ite_split (fun hab => absurd
      hab (by decide)) (fun _ => ?_)
  refine wpAny_ite_split (fun _ => ?_) (fun hab
      => absurd (by decide +kernel) hab)
  refine wpAny_ite_split (fun _ => ?_) (fun hab
      => absurd (by decide +kernel) hab)
  refine wpAny_bind (wpAny_call_entry F.slot_range_iterator_length_hint hT F.entry_range_iterator_length_hint ?_ (F.args_range_iterator_length_hint_1 _))
  show wpAny _ _ (field (.ref
      it) 1 >>= _) _ _ s
  refine wpAny_bind (wpAny_field hit rfl (x := rawInt (n : Int)) rfl ?_)
  show wpAny _ _ (retInt (n : Int)) _ _ s
  refine wpAny_bind (wpAny_mkInt
      (wpAny_pure ⟨_, rfl, ?_⟩))
  refine wpAny_bind (m := asInt?
      _) (wpAny_pure ?_)
  have htl : Builtin.List.listTooLong ((n : Int).toNat) = false := by
    simp [Builtin.List.listTooLong, sizeLine]
    omega
  exact wpAny_ite_split (fun hab => absurd hab (by rw [htl]; decide)) (fun _ => wpAny_pure (q _))
theorem collect_rit {it : Addr} {a c : Int} {n : Nat} {Q : List Value → Shared → Prop} (hh : A.handled = none) (hit : IsRangeIter s.heap it a (n : Int) c) (hn : n ≤ 2 ^ 24)
    (hQ : ∀ (h' : Heap) (tk : Nat) (acc : Array Value), (∀ b o, b ≠ it → s.heap.get? b = some o → h'.get? b = some o) → ItemsOf (fun i v => ∃ t, v = .int (a + i * c) t) acc n → Q acc.toList { s with heap := h', toks := tk }) :
    wpAny (model prog w) A (collect
        (.ref it)) Q E s := by
  have W := (Walks.range (prog := prog) (w := w) (A := A.in1) hh it a c n).toS
  have hSi : s.heap.objs.size ≠ it := Nat.ne_of_gt (Heap.lt_size hit)
  have hSf : s.heap.objs.size ∉ [it] := by
    simp only [List.mem_cons, List.not_mem_nil, or_false]
    exact hSi
  unfold collect
  refine wpAny_bind (wpAny_runValue (codeAny_builtin
      F.entry_proto_collect ?_))
  rw [Around.under_plainId
      F.plain_proto_collect _]
  show wpAny _ A.in1 (newList [] >>= fun ld => again (.builtin "list.__iadd__" ⟨[ld, .ref it], []⟩)) _ _ s
  refine wpAny_bind
      (wpAny_newObj_type ?_)
  refine wpAny_pure ⟨plainId_quiet F.plain_list_iadd
      _, codeAny_builtin F.entry_list_iadd ?_⟩
  rw [Around.under_plainId
      F.plain_list_iadd _]
  have g1 : (s.heap.push { cls := .type "list", data := .seq ([] : List Value).toArray }).get? s.heap.objs.size = some { cls := .type "list", data := .seq ([] : List Value).toArray } := Heap.get?_push_size _ rfl
  have g2 : IsRangeIter (s.heap.push { cls := .type "list", data := .seq ([] : List Value).toArray }) it a (n : Int) c := Heap.get?_push_of_some _ hit
  have hT : ({ s with heap := s.heap.push { cls := .type "list", data := .seq ([] : List Value).toArray } } : Shared).TypeIs (.ref it) "range_iterator" := ⟨_, g2, rfl⟩
  have g3 : Builtin.List.listSameRef (.ref s.heap.objs.size) (.ref it) = false := by simp [Builtin.List.listSameRef, hSi]
  show wpAny _ A.in1 (Builtin.List.listExtendWith (.ref
      s.heap.objs.size) (.ref it) (.ref s.heap.objs.size)) _ _ _
  unfold
    Builtin.List.listExtendWith
  refine wpAny_bind
      (wpAny_typeOf hT ?_)
  rw [if_neg (by rw [g3]; decide)]
  refine wpAny_bind (wpAny_pyIter_rangeiter g2 ?_)
  refine wpAny_bind
      (wpAny_holding ?_)
  refine hint_rit (s := { s with heap := s.heap.push { cls := .type "list", data := .seq ([] : List Value).toArray } }) g2 hn fun tk => ?_
  rw [if_neg (by decide)]
  have e0 : IsRangeIter (s.heap.push { cls := .type "list", data := .seq ([] : List Value).toArray }) it (a + ((0 : Nat) : Int) * c) ((n : Int) - ((0 : Nat) : Int)) c := by
    have z1 : a + ((0 : Nat) : Int) * c = a := by simp
    have z2 : (n : Int) - ((0 : Nat) : Int) = n := by omega
    rw [z1, z2]
    exact g2
  refine wpAny_pure ⟨plainId_quiet F.plain_extend_loop _, codeAny_extend_loopS W (by rw [sizeLine_eq]; omega) _ hSf _ n 0 _ _ _ rfl (Nat.zero_le _) e0 g1 (ItemsOf.nil _) fun s' acc c' hm hS' hacc => ?_⟩
  show wpAny _ A (load
      s.heap.objs.size >>= _) _ _ s'
  refine wpAny_bind
      (wpAny_load hS' ?_)
  refine wpAny_pure ?_
  rw [Moved.eq_with hm]
  refine hQ s'.heap s'.toks acc (fun b o hb e => hm.heap b o (fun hmem => ?_) (Heap.get?_push_of_some _ e)) hacc
  rcases List.mem_cons.mp hmem with z | z
  · exact absurd (Heap.lt_size e) (by rw [z]; exact Nat.lt_irrefl _)
  · exact hb (List.mem_singleton.mp z)
theorem code_tuple_rit {it : Addr} {a c : Int} {n : Nat} {Z : Value → Shared → Prop} (hh : A.handled = none) (hit : IsRangeIter s.heap it a (n : Int) c) (hn : n ≤ 2 ^ 24)
    (h : ∀ (h' : Heap) (tk : Nat) (acc : Array Value), (∀ b o, b ≠ it → s.heap.get? b = some o → h'.get? b = some o) → ItemsOf (fun i v => ∃ t, v = .int (a + i * c) t) acc n →
      Z (.ref h'.objs.size) { s with heap := h'.push { cls := .type "tuple", data := .seq acc }, toks := tk }) :
    codeAny (model prog w) A (.call (.builtin "tuple.__new__") ⟨[.type "tuple", .ref it], []⟩) (wants Z E) s := by
  refine codeAny_of_tree ?_
  show wpAny _ A.in1 (checkBuiltinCall "tuple.__new__" ⟨[.type "tuple", .ref it], []⟩ >>= fun _ =>
      again (.builtin "tuple.__new__" ⟨[.type "tuple", .ref it], []⟩)) _ _ s
  refine wpAny_bind (wpAny_of_eq (F.newCall_tuple_1 _) (wpAny_pure ⟨plainId_quiet
      F.plain_tuple_new _, codeAny_builtin F.entry_tuple_new ?_⟩))
  rw [Around.under_plainId
      F.plain_tuple_new _]
  have hsub := sub_tuple_self
  have hinit :=
      init_tuple_lookup
  have hmh := madeHere_tuple
  have hTI : s.TypeIs (.ref it) "range_iterator" := ⟨_, hit, rfl⟩
  have hh1 : A.in1.handled
      = none := hh
  wp_walk using wpAny_typeOf hTI, collect_rit (A := A.in1) hh1 hit hn
  intro h' tk acc hk hacc
  show wpAny _ _ (Builtin.Tuple.tupleExact
      acc.toList.toArray >>= fun v => ret v) _ _ _
  unfold
    Builtin.Tuple.tupleExact
  have small : acc.toList.toArray.size ≤ sizeLine := by
    rw [Array.toArray_toList, hacc.1, sizeLine_eq]
    omega
  refine wpAny_bind (wpAny_newObj_type ?_ small)
  refine wpAny_pure ?_
  have e : acc.toList.toArray
      = acc := by simp
  rw [e]
  exact h h' tk acc hk hacc
theorem call_tuple_rit {it : Addr} {a c : Int} {n : Nat} {Z : Value → Shared → Prop} (hh : A.handled = none) (hit : IsRangeIter s.heap it a (n : Int) c) (hn : n ≤ 2 ^ 24)
    (q : ∀ (h' : Heap) (tk : Nat) (acc : Array Value), (∀ b o, b ≠ it → s.heap.get? b = some o → h'.get? b = some o) → ItemsOf (fun i v => ∃ t, v = .int (a + i * c) t) acc n →
      Z (.ref h'.objs.size) { s with heap := h'.push { cls := .type "tuple", data := .seq acc }, toks := tk }) :
    wpAny (model prog w) A (call (.type "tuple") [.ref it]) Z E s := by
  refine callType_codes (Q₁ := fun obj s₁ => s₁.TypeIs obj "tuple" ∧ Z obj s₁) F.called_tuple (F.typeCall_tuple_1 _) F.entry_object_init
    (code_tuple_rit (A := A.in1) hh hit hn fun h' tk acc hk hacc => ⟨⟨_, Heap.get?_push_size _ rfl, rfl⟩, q h' tk acc hk hacc⟩) fun obj s₁ h₁ => ?_
  refine ⟨h₁.1, F.args_object_init_2 obj _, ?_⟩
  exact object_init_meets F.called_tuple.init.lookup F.called_tuple.made (by decide) prog w A.in1 _ s₁ ⟨h₁.1, rfl, h₁.2⟩
end
/-- tuple(reversed(range(n))) -/
def backI (n : Nat) : List V := (List.range n).map fun (i : Nat) => V.int ((n : Int) - 1 - (i : Int))
def tTupBack (te : TE) : TE := fun σ H Q => tRg1 te σ H fun a b H1 => ∃ n : Nat, a = 0 ∧ b = (n : Int) ∧ n ≤ 100000 ∧ ∀ p, H1 p = none → Q (.ref p) (upd H1 p (.tup (backI n)))
theorem pe_tupBack {X : Cx} {e : Expr} {te : TE} {p p2 p3 pos pos2 pos3 : Pos} (hc : X.calm = true) (hg : Gl X "tuple") (hm : X.mg "tuple" = none) (hg2 : Gl X "reversed") (hm2 : X.mg "reversed" = none) (hg3 : Gl X "range") (hm3 : X.mg "range" = none) (he : PE X e te)
    (hs : starEach [e] X.env = (false, eval e
        X.env) :: starEach [] X.env := by rfl)
    (hs1 : starEach [.Call (.Name "range" p3) [e] [] pos3] X.env = (false, eval (.Call (.Name "range" p3) [e] [] pos3) X.env) :: starEach [] X.env := by rfl)
    (hs2 : starEach [.Call (.Name "reversed" p2) [.Call (.Name "range" p3) [e] [] pos3] [] pos2] X.env = (false, eval (.Call (.Name "reversed" p2) [.Call (.Name "range" p3) [e] [] pos3] [] pos2) X.env) :: starEach [] X.env := by rfl) :
    PE X (.Call (.Name "tuple" p) [.Call (.Name "reversed" p2) [.Call (.Name "range" p3) [e] [] pos3] [] pos2] [] pos) (tTupBack te) := by
  refine ⟨fun pins s σ
      H Q I h => ?_⟩
  refine Call_ (ld_blt I hg hm boot_tuple (PyProof.Rows.callWith_type1 (args_cons (Call_ (ld_blt I hg2 hm2 PyProof.Rows.boot_reversed (PyProof.Rows.callWith_type1
    (args_cons (thn (prg_1 hg3 hm3 he hs pins s σ H _ I h) fun u s1 hx => args_nil ?_) hs1) hs1 rfl))) hs2) hs2 rfl))
  obtain ⟨r, a, b, t, w1, v, H1, eu, hr, I1, n, rfl, rfl, hn, q⟩ := hx
  subst eu
  have hz : Builtin.Range.rangeSize 0 (n : Int) 1 = ((n : Nat) : Int) := by
    have z := rangeSize_nat 0 (n : Int)
    rw [Int.sub_zero] at z
    exact z
  refine call_reversed_range hr (smallRev_one (by omega) (by omega) (by omega) (by omega)) (args_nil ?_)
  have I2 : Inv X pins σ H1 { s1 with heap := s1.heap.push (rngRevObj 0 (n : Int) 1) } := I1.kept (t' := s1.toks) fun b o e => Heap.get?_push_of_some _ e
  obtain ⟨f0, f1, f2, f3, f4, f5⟩ := I1.fpOk (H' := H1) (b := s1.heap.objs.size)
      (Nat.le_refl _) (I1.hok.fresh (Nat.le_refl _))
  have hit : IsRangeIter (s1.heap.push (rngRevObj 0 (n : Int) 1)) s1.heap.objs.size ((n : Int) - 1) (n : Int) (-1) := by
    have z : rngRevObj 0 (n : Int) 1 = { cls := .type "range_iterator", data := .fields #[rawInt ((n : Int) - 1), rawInt (n : Int), rawInt (-1)] } := by
      unfold rngRevObj
      rw [hz, show (0 : Int) + ((n : Int) - 1) * 1 = (n : Int) - 1 by omega]
    rw [z]
    exact Heap.get?_push_size
        _ rfl
  refine call_tuple_rit (s := { s1 with heap := s1.heap.push (rngRevObj 0 (n : Int) 1) }) (I1.ok.hd hc) hit (by omega) fun h' tk acc hk hi => ?_
  have I3 : Inv X pins σ H1 { s1 with heap := h', toks := tk } := I2.turned
      (t' := tk) (fun b o hb e => hk b o hb e) f0 f1 f3 f4 f5
  have hl : acc.toList.length = n := by
    rw [Array.length_toList]
    exact hi.1
  have rv : Vals (backI n) acc.toList := by
    unfold backI
    rw [← hl]
    refine vals_of_get acc.toList
        _ fun j u hj => ?_
    obtain ⟨t, rfl⟩ := hi.2 j u (by rw [← hj, Array.getElem?_toList])
    exact ⟨t, by rw [hl]; congr 1; omega⟩
  refine ⟨.ref h'.objs.size, upd H1 h'.objs.size (.tup (backI n)), I3.laid (t' := tk) (fun c o e => Heap.get?_push_of_some _ e) (Nat.le_refl _) (show ObjOk X.prog X.w _ _ _ (.tup (backI n)) from ⟨?_, acc.toList, rv, ?_⟩), rfl, q _ (I3.hok.fresh (Nat.le_refl _))⟩
  · unfold backI
    rw [List.length_map, List.length_range, sizeLine_eq]
    omega
  · rw [Array.toArray_toList]
    exact IsTup.new _ _
end WoR
namespace WoR
open PySem PySem.Spec
    PyProof.Rows L2
/-- xs + ys, both to be read -/
def rCatS (K : PySem.W.Frag) : R2 := fun x y H Q => ∃ l b xs zs, x = .ref l ∧ y = .ref b ∧ SqL K H l xs ∧ SqL K H b zs ∧ xs.length + zs.length ≤ 100000 ∧ ∀ p, H p = none → Q (.ref p) (upd H p (.lst (xs ++ zs)))
theorem op_catS {X : Cx} : OpR X (binaryOp .Add) (rCatS X.K) := by
  intro pins s σ H x y
      v u Q I rx ry h
  obtain ⟨l, b, xs, zs, rfl,
      rfl, hH, hB, hz, q⟩ := h
  cases rx
  cases ry
  obtain ⟨its, r, p1, _⟩ := I.list hH
  obtain ⟨its2, r2, p2, _⟩ := I.list hB
  have k1 := r.length
  have k2 := r2.length
  obtain ⟨⟨c1, d1, t1, sl1⟩, n1, g1, z1, _, y1⟩ := p1
  obtain ⟨⟨c2, d2, t2, sl2⟩, n2, g2, z2, _, y2⟩ := p2
  simp only at z1 y1 z2 y2
  subst z1 y1 z2 y2
  have ea : its.toArray ++ its2.toArray =
      (its ++ its2).toArray := by simp
  have hs : its.toArray.size + its2.toArray.size ≤ sizeLine := by
    rw [List.size_toArray, List.size_toArray, sizeLine_eq]
    omega
  refine concat_meets ⟨_, g1, rfl⟩ ⟨_, g2, rfl⟩ noFill_list_add seq_list_add PySem.F.slot_list_add PySem.F.entry_list_add (PySem.F.args_list_add_2 _ _)
    (list_addW l b its.toArray its2.toArray n1 n2 d1 d2 sl1 sl2 hs) ⟨g1, g2, ?_⟩
  rw [ea]
  exact ⟨.ref _, _, I.lnew (t' := s.toks) (r.append r2) (by rw [List.length_append, sizeLine_eq]; omega), rfl, q _ I.fresh⟩
end WoR
/-! WoR4 -/
namespace WoR
open PySem PySem.Spec
    PyProof.Rows L2
/-- t.index(x) of flat values: the first place -/
def rIndT (K : PySem.W.Frag) : V → List V → Hp → VK → Prop := fun x xs H Q => ∃ (a : Addr) (ys : List V) (y : V) (j : Nat) (z : V), x = .ref a ∧ xs = [y] ∧ SqT K H a ys ∧ flatV y = true ∧ ys.all flatV = true ∧ ys[j]? = some z ∧ eqV z y = true ∧
  (∀ m z', m < j → ys[m]? = some z' → eqV z' y = false) ∧ Q (.int (j : Nat)) H
theorem mt_indT {X : Cx} : MtR X "tuple.index" (rIndT X.K) := by
  intro pins s σ H x xs
      v us Q I rx rxs h
  obtain ⟨a, ys, y, j, z, rfl, rfl, hs,
      fy, fys, hz, hzj, hno, q⟩ := h
  cases rx
  cases rxs with
  | cons ry rt =>
    rename_i uy ut
    cases rt
    obtain ⟨its, rv, ⟨⟨cls, dd, dt, sl⟩, ho, hc, n, hd⟩, hlen⟩ := I.tuple hs
    simp only at hc hd
    subst hc hd
    obtain ⟨u, hu, ru⟩
        := rv.get hz
    obtain ⟨hjl, hje⟩ :=
        List.getElem?_eq_some_iff.mp hu
    have hvl := rv.length
    have hj : j < its.toArray.size
        := by simpa using hjl
    refine call_meets PySem.F.slot_tuple_index ⟨_, ho, rfl⟩ PySem.F.entry_tuple_index (PySem.F.args_tuple_index_2 _ _)
      (TI.tuple_indexAt a its.toArray n dd sl uy (eqU y) j hj ?_ ?_) ⟨ho, fun w hw => mem_eqAt ry fy rv fys w (by simpa using hw), ⟨.int (j : Nat), H, I.tok _, ⟨_, rfl⟩, q⟩⟩
    · have e1 : its.toArray[j] =
        u := by simpa using hje
      rw [e1, eqU_of ru
          (flat_at fys hz)]
      exact hzj
    · intro m hm hmj
      have hml : m < its.length
          := by simpa using hm
      have hmy : m < ys.length
          := by omega
      have hy' : ys[m]? = some ys[m] :=
          List.getElem?_eq_getElem hmy
      obtain ⟨u2, hu2, ru2⟩
          := rv.get hy'
      obtain ⟨_, hme⟩ :=
          List.getElem?_eq_some_iff.mp hu2
      have e1 : its.toArray[m] = u2
          := by simpa using hme
      rw [e1, eqU_of ru2
          (flat_at fys hy')]
      exact hno m _ hmj hy'
end WoR
/-! WoR5 -/
namespace WoR
open PySem PySem.Spec
    PyProof.Rows L2
section
variable {X : Cx}
/-- a written tuple whose object is known to bear no dict -/
def tTupF (t : TA) : TE := fun σ H Q => t σ H fun xs H1 => xs.length ≤ sizeLine ∧ ∀ p ob, H1 p = none → ob.dict = none → Q (.ref p) (upd H1 p (.frz ob (.tup xs)))
theorem pe_tupF {es : List Expr} {pos : Pos} {x1} {t : TA} (h : PA X es t) : PE X (.Tuple es x1 pos) (tTupF t) := by
  constructor
  intro pins s σ H Q I hq
  refine wpAny_Tuple_spliced (thn (h.run pos pins s σ H _ I hq) ?_)
  rintro us s1 ⟨xs, H1, I1, r, z, q⟩
  refine ⟨by rw [← r.length]; exact z, ?_⟩
  refine ⟨.ref s1.heap.objs.size, upd H1 s1.heap.objs.size (.frz { cls := .type "tuple", data := .seq us.toArray } (.tup xs)), ?_, rfl, q _ _ (I1.hok.fresh (Nat.le_refl _)) rfl⟩
  refine I1.laid (t' := s1.toks) (fun b u e =>
    Heap.get?_push_of_some _ e) (Nat.le_refl _) ?_
  exact ⟨Heap.get?_push_size _ rfl, z, us, r, _, Heap.get?_push_size _ rfl, rfl, _, rfl⟩
/-- t + u, both not empty -/
def rCatF (K : PySem.W.Frag) : R2 := fun x y H Q => ∃ a b xs ys, x = .ref a ∧ y = .ref b ∧ SqT K H a xs ∧ SqT K H b ys ∧ xs.length + ys.length ≤ sizeLine ∧
  (xs = [] → Q (.ref b) H) ∧ ys ≠ [] ∧ (xs ≠ [] → ∀ p ob, H p = none → ob.dict = none → Q (.ref p) (upd H p (.frz ob (.tup (xs ++ ys)))))
theorem op_catF : OpR X (binaryOp .Add) (rCatF X.K) := by
  intro pins s σ H x y
      v u Q I rx ry h
  obtain ⟨a, b, xs, ys, rfl, rfl, ha, hb, hz, q0, hy, q2⟩ := h
  cases rx
  cases ry
  obtain ⟨its, r1, p1,
      _⟩ := I.tuple ha
  obtain ⟨its2, r2, p2,
      _⟩ := I.tuple hb
  by_cases hx : xs = []
  · subst hx
    cases r1
    exact cat_tup0 p1 p2 ⟨.ref
        b, H, I, rfl, q0 rfl⟩
  · refine HT.cat_tup p1 p2 (fun z => hx (r1.nil_iff.mp z)) (fun z => absurd (r2.nil_iff.mp z) hy) (fun z => ?_) (by rw [← r1.length, ← r2.length]; exact hz)
    refine ⟨.ref s.heap.objs.size, _, I.laid (t' := s.toks) (o := .frz { cls := .type "tuple", data := .seq (its ++ its2).toArray } (.tup (xs ++ ys))) (fun b ob q =>
      Heap.get?_push_of_some _ q) (Nat.le_refl _) ?_, rfl, q2 hx _ _ (I.hok.fresh (Nat.le_refl _)) rfl⟩
    refine ⟨?_, by rw [List.length_append]; exact hz, _, r1.append r2, ?_⟩
    · exact Heap.get?_push_size
        _ rfl
    · exact IsTup.new _ _
/-- t.index(x), t a tuple whose object is known -/
def tIndF (K : PySem.W.Frag) (to : TE) (t : TA) : TE := fun σ H Q => to σ H fun x H1 => (∃ a ob xs, x = .ref a ∧ H1 a = some (.frz ob (.tup xs)) ∧ ob.dict = none) ∧ t σ H1 fun xs H2 => rIndT K x xs H2 Q
theorem pe_indF {o e : Expr} {es : List Expr} {to : TE} {t : TA} {apos cpos : Pos} (ho : PE X o to) (ha : PA X (e :: es) t)
    (hbase : attributeBase o (Str.ofString "index") X.env (eval o X.env) = eval o X.env := by rfl)
    (hfew : ((backTo cpos (starEach (e :: es) X.env)).all (fun x => !x.1) &&
        (backToKw cpos (keywordEach [] X.env)).all (fun x => x.1.isSome)
        && decide ((e :: es).length + ([] : List Keyword).length + (if ([] : List
            Keyword).isEmpty then 0 else 1) < 30)) = true := by rfl)
    (hline : (apos.endLine == cpos.line) = true := by rfl) (hs : starEach (e :: es) X.env = (false, eval e X.env) :: starEach es X.env := by rfl)
    (hplain : (backTo cpos (starEach es X.env)).any (·.1) = false := by rfl) :
    PE X (.Call (.Attribute o "index" apos) (e :: es) [] cpos) (tIndF X.K to t) := by
  constructor
  intro pins s σ H Q I h
  refine wpAny_Call_method_late hbase hfew hline rfl (thn (ho.run pins s σ H _ I h) ?_)
  rintro v s1 ⟨x, H1, I1, r1, ⟨a, ob, xs, rfl, ea, hd⟩, q1⟩
  cases r1
  obtain ⟨e1, z, its, r, ob', e2, c, n, d⟩ := I1.hok a _ ea
  rw [e1] at e2
  cases e2
  refine ⟨"tuple", "tuple.index", PySem.F.plainAttrs_tuple, PySem.F.slot_tuple_index, PySem.F.type_tuple_index, ⟨ob, e1, c⟩, fun b z => ?_, ?_⟩
  · cases z
    exact ⟨ob, e1, hd⟩
  · have hA := ha.run cpos pins s1 σ H1 _ I1 q1
    rw [hs] at hA ⊢
    refine Calls.callWith_builtin ?_ (Calls.evalArgs_plain ?_)
    · show (false || (backTo cpos (starEach es X.env)).any (·.1)) = false
      rw [hplain]
      rfl
    · exact thn hA fun us s2 ⟨vs, H2, I2, r2, q2⟩ => mt_indT pins s2 σ H2 (.ref a) vs _ us Q I2 rfl r2 q2
end
end WoR
/-! WoA -/
namespace Wo
open PySem PySem.Spec
    PyProof.Rows L2
def topS (i : Nat) : Stmt := PySem.Challenge.pw_wiredorders_k00_orders_and_what_comes_of.main.body.getD i (.Pass ⟨0, 0, 0, 0⟩)
/-- a tuple of these items stands at a -/
def At (H : Hp) (a : Addr) (xs : List V) : Prop := Rd H a (.tup xs)
theorem At.of {H : Hp} {a : Addr} {xs : List V} (h : H a = some (.tup xs)) : At H a xs := .inl h
theorem At.s {H H' : Hp} {a : Addr} {xs : List V} (h : At H a xs) (s : Same H H') : At H' a xs := by
  rcases h with e | ⟨o, e⟩
  · exact .inl (s _ _ e)
  · exact .inr ⟨o, s _ _ e⟩
theorem At.inj {H : Hp} {a : Addr} {xs ys : List V} (h : At H a xs) (h' : At H a ys) : xs = ys := by
  rcases h with e | ⟨o, e⟩ <;> rcases h' with e' | ⟨o', e'⟩ <;> rw [e] at e' <;> cases e' <;> rfl
theorem At.old {H : Hp} {a p : Addr} {xs : List V} (h : At H a xs) (n : H p = none) : a ≠ p := by
  rcases h with e | ⟨o, e⟩ <;> exact ne_of_none e n
/-- .. of no dict, as is known -/
def Fz (H : Hp) (a : Addr) (xs : List V) : Prop := ∃ ob, H a = some (.frz ob (.tup xs)) ∧ ob.dict = none
theorem Fz.at' {H : Hp} {a : Addr} {xs : List V} (h : Fz H a xs) : At H a xs := by
  obtain ⟨o, e, _⟩ := h
  exact .inr ⟨o, e⟩
theorem Fz.s {H H' : Hp} {a : Addr} {xs : List V} (h : Fz H a xs) (s : Same H H') : Fz H' a xs := by
  obtain ⟨o, e, d⟩ := h
  exact ⟨o, s _ _ e, d⟩
theorem Fz.new {H : Hp} {a : Addr} {xs : List V} {o : Obj} (d : o.dict = none) : Fz (upd H a (.frz o (.tup xs))) a xs := ⟨o, upd_same, d⟩
/-! kinds of values -/
inductive Kd (H : Hp) : V → Prop where
  | non : Kd H .non
  | bl (b : Bool) : Kd H (.bl b)
  | int (i : Int) : Kd H (.int i)
  | str (x : Str) : Kd H (.str x)
  | tup {a : Addr} {xs : List V} (e : At H a xs) : Kd H (.ref a)
  | lst {a : Addr} {xs : List V} (e : H a = some (.lst xs)) : Kd H (.ref a)
def isI : V → Bool
  | .int _ => true
  | _ => false
def isB : V → Bool
  | .bl _ => true
  | _ => false
theorem Kd.same {H H' : Hp} {x : V} (k : Kd H x) (s : Same H H') : Kd H' x := by
  cases k with
  | non => exact .non
  | bl b => exact .bl b
  | int i => exact .int i
  | str x => exact .str x
  | tup e => exact .tup (e.s s)
  | lst e => exact .lst (s _ _ e)
theorem At.ty {K : PySem.W.Frag} {H : Hp} {a : Addr} {xs : List V} (h : At H a xs) : TyX K H (.ref a) (.type "tuple") := by
  rcases h with e | ⟨o, e⟩
  · exact .base (.tup e)
  · exact .fTuple e
theorem Kd.ty {K : PySem.W.Frag} {H : Hp} {x : V} (k : Kd H x) : ∃ t : String, TyX K H x (.type t) ∧ kitB t "int" = some (isI x || isB x) ∧ kitB t "bool" = some (isB x) := by
  cases k with
  | non => exact ⟨_, .base .non, by decide +kernel, by decide +kernel⟩
  | bl b => exact ⟨_, .base (.bl b), by show kitB "bool" "int" = some true; decide +kernel, by show kitB "bool" "bool" = some true; decide +kernel⟩
  | int i => exact ⟨_, .base (.int i), by show kitB "int" "int" = some true; decide +kernel, by show kitB "int" "bool" = some false; decide +kernel⟩
  | str x => exact ⟨_, .base (.str x), by show kitB "str" "int" = some false; decide +kernel, by show kitB "str" "bool" = some false; decide +kernel⟩
  | tup e => exact ⟨_, e.ty, by show kitB "tuple" "int" = some false; decide +kernel, by show kitB "tuple" "bool" = some false; decide +kernel⟩
  | lst e => exact ⟨_, .base (.lst e), by show kitB "list" "int" = some false; decide +kernel, by show kitB "list" "bool" = some false; decide +kernel⟩
theorem same_new {H : Hp} {p : Addr} {o : HO} (h : H p = none) : Same H (upd H p o) := fun b x e => by
  rw [upd_ne (ne_of_none e h)]
  exact e
theorem same_mut {H H' : Hp} {p : Addr} {o : HO} (s : Same H H') (h : H p = none) : Same H (upd H' p o) := fun b x e => by
  rw [upd_ne (ne_of_none e h)]
  exact s b x e
theorem same_t {K : PySem.W.Frag} {H H' : Hp} {a : Addr} {xs : List V} (s : Same H H') (h : SqT K H a xs) : SqT K H' a xs := Evl.ex_t (fun a o e => s a o e) h
theorem tl_of {K : PySem.W.Frag} {H : Hp} {a : Addr} {xs : List V} (h : At H a xs) : SqT K H a xs := .inl h
theorem ll_of {K : PySem.W.Frag} {H : Hp} {a : Addr} {xs : List V} (h : H a = some (.lst xs)) : SqL K H a xs := .inl (.inl h)
/-! comprehensions whose parts are values -/
def pick (p : V → Bool) (f : V → V) (xs : List V) : List V := (xs.filter p).map f
theorem pick_take {p : V → Bool} {f : V → V} {xs : List V} {i : Nat} {x : V} (h : xs[i]? = some x) : pick p f (xs.take (i + 1)) = if p x = true then pick p f (xs.take i) ++ [f x] else pick p f (xs.take i) := by
  unfold pick
  rw [List.take_add_one, h, List.filter_append, List.map_append]
  by_cases hp : p x = true
  · rw [if_pos hp, Option.toList, List.filter_cons, if_pos hp]
    rfl
  · rw [if_neg hp, Option.toList, List.filter_cons, if_neg hp]
    exact List.append_nil _
theorem pick_len (p : V → Bool) (f : V → V) (xs : List V) (i : Nat) : (pick p f (xs.take i)).length ≤ xs.length := by
  unfold pick
  rw [List.length_map]
  refine Nat.le_trans (List.length_filter_le _ _) ?_
  rw [List.length_take]
  exact Nat.min_le_right _ _
section
variable {K : PySem.W.Frag} {H : Hp} {σ : L2.St} {j : Nat} {vs : List Nat} {tt : TT} {te : TE} {Qd : Hp → Prop} {xs : List V} {D : Addr} {p : V → Bool} {f : V → V}
def LcPv (H : Hp) (D : Addr) (p : V → Bool) (f : V → V) (xs : List V) (i : Nat) (H' : Hp) : Prop := Same H H' ∧ H' D = some (.lst (pick p f (xs.take i)))
theorem lc_turn (hD : H D = none) (hz : xs.length ≤ 100000) (hw : ∀ x, wipe ((wipe σ vs).set j (some x)) vs = wipe σ vs)
    (ht : ∀ x ∈ xs, ∀ H1, Same H H1 → ∀ R : Bool → Hp → Prop, (∀ H2, Same H1 H2 → R (p x) H2) → tt ((wipe σ vs).set j (some x)) H1 R)
    (he : ∀ x ∈ xs, p x = true → ∀ H1, Same H H1 → ∀ R : VK, (∀ H2, Same H1 H2 → R (f x) H2) → te ((wipe σ vs).set j (some x)) H1 R)
    (i : Nat) (x : V) (H' : Hp) (hx : xs[i]? = some x) (hp : LcPv H D p f xs i H') :
    gName j x (wipe σ vs) H' fun σ2 H2 => wipe σ2 vs = wipe σ vs ∧ tt σ2 H2 fun b H3 =>
      if b = true then te σ2 H3 fun y H4 => ∃ acc, H4 D = some (.lst acc) ∧ acc.length < sizeLine ∧ LcPv H D p f xs (i + 1) (upd H4 D (.lst (acc ++ [y]))) else LcPv H D p f xs (i + 1) H3 := by
  obtain ⟨s1, e1⟩ := hp
  have hm : x ∈ xs := List.mem_of_getElem? hx
  refine ⟨hw x, ht x hm H' s1 _ fun H2 s2 => ?_⟩
  have e2 := s2 _ _ e1
  have ep := pick_take (p := p) (f := f) hx
  cases hb : p x with
  | true =>
    rw [hb, if_pos rfl] at ep
    refine iteT (he x hm hb H2 (s1.trans s2) _ fun H3 s3 => ?_)
    refine ⟨_, s3 _ _ e2, ?_, same_mut ((s1.trans s2).trans s3) hD, ?_⟩
    · exact Nat.lt_of_le_of_lt (Nat.le_trans (pick_len p f xs i) hz) (by decide)
    · rw [upd_same, ep]
  | false =>
    rw [hb, if_neg Bool.false_ne_true] at ep
    refine iteF ⟨s1.trans s2, ?_⟩
    rw [ep]
    exact e2
theorem lc_T {a : Addr} {Q : VK} {tl : TE} (hl : ∀ R : VK, R (.ref a) H → tl σ H R) (hx : SqT K H a xs) (hz : xs.length ≤ 100000) (hw : ∀ x, wipe ((wipe σ vs).set j (some x)) vs = wipe σ vs)
    (p : V → Bool) (f : V → V)
    (ht : ∀ x ∈ xs, ∀ H1, Same H H1 → ∀ R : Bool → Hp → Prop, (∀ H2, Same H1 H2 → R (p x) H2) → tt ((wipe σ vs).set j (some x)) H1 R)
    (he : ∀ x ∈ xs, p x = true → ∀ H1, Same H H1 → ∀ R : VK, (∀ H2, Same H1 H2 → R (f x) H2) → te ((wipe σ vs).set j (some x)) H1 R)
    (k : ∀ D H2, H D = none → Same H H2 → H2 D = some (.lst (pick p f xs)) → Q (.ref D) H2) :
    tLc (iTup K tl) (gName j) tt te vs σ H Q := by
  refine hl _ ⟨a, rfl, ⟨xs, hx⟩, fun D hD => lc_tup (xs := xs) (LcPv H D p f xs) ⟨same_new hD, by rw [upd_same]; rfl⟩ (fun i H' _ hp => same_t hp.1 hx) (lc_turn hD hz hw ht he) fun H' hp => ?_⟩
  have := hp.2
  rw [List.take_length] at this
  exact k D H' hD hp.1 this
theorem lc_L {a : Addr} {Q : VK} {tl : TE} (hl : ∀ R : VK, R (.ref a) H → tl σ H R) (hx : SqL K H a xs) (hz : xs.length ≤ 100000) (hw : ∀ x, wipe ((wipe σ vs).set j (some x)) vs = wipe σ vs)
    (p : V → Bool) (f : V → V)
    (ht : ∀ x ∈ xs, ∀ H1, Same H H1 → ∀ R : Bool → Hp → Prop, (∀ H2, Same H1 H2 → R (p x) H2) → tt ((wipe σ vs).set j (some x)) H1 R)
    (he : ∀ x ∈ xs, p x = true → ∀ H1, Same H H1 → ∀ R : VK, (∀ H2, Same H1 H2 → R (f x) H2) → te ((wipe σ vs).set j (some x)) H1 R)
    (k : ∀ D H2, H D = none → Same H H2 → H2 D = some (.lst (pick p f xs)) → Q (.ref D) H2) :
    tLc (iList K tl) (gName j) tt te vs σ H Q := by
  refine hl _ ⟨a, rfl, ⟨xs, hx⟩, fun D hD => lc_list (xs := xs) (LcPv H D p f xs) ⟨same_new hD, by rw [upd_same]; rfl⟩ (fun i H' _ hp => hp.1.seq hx) (lc_turn hD hz hw ht he) fun H' hp => ?_⟩
  have := hp.2
  rw [List.take_length] at this
  exact k D H' hD hp.1 this
/-- the ints 0 .. n - 1 -/
def rgI (n : Nat) : List V := (List.range n).map fun (i : Nat) => V.int (i : Int)
theorem rgI_get {n i : Nat} (h : i < n) : (rgI n)[i]? = some (.int (i : Int)) := by
  unfold rgI
  rw [List.getElem?_map, List.getElem?_range h]
  rfl
theorem lc_R {n : Nat} {Q : VK} {ta : TA} (hl : ∀ R : List V → Hp → Prop, R [.int (n : Int)] H → ta σ H R) (hz : n ≤ 100000) (hw : ∀ x, wipe ((wipe σ vs).set j (some x)) vs = wipe σ vs)
    (p : V → Bool) (f : V → V)
    (ht : ∀ x ∈ rgI n, ∀ H1, Same H H1 → ∀ R : Bool → Hp → Prop, (∀ H2, Same H1 H2 → R (p x) H2) → tt ((wipe σ vs).set j (some x)) H1 R)
    (he : ∀ x ∈ rgI n, p x = true → ∀ H1, Same H H1 → ∀ R : VK, (∀ H2, Same H1 H2 → R (f x) H2) → te ((wipe σ vs).set j (some x)) H1 R)
    (k : ∀ D H2, H D = none → Same H H2 → H2 D = some (.lst (pick p f (rgI n))) → Q (.ref D) H2) :
    tLc (iRng1 ta) (gName j) tt te vs σ H Q := by
  have hn : (rgI n).length = n := by
    unfold rgI
    rw [List.length_map,
        List.length_range]
  refine hl _ ⟨n, rfl, by omega, by omega, fun D hD => ?_⟩
  rw [show ((n : Int)).toNat = n from rfl]
  refine lc_range (lo := 0) (n := n) (LcPv H D p f (rgI n)) ⟨same_new hD, by rw [upd_same]; rfl⟩ (fun i H' hi hp => ?_) fun H' hp => ?_
  · rw [show (0 : Int) + (i : Int) = (i : Int) from Int.zero_add _]
    exact lc_turn hD (by omega) hw ht he i _ H' (rgI_get hi) hp
  · have := hp.2
    rw [List.take_of_length_le (Nat.le_of_eq hn)] at this
    exact k D H' hD hp.1 this
end
/-- the built-ins that the text calls -/
structure Bi (mg : Str → Option Value) : Prop where
  isinstance : mg "isinstance" = none
  int : mg "int" = none
  bool : mg "bool" = none
  tuple : mg "tuple" = none
  all : mg "all" = none
  len : mg "len" = none
  sorted : mg "sorted" = none
  list : mg "list" = none
  range : mg "range" = none
  reversed : mg "reversed" = none
  enumerate : mg "enumerate" = none
  abs : mg "abs" = none
  zip : mg "zip" = none
section
variable {P : Program} {w : World} {K : PySem.W.Frag}
    {mg : Str → Option Value} {base : Heap}
abbrev sInt : Stmt := topS 1
theorem scInt : FnScope ["value"] ["value"] (defScope sInt) := ⟨rfl, rfl, rfl, by decide +kernel, rfl, by decide +kernel, by decide +kernel⟩
def spInt : Sp := fun vs H Q _ => ∃ x, vs = [x] ∧ Kd H x ∧ Q (.bl (isI x)) H
theorem ok_int {f : Addr} {fd : FuncData} (F : Fun K "is_integer" "is_integer" sInt f fd) (T : Bi mg) : FnOk P w K mg base CX0 1 f fd ["value"] spInt := by
  refine F.ok scInt (fun vs H Q E h => ?_) (fun cdv A outer s H vs Q E hr h => ?_)
  · obtain ⟨x, rfl, _⟩ := h
    rfl
  · obtain ⟨x, rfl, k, q⟩ := h
    refine ⟨_, pss_one (ps_ret (pe_and (pe_callB call_isi (by rfl) T.isinstance (by decide +kernel) (pa_cons (pv 0) (pa_cons (pe_bltn (v := .ty "int") (by rfl) T.int (by decide +kernel) rfl) pa_nil)))
      (pe_one (pe_not (pe_callB call_isi (by rfl) T.isinstance (by decide +kernel) (pa_cons (pv 0) (pa_cons (pe_bltn (v := .ty "bool") (by rfl) T.bool (by decide +kernel) rfl) pa_nil))))))), ?_⟩
    obtain ⟨t, ty, h1, h2⟩ := k.ty (K := K)
    refine ⟨x, rfl, x, .ty "int", _, _, _, rfl, .ty _, ty, kit_ty h1, _, rfl, ?_⟩
    have fin : (if (isI x || isB x) = true then Q (.bl (!isB x)) H else Q (.bl false) H) := by
      cases x <;> exact q
    by_cases hb : (isI x || isB x) = true
    · rw [if_pos hb] at fin
      rw [hb]
      refine iteT ⟨x, rfl, x, .ty "bool", _, _, _, rfl, .ty _, ty, kit_ty h2, _, rfl, fin⟩
    · rw [if_neg hb] at fin
      rw [Bool.not_eq_true] at hb
      rw [hb]
      exact iteF fin
def inI (lo hi : Int) : V → Bool
  | .int i => decide (lo ≤ i) && decide (i ≤ hi)
  | _ => false
abbrev sWithin : Stmt := topS 2
theorem scWithin : FnScope ["value", "low", "high"] ["value", "low", "high"] (defScope sWithin) := ⟨rfl, rfl, rfl, by decide +kernel, rfl, by decide +kernel, by decide +kernel⟩
def spWithin : Sp := fun vs H Q _ => ∃ x lo hi, vs = [x, .int lo, .int hi] ∧ Kd H x ∧ Q (.bl (inI lo hi x)) H
theorem ok_within {f fI : Addr} {fd fdI : FuncData} (F : Fun K "is_within" "is_within" sWithin f fd) (T : Bi mg) (FI : Fun K "is_integer" "is_integer" sInt fI fdI) (bI : Binds K fdI ["value"] []) (gI : mg "is_integer" = some (.ref fI)) :
    FnOk P w K mg base CX0 2 f fd ["value", "low", "high"] spWithin := by
  have GI : FnOk P w K mg base CX0 1 fI fdI ["value"] spInt := ok_int FI T
  refine F.ok scWithin (fun vs H Q E h => ?_) (fun cdv A outer s H vs Q E hr h => ?_)
  · obtain ⟨x, lo, hi, rfl, _⟩ := h
    rfl
  · obtain ⟨x, lo, hi, rfl, k, q⟩ := h
    refine ⟨_, pss_one (ps_ret (pe_and (pe_call GI hr (by rfl) gI FI.kp bI .nil pass0 (pa_cons (pv 0) pa_nil)) (pe_one (pe_chain op_le op_le (pv 1) (pv 0) (pv 2))))), ?_⟩
    refine ⟨x, rfl, x, rfl, k, _, rfl, ?_⟩
    cases k with
    | int i =>
      refine iteT ⟨_, rfl, _, rfl, _, _, rfl, rfl, _, rfl, ?_⟩
      show if decide (lo ≤ i) = true then _ else _
      have q : Q (.bl (decide (lo ≤ i) && decide (i ≤ hi))) H := q
      by_cases h1 : lo ≤ i
      · rw [decide_eq_true h1] at q ⊢
        exact iteT ⟨_, rfl, _, _, rfl, rfl, q⟩
      · rw [decide_eq_false h1] at q ⊢
        exact iteF q
    | _ => exact iteF q
abbrev sAre : Stmt := topS 3
theorem scAre : FnScope ["value", "low", "high", "item"] ["value", "low", "high"] (defScope sAre) := ⟨rfl, rfl, rfl, by decide +kernel, rfl, by decide +kernel, by decide +kernel⟩
/-- a tuple's items; no tuple -/
def tupOf (H : Hp) : V → Option (List V)
  | .ref a => match H a with
    | some (.tup xs) => some xs
    | some (.frz _ (.tup xs)) => some xs
    | _ => none
  | _ => none
def areI (lo hi : Int) : Option (List V) → Bool
  | some xs => xs.all (inI lo hi)
  | none => false
def spAre : Sp := fun vs H Q _ => ∃ x lo hi, vs = [x, .int lo, .int hi] ∧ Kd H x ∧ (∀ xs, tupOf H x = some xs → xs.length ≤ 1000 ∧ ∀ y ∈ xs, Kd H y) ∧ ∀ H', Same H H' → Q (.bl (areI lo hi (tupOf H x))) H'
theorem tupOf_tup {H : Hp} {a : Addr} {xs : List V} (h : At H a xs) : tupOf H (.ref a) = some xs := by
  unfold tupOf
  rcases h with e | ⟨o, e⟩ <;> simp only [e]
theorem tupOf_lst {H : Hp} {a : Addr} {xs : List V} (e : H a = some (.lst xs)) : tupOf H (.ref a) = none := by
  unfold tupOf
  simp only [e]
theorem Kd.tupTy {K : PySem.W.Frag} {H : Hp} {x : V} (k : Kd H x) : ∃ t : String, TyX K H x (.type t) ∧ kitB t "tuple" = some (tupOf H x).isSome := by
  cases k with
  | non => exact ⟨_, .base .non, by show kitB "NoneType" "tuple" = some false; decide +kernel⟩
  | bl b => exact ⟨_, .base (.bl b), by show kitB "bool" "tuple" = some false; decide +kernel⟩
  | int i => exact ⟨_, .base (.int i), by show kitB "int" "tuple" = some false; decide +kernel⟩
  | str x => exact ⟨_, .base (.str x), by show kitB "str" "tuple" = some false; decide +kernel⟩
  | tup e => exact ⟨_, e.ty, by rw [tupOf_tup e]; show kitB "tuple" "tuple" = some true; decide +kernel⟩
  | lst e => exact ⟨_, .base (.lst e), by rw [tupOf_lst e]; show kitB "list" "tuple" = some false; decide +kernel⟩
theorem tup_some {H : Hp} {x : V} {xs : List V} (h : tupOf H x = some xs) : ∃ a, x = .ref a ∧ At H a xs := by
  unfold tupOf at h
  cases x with
  | ref a =>
    refine ⟨a, rfl, ?_⟩
    simp only at h
    split at h
    · rename_i e
      rw [← Option.some.inj h]
      exact .inl e
    · rename_i e
      rw [← Option.some.inj h]
      exact .inr ⟨_, e⟩
    · cases h
  | _ => cases h
theorem ok_are {f fI fW : Addr} {fd fdI fdW : FuncData} (F : Fun K "are_within" "are_within" sAre f fd) (T : Bi mg) (FW : Fun K "is_within" "is_within" sWithin fW fdW) (bW : Binds K fdW ["value", "low", "high"] []) (gW : mg "is_within" = some (.ref fW))
    (GW : FnOk P w K mg base CX0 2 fW fdW ["value", "low", "high"] spWithin) :
    FnOk P w K mg base CX0 3 f fd ["value", "low", "high"] spAre := by
  refine F.ok scAre (fun vs H Q E h => ?_) (fun cdv A outer s H vs Q E hr h => ?_)
  · obtain ⟨x, lo, hi, rfl, _⟩ := h
    rfl
  · obtain ⟨x, lo, hi, rfl, k, hk, q⟩ := h
    refine ⟨_, pss_cons (ps_if (pt_not (pt_val (pe_callB call_isi (by rfl) T.isinstance (by decide +kernel) (pa_cons (pv 0) (pa_cons (pe_bltn (v := .ty "tuple") (by rfl) T.tuple (by decide +kernel) rfl) pa_nil))))) (pss_one (ps_ret pe_bl)) pss_nil)
      (pss_one (ps_ret (pe_callB (cr_all rfl) (by rfl) T.all PyProof.Rows.boot_all (pa_cons (pe_lc (own := [("item", 3)]) (g := gName 3) (tt := tYes) rfl scAre.nd (pi_tup (pv 0)) (blkOk_by (N := ["value", "low", "high", "item"]) (sc := defScope sAre) (by decide +kernel)) (fun _ _ _ _ _ => pg_name (i := 3) scAre.nd rfl (Or.inl rfl)) (fun _ _ _ _ _ => pts_nil)
        (fun _ _ _ _ _ => pe_call GW hr (by rfl) gW FW.kp bW .nil pass0 (pa_cons (pv 3) (pa_cons (pv 1) (pa_cons (pv 2) pa_nil))))) pa_nil)))), ?_⟩
    obtain ⟨t, ty, h1⟩ := k.tupTy (K := K)
    refine ⟨x, rfl, x, .ty "tuple", _, _, _, rfl, .ty _, ty, kit_ty h1, _, rfl, ?_⟩
    cases ht : tupOf H x with
    | none =>
      rw [ht] at q
      exact iteT (q H (Same.refl H))
    | some xs =>
      rw [ht] at q
      obtain ⟨hz, hy⟩ := hk xs ht
      obtain ⟨a, rfl, ea⟩ := tup_some ht
      refine iteF ?_
      dsimp only [tNext, tRet, tCB, tCons]
      refine (lc_T (a := a) (fun R r => ⟨_, rfl, r⟩) (tl_of ea) (by omega) (fun x => rfl) (fun _ => true) (fun y => V.bl (inI lo hi y)) (fun y hm H1 s1 R r => r H1 (Same.refl H1)) (fun y hm _ H1 s1 R r => ?_) fun D H2 hD s2 e2 => ?_)
      · exact ⟨_, rfl, _, rfl, _, rfl, _, _, _, rfl, (hy y hm).same s1, r H1 (Same.refl H1)⟩
      · refine ⟨D, xs.map (inI lo hi), rfl, ll_of ?_, ?_⟩
        · rw [e2]
          unfold pick
          rw [List.filter_eq_self.mpr (fun _ _ => rfl), List.map_map]
          rfl
        · have e : (xs.map (inI lo hi)).all id = xs.all (inI lo hi) := by
            rw [List.all_map]
            rfl
          rw [e]
          exact q H2 s2
end
end Wo
/-! WoB -/
namespace Wo
open PySem PySem.Spec PyProof.Rows L2 WoR
/-! lists of ints as data -/
def dI (ns : List Int) : List PyData := ns.map PyData.int
theorem eqvAll_int : ∀ a b : List Int, PyData.eqvAll (dI a) (dI b) = decide (a = b)
  | [], [] => by simp [dI, PyData.eqvAll]
  | [], y :: b => by simp [dI, PyData.eqvAll]
  | x :: a, [] => by simp [dI, PyData.eqvAll]
  | x :: a, y :: b => by
    have ih := eqvAll_int a b
    show (PyData.eqv (.int x) (.int y) && PyData.eqvAll (dI a) (dI b)) = _
    rw [ih]
    show ((x == y) && decide (a = b)) = _
    by_cases h : x = y
    · subst h
      by_cases h2 : a = b
      · subst h2
        simp
      · simp [h2]
    · simp [h]
theorem canLay_int : ∀ a : List Int, PyData.canLayAll0 (dI a) = true
  | [] => by simp [dI, PyData.canLayAll0]
  | x :: a => by
    show (PyData.canLay0 (.int x) && PyData.canLayAll0 (dI a)) = true
    rw [canLay_int a]
    rfl
theorem depth_int : ∀ a : List Int, PyData.depthAll (dI a) = 0
  | [] => by simp [dI, PyData.depthAll]
  | x :: a => by
    show max (PyData.depth (.int x)) (PyData.depthAll (dI a)) = 0
    rw [depth_int a]
    rfl
theorem shaped_l (a : List Int) : SeqAt.shaped (.list (dI a)) = true := by
  unfold SeqAt.shaped
  rw [show PyData.canLay0 (.list (dI a)) = PyData.canLayAll0 (dI a) by simp [PyData.canLay0], canLay_int, show PyData.depth (.list (dI a)) = PyData.depthAll (dI a) + 1 by simp [PyData.depth], depth_int]
  rfl
theorem shaped_t (a : List Int) : SeqAt.shaped (.tuple (dI a)) = true := by
  unfold SeqAt.shaped
  rw [show PyData.canLay0 (.tuple (dI a)) = PyData.canLayAll0 (dI a) by simp [PyData.canLay0], canLay_int, show PyData.depth (.tuple (dI a)) = PyData.depthAll (dI a) + 1 by simp [PyData.depth], depth_int]
  rfl
theorem dpAll_int {K : PySem.W.Frag} {H : Hp} : ∀ a : List Int, DpAll K H (a.map V.int) (dI a)
  | [] => .nil
  | x :: a => .cons (.int x) (dpAll_int a)
theorem dp_l {K : PySem.W.Frag} {H : Hp} {p : Addr} {a : List Int} (h : SqL K H p (a.map V.int)) : Dp K H (.ref p) (.list (dI a)) := .lst h (dpAll_int a)
theorem dp_t {K : PySem.W.Frag} {H : Hp} {p : Addr} {a : List Int} (h : SqT K H p (a.map V.int)) : Dp K H (.ref p) (.tuple (dI a)) := .tup h (dpAll_int a)
/-! orders -/
def ci (ns : List Nat) : List Int := ns.map fun (n : Nat) => (n : Int)
def tn (ns : List Nat) : List V := (ci ns).map V.int
theorem tn_eq (ns : List Nat) : tn ns = ns.map fun (n : Nat) => V.int (n : Int) := by
  unfold tn ci
  rw [List.map_map]
  rfl
theorem tn_len (ns : List Nat) : (tn ns).length = ns.length := by
  unfold tn ci
  rw [List.length_map, List.length_map]
theorem ci_inj {a b : List Nat} (h : ci a = ci b) : a = b := by
  unfold ci at h
  exact (List.map_inj_right fun x y e => Int.ofNat.inj e).mp h
structure Ord (ns : List Nat) : Prop where
  pm : ns.Perm (List.range ns.length)
  pos : 0 < ns.length
  le : ns.length ≤ 30
def IsOrd (xs : List V) : Prop := ∃ ns : List Nat, xs = tn ns ∧ Ord ns
theorem Ord.lt {ns : List Nat} (o : Ord ns) {n : Nat} (h : n ∈ ns) : n < ns.length := by
  have := o.pm.mem_iff.mp h
  exact List.mem_range.mp this
theorem Ord.nd {ns : List Nat} (o : Ord ns) : ns.Nodup := o.pm.nodup_iff.mpr List.nodup_range
theorem rgV_ci (n : Nat) : rgV 0 (n : Int) = (ci (List.range n)).map V.int := by
  unfold rgV ci
  rw [List.map_map]
  rw [show ((n : Int) - 0).toNat = n by simp]
  apply List.map_congr_left
  intro a _
  show V.int (0 + (a : Int)) = V.int (a : Int)
  rw [Int.zero_add]
theorem sorted_range {ms : List Int} {n : Nat} (p : ms.Perm (ci (List.range n))) (s : ms.Pairwise (· ≤ ·)) : ms = ci (List.range n) := by
  refine List.Perm.eq_of_pairwise (le := (· ≤ ·)) (fun a b _ _ h1 h2 => Int.le_antisymm h1 h2) s ?_ p
  unfold ci
  rw [List.pairwise_map]
  exact List.pairwise_lt_range.imp fun h => by omega
/-- what sorted == list(range) says -/
theorem ord_iff {ns : List Int} {ms : List Int} (h0 : ∀ x ∈ ns, 0 ≤ x) (pos : 0 < ns.length) (le : ns.length ≤ 30) (p : ms.Perm ns) (s : ms.Pairwise (· ≤ ·)) : ms = ci (List.range ns.length) ↔ IsOrd (ns.map V.int) := by
  constructor
  · intro e
    refine ⟨ns.map Int.toNat, ?_, ?_, by rw [List.length_map]; exact pos, by rw [List.length_map]; exact le⟩
    · unfold tn ci
      rw [List.map_map,
          List.map_map]
      apply List.map_congr_left
      intro a ha
      show V.int a = V.int ((a.toNat : Nat) : Int)
      rw [Int.toNat_of_nonneg (h0 a ha)]
    · rw [List.length_map]
      have q := (p.symm.trans (List.Perm.of_eq e)).map Int.toNat
      refine q.trans (List.Perm.of_eq ?_)
      unfold ci
      rw [List.map_map]
      exact (List.map_congr_left (fun a _ => rfl)).trans (List.map_id _)
  · rintro ⟨os, e, o⟩
    have e2 : ns = ci os := by
      unfold tn at e
      exact (List.map_inj_right fun x y z => V.int.inj z).mp e
    have el : ns.length = os.length := by
      rw [e2]
      unfold ci
      rw [List.length_map]
    rw [el]
    refine sorted_range (p.trans ?_) s
    rw [e2]
    exact o.pm.map _
theorem ord_len {xs : List V} (h : IsOrd xs) : 0 < xs.length ∧ xs.length ≤ 30 := by
  obtain ⟨ns, rfl, o⟩ := h
  rw [tn_len]
  exact ⟨o.pos, o.le⟩
theorem ints_of {xs : List V} (h : xs.all (inI 0 29) = true) : ∃ ns : List Int, xs = ns.map V.int ∧ ∀ x ∈ ns, 0 ≤ x ∧ x ≤ 29 := by
  induction xs with
  | nil => exact ⟨[], rfl, by simp⟩
  | cons x xs ih =>
    rw [List.all_cons,
        Bool.and_eq_true] at h
    obtain ⟨ns, rfl, hn⟩ := ih h.2
    cases x with
    | int i =>
      have h1 := h.1
      unfold inI at h1
      rw [Bool.and_eq_true] at h1
      refine ⟨i :: ns, rfl, ?_⟩
      intro y hy
      rcases List.mem_cons.mp
          hy with rfl | hy
      · exact ⟨of_decide_eq_true h1.1, of_decide_eq_true h1.2⟩
      · exact hn y hy
    | _ => exact absurd h.1 Bool.false_ne_true
theorem ord_within {xs : List V} (h : IsOrd xs) : xs.all (inI 0 29) = true := by
  obtain ⟨ns, rfl, o⟩ := h
  rw [tn_eq, List.all_map, List.all_eq_true]
  intro n hn
  have h1 := o.lt hn
  have h2 := o.le
  show (decide ((0 : Int) ≤ (n : Int)) && decide ((n : Int) ≤ 29)) = true
  rw [Bool.and_eq_true]
  exact ⟨decide_eq_true (by omega), decide_eq_true (by omega)⟩
def OrdV (H : Hp) (x : V) : Prop := ∃ xs, tupOf H x = some xs ∧ IsOrd xs
section
variable {P : Program} {w : World} {K : PySem.W.Frag}
    {mg : Str → Option Value} {base : Heap}
abbrev sIsOrder : Stmt := topS 18
theorem scIsOrder : FnScope ["value"] ["value"] (defScope sIsOrder) := ⟨rfl, rfl, rfl, by decide +kernel, rfl, by decide +kernel, by decide +kernel⟩
/-- any value that the law hands in: of a kind, small, its items of a kind -/
structure Okv (H : Hp) (x : V) : Prop where
  k : Kd H x
  t : ∀ xs, tupOf H x = some xs → xs.length ≤ 1000 ∧ ∀ y ∈ xs, Kd H y
theorem tupOf_same {H H' : Hp} {x : V} {xs : List V} (s : Same H H') (h : tupOf H x = some xs) : tupOf H' x = some xs := by
  obtain ⟨a, rfl, e⟩ := tup_some h
  exact tupOf_tup (e.s s)
theorem Kd.tupOf_same {H H' : Hp} {x : V} (k : Kd H x) (s : Same H H') : tupOf H' x = tupOf H x := by
  cases k with
  | tup e => rw [tupOf_tup e, tupOf_tup (e.s s)]
  | lst e => rw [tupOf_lst e, tupOf_lst (s _ _ e)]
  | _ => rfl
theorem Okv.same {H H' : Hp} {x : V} (o : Okv H x) (s : Same H H') : Okv H' x := by
  refine ⟨o.k.same s, fun xs h => ?_⟩
  rw [o.k.tupOf_same s] at h
  obtain ⟨h1, h2⟩ := o.t xs h
  exact ⟨h1, fun y hy => (h2 y hy).same s⟩
theorem okv_ord {H : Hp} {a : Addr} {ns : List Nat} (o : Ord ns) (e : At H a (tn ns)) : Okv H (.ref a) := by
  refine ⟨.tup e, fun xs h => ?_⟩
  rw [tupOf_tup e] at h
  cases h
  refine ⟨by rw [tn_len]; have := o.le; omega, fun y hy => ?_⟩
  rw [tn_eq] at hy
  obtain ⟨n, _, rfl⟩ := List.mem_map.mp hy
  exact .int _
def spIsOrder : Sp := fun vs H Q _ => ∃ x, vs = [x] ∧ Okv H x ∧ ∀ b H', Same H H' → (b = true ↔ OrdV H x) → Q (.bl b) H'
theorem ok_isOrder {f fA : Addr} {fd fdA : FuncData} {t : Tok} (F : Fun K "is_order" "is_order" sIsOrder f fd) (T : Bi mg) (FA : Fun K "are_within" "are_within" sAre fA fdA) (bA : Binds K fdA ["value", "low", "high"] []) (gA : mg "are_within" = some (.ref fA))
    (gN : mg "MOST_THINGS" = some (.int 30 t)) (GA : FnOk P w K mg base CX0 3 fA fdA ["value", "low", "high"] spAre) :
    FnOk P w K mg base CX0 4 f fd ["value"] spIsOrder := by
  refine F.ok scIsOrder (fun vs H Q E h => ?_) (fun cdv A outer s H vs Q E hr h => ?_)
  · obtain ⟨x, rfl, _⟩ := h
    rfl
  · obtain ⟨x, rfl, k, q⟩ := h
    refine ⟨_, pss_cons (ps_if (pt_not (pt_val (pe_call GA hr (by rfl) gA FA.kp bA .nil pass0 (pa_cons (pv 0) (pa_cons pe_int (pa_cons (pe_op op_sub (pe_glob (v := .int 30) (by rfl) gN ⟨_, rfl⟩) pe_int) pa_nil)))))) (pss_one (ps_ret pe_bl)) pss_nil)
      (pss_one (ps_ret (pe_and (pe_cmpR op_gt (pe_callB call_len_seq (by rfl) T.len PySem.boot_len (pa_cons (pv 0) pa_nil)) pe_int (nomark _))
        (pe_one (pe_cmpR (op_eqD hr.units) (pe_callB cr_srtT (by rfl) T.sorted PyProof.Rows.boot_sorted (pa_cons (pv 0) pa_nil)) (pe_listRg rfl (by rfl) T.list (prg_1 (by rfl) T.range (pe_callB call_len_seq (by rfl) T.len PySem.boot_len (pa_cons (pv 0) pa_nil)))) (nomark _)))))), ?_⟩
    refine ⟨x, rfl, _, _, rfl, rfl, x, 0, 29, rfl, k.k, k.t, fun H1 s1 => ⟨_, rfl, ?_⟩⟩
    cases ht : tupOf H x with
    | none =>
      refine iteT (q false H1 s1 ⟨fun h => absurd h Bool.false_ne_true, fun ⟨xs, h, _⟩ => ?_⟩)
      rw [ht] at h
      cases h
    | some xs =>
      obtain ⟨a, rfl, ea⟩ := tup_some ht
      show if (!xs.all (inI 0 29)) = true then _ else _
      cases hw : xs.all (inI 0 29) with
      | false =>
        refine iteT (q false H1 s1 ⟨fun h => absurd h Bool.false_ne_true, fun ⟨ys, h, o⟩ => ?_⟩)
        rw [ht] at h
        cases h
        rw [ord_within o] at hw
        cases hw
      | true =>
        obtain ⟨ns, rfl, hn⟩ := ints_of hw
        have ea1 := ea.s s1
        refine iteF ⟨.ref a, rfl, a, _, rfl, .inr (tl_of ea1), _, _, rfl, rfl, _, rfl, ?_⟩
        have hl0 := (k.t _ ht).1
        rw [List.length_map] at hl0
        cases hp : decide ((0 : Int) < ((ns.map V.int).length : Int)) with
        | false =>
          refine iteF (q false H1 s1 ⟨fun h => absurd h Bool.false_ne_true, fun ⟨ys, h, o⟩ => ?_⟩)
          rw [ht] at h
          cases h
          have := of_decide_eq_false hp
          have := (ord_len o).1
          omega
        | true =>
          have hp := of_decide_eq_true hp
          rw [List.length_map] at hp
          refine iteT ⟨.ref a, rfl, a, ns, rfl, tl_of ea1, fun ms p pm ps np => ?_⟩
          have s2 := same_new (o := .lst (ms.map V.int)) np
          refine ⟨.ref a, rfl, a, _, rfl, .inr (tl_of (ea1.s s2)), _, rfl, .of_le (by omega) (by rw [List.length_map]; omega) (by omega) (by omega), fun r nr => ?_⟩
          rw [List.length_map, rgV_ci]
          refine ⟨_, _, dp_l (ll_of (same_new nr _ _ (upd_same))), dp_l (ll_of upd_same), shaped_l _, shaped_l _, ?_⟩
          rw [show PyData.eqv (.list (dI ms)) (.list (dI (ci (List.range ns.length)))) = PyData.eqvAll (dI ms) (dI (ci (List.range ns.length))) by simp [PyData.eqv], eqvAll_int]
          refine q _ _ ((s1.trans s2).trans (same_new nr)) ?_
          rw [decide_eq_true_iff]
          by_cases h30 : ns.length ≤ 30
          · rw [ord_iff (fun x hx => (hn x hx).1) (by omega) h30 pm ps]
            constructor
            · exact fun o => ⟨_, ht, o⟩
            · rintro ⟨ys, h, o⟩
              rw [ht] at h
              cases h
              exact o
          · constructor
            · intro e
              have m : (30 : Int) ∈ ms := by
                rw [e]
                unfold ci
                exact List.mem_map.mpr ⟨30, List.mem_range.mpr (by omega), rfl⟩
              have := (hn 30 (pm.mem_iff.mp m)).2
              omega
            · rintro ⟨ys, h, o⟩
              rw [ht] at h
              cases h
              have := (ord_len o).2
              rw [List.length_map] at this
              omega
end
end Wo
/-! WoC -/
namespace Wo
open PySem PySem.Spec PyProof.Rows L2 WoR
/-- an own class of errors, at C -/
structure Er (K : PySem.W.Frag) (mg : Str → Option Value) (x : Str) (C : Addr) : Prop where
  g : mg x = some (.ref C)
  x : PySem.W.excIn K C [.type "ValueError", .type "Exception", .type "BaseException", .type "object"] "ValueError.__new__" = true
  k : PySem.W.keepIn K (.ref C) = true
  b : PySem.W.subIn K (.ref C) (.type "BaseException") = some true
  t : PySem.W.typeIn K (.ref C) = some (.type "type")
section
variable {P : Program} {w : World} {K : PySem.W.Frag}
    {mg : Str → Option Value} {base : Heap}
/-- a def that may raise (nothing handled around) -/
theorem okN {x qual : Str} {st : Stmt} {f : Addr} {fd : FuncData} {N ps : List Str} {k : Nat} {sp : Sp} (F : Fun K x qual st f fd) (S : FnScope N ps (defScope st)) (len : ∀ vs H Q E, sp vs H Q E → vs.length = ps.length)
    (hb : ∀ (cdv : Value) (A : Around) (outer : List Env) (s : Shared) (H : Hp) (vs : List V) (Q : VK) (E : XK), Room k (A.deeper (envOfC qual (defScope st) s.heap.objs.size f cdv)) → sp vs H Q E →
      ∃ t, PSs (cxOf (L2N.CX P w) P w K mg base N qual (defScope st) f cdv A outer s H E) (defBody st) t ∧ t { nx := fun _ H' => Q .non H', rt := Q } (L2.start N vs) H) : FnOk P w K mg base (L2N.CX P w) (k + 1) f fd ps sp := by
  obtain ⟨oc, od, kV, doc, pm, an, cdv,
      ct, osl, rfl, lk, hcd⟩ := F.ex
  exact fn_of lk hcd S len fun A o s H vs Q E hr h => hb cdv A o s H vs Q E hr h
/-- a def called while an exception is handled -/
theorem okH {x qual : Str} {st : Stmt} {f : Addr} {fd : FuncData} {N ps : List Str} {k : Nat} {sp : Sp} (F : Fun K x qual st f fd) (S : FnScope N ps (defScope st)) (len : ∀ vs H Q E, sp vs H Q E → vs.length = ps.length)
    (hb : ∀ (cdv : Value) (A : Around) (outer : List Env) (s : Shared) (H : Hp) (vs : List V) (Q : VK) (E : XK) (p : Addr × Obj), L2H.Hot1 A p → L2H.RoomH k (A.deeper (envOfC qual (defScope st) s.heap.objs.size f cdv)) → sp vs H Q E →
      ∃ t, PSs (L2H.cxH CX0 P w K mg base N qual (defScope st) f cdv A outer s H E p) (defBody st) t ∧ t { nx := fun _ H' => Q .non H', rt := Q } (L2.start N vs) H) : L2H.FnH P w K mg base CX0 (k + 1) f fd ps sp := by
  obtain ⟨oc, od, kV, doc, pm, an, cdv,
      ct, osl, rfl, lk, hcd⟩ := F.ex
  exact L2H.fn_ofH lk hcd S len fun A o s H vs Q E p hot hr h => hb cdv A o s H vs Q E p hot hr h
/-- a call that lets nothing out -/
theorem passN {X : Cx} : Passes (L2N.CX X.prog X.w) X E0 := fun _ _ _ _ _ _ _ ⟨_, _, _, _, _, _, _, _, _, _, _, _, z⟩ => z.elim
theorem passX {X : Cx} {E : XK} (tk : L2N.Takes X (fun cls d _ H => E cls d H)) : Passes (L2N.CX X.prog X.w) X E := L2N.passes_call tk fun _ _ _ _ h => h
def lenOf (H : Hp) (x : V) : Nat := ((tupOf H x).map List.length).getD 0
def rgT (n : Nat) : List V := (ci (List.range n)).map V.int
/-- a def that makes a tuple of so many things, or says InvalidMany -/
def spMk (CM : Addr) (g : Nat → List Nat) : Sp := fun vs H Q E => ∃ x, vs = [x] ∧ Kd H x ∧ (∀ n : Nat, x = .int (n : Int) → 1 ≤ n → n ≤ 30 → ∀ p H', H p = none → Same H H' → H' p = some (.tup (tn (g n))) → Q (.ref p) H') ∧ (inI 1 30 x = false → E (.ref CM) none H)
theorem in_nat {x : V} (h : inI 1 30 x = true) : ∃ n : Nat, x = .int (n : Int) ∧ 1 ≤ n ∧ n ≤ 30 := by
  cases x with
  | int i =>
    unfold inI at h
    rw [Bool.and_eq_true] at h
    have h1 := of_decide_eq_true h.1
    have h2 := of_decide_eq_true h.2
    exact ⟨i.toNat, by rw [Int.toNat_of_nonneg (by omega)], by omega, by omega⟩
  | _ => exact absurd h Bool.false_ne_true
abbrev sChk : Stmt := topS 19
theorem scChk : FnScope ["value"] ["value"] (defScope sChk) := ⟨rfl, rfl, rfl, by decide +kernel, rfl, by decide +kernel, by decide +kernel⟩
def spChk (CO : Addr) : Sp := fun vs H Q E => ∃ x, vs = [x] ∧ Okv H x ∧ ∀ H', Same H H' → (OrdV H x → Q .non H') ∧ (¬ OrdV H x → E (.ref CO) none H')
theorem ok_chk {f fI CO : Addr} {fd fdI : FuncData} (F : Fun K "check_order" "check_order" sChk f fd) (FI : Fun K "is_order" "is_order" sIsOrder fI fdI) (bI : Binds K fdI ["value"] []) (gI : mg "is_order" = some (.ref fI))
    (GI : FnOk P w K mg base CX0 4 fI fdI ["value"] spIsOrder) (O : Er K mg "InvalidOrder" CO) : FnOk P w K mg base (L2N.CX P w) 5 f fd ["value"] (spChk CO) := by
  refine okN F scChk (fun vs H Q E h => ?_) (fun cdv A outer s H vs Q E hr h => ?_)
  · obtain ⟨x, rfl, _⟩ := h
    rfl
  · obtain ⟨x, rfl, k, q⟩ := h
    refine ⟨_, pss_one (ps_if (pt_not (pt_val (pe_call GI hr (by rfl) gI FI.kp bI .nil pass0 (pa_cons (pv 0) pa_nil))))
      (pss_one (L2N.ps_raise rfl (L2N.takes_of rfl rfl rfl rfl) (L2N.pmk_own PySem.F.excBase_ValueError O.x O.g O.k (raises_own O.b O.t) rfl))) pss_nil), ?_⟩
    refine ⟨x, rfl, x, rfl, k, fun b H1 s1 hb => ⟨_, rfl, ?_⟩⟩
    obtain ⟨q1, q2⟩ := q H1 s1
    cases b with
    | true => exact iteF (q1 (hb.mp rfl))
    | false => exact iteT (q2 fun h => absurd (hb.mpr h) Bool.false_ne_true)
abbrev sChks : Stmt := topS 20
theorem scChks : FnScope ["one", "other"] ["one", "other"] (defScope sChks) := ⟨rfl, rfl, rfl, by decide +kernel, rfl, by decide +kernel, by decide +kernel⟩
def spChks (CO CU : Addr) : Sp := fun vs H Q E => ∃ x y, vs = [x, y] ∧ Okv H x ∧ Okv H y ∧ ∀ H', Same H H' → (OrdV H x → OrdV H y → lenOf H x = lenOf H y → Q .non H') ∧ (¬ OrdV H x → E (.ref CO) none H') ∧ (OrdV H x → ¬ OrdV H y → E (.ref CO) none H') ∧
  (OrdV H x → OrdV H y → lenOf H x ≠ lenOf H y → E (.ref CU) none H')
theorem ok_chks {f fC CO CU : Addr} {fd fdC : FuncData} (F : Fun K "check_orders" "check_orders" sChks f fd) (T : Bi mg) (FC : Fun K "check_order" "check_order" sChk fC fdC) (bC : Binds K fdC ["value"] []) (gC : mg "check_order" = some (.ref fC))
    (GC : FnOk P w K mg base (L2N.CX P w) 5 fC fdC ["value"] (spChk CO)) (U : Er K mg "Unlike" CU) : FnOk P w K mg base (L2N.CX P w) 6 f fd ["one", "other"] (spChks CO CU) := by
  refine okN F scChks (fun vs H Q E h => ?_) (fun cdv A outer s H vs Q E hr h => ?_)
  · obtain ⟨x, y, rfl, _⟩ := h
    rfl
  · obtain ⟨x, y, rfl, kx, ky, q⟩ := h
    refine ⟨_, pss_cons (ps_expr (pe_call GC hr (by rfl) gC FC.kp bC .nil (passX (L2N.takes_of rfl rfl rfl rfl)) (pa_cons (pv 0) pa_nil)))
      (pss_cons (ps_expr (pe_call GC hr (by rfl) gC FC.kp bC .nil (passX (L2N.takes_of rfl rfl rfl rfl)) (pa_cons (pv 1) pa_nil)))
      (pss_one (ps_if (pt_cmpR op_ne (pe_callB call_len_seq (by rfl) T.len PySem.boot_len (pa_cons (pv 0) pa_nil)) (pe_callB call_len_seq (by rfl) T.len PySem.boot_len (pa_cons (pv 1) pa_nil)) (nomark _))
        (pss_one (L2N.ps_raise rfl (L2N.takes_of rfl rfl rfl rfl) (L2N.pmk_own PySem.F.excBase_ValueError U.x U.g U.k (raises_own U.b U.t) rfl))) pss_nil))), ?_⟩
    refine ⟨x, rfl, x, rfl, kx, fun H1 s1 => ⟨fun ox => ?_, fun nx => (q H1 s1).2.1 nx⟩⟩
    have oy' : OrdV H1 y ↔ OrdV H y := by
      unfold OrdV
      rw [ky.k.tupOf_same s1]
    refine ⟨y, rfl, y, rfl, ky.same s1, fun H2 s2 => ⟨fun oy => ?_, fun ny => (q H2 (s1.trans s2)).2.2.1 ox fun h => ny (oy'.mpr h)⟩⟩
    have oy0 := oy'.mp oy
    obtain ⟨xs, tx, _⟩ := id ox
    obtain ⟨ys, ty, _⟩ := id oy0
    obtain ⟨a, rfl, ea⟩ := tup_some tx
    obtain ⟨b, rfl, eb⟩ := tup_some ty
    have ea2 := (ea.s s1).s s2
    have eb2 := (eb.s s1).s s2
    have lx : lenOf H (.ref a) = xs.length := by
      unfold lenOf
      rw [tx]
      rfl
    have ly : lenOf H (.ref b) = ys.length := by
      unfold lenOf
      rw [ty]
      rfl
    obtain ⟨q1, _, _, q4⟩ := q H2 (s1.trans s2)
    rw [lx, ly] at q1 q4
    refine ⟨.ref a, rfl, a, _, rfl, .inr (tl_of ea2), .ref b, rfl, b, _, rfl, .inr (tl_of eb2), rfl, _, rfl, ?_⟩
    by_cases e : xs.length = ys.length
    · rw [e]
      exact iteNS rfl (q1 ox oy0 e)
    · have ne : (V.int (xs.length : Int) = V.int (ys.length : Int)) → False := fun z => e (Int.ofNat.inj (V.int.inj z))
      rw [decide_eq_false ne]
      exact iteT (q4 ox oy0 e)
abbrev sMany : Stmt := topS 21
theorem scMany : FnScope ["value"] ["value"] (defScope sMany) := ⟨rfl, rfl, rfl, by decide +kernel, rfl, by decide +kernel, by decide +kernel⟩
def spMany (CM : Addr) : Sp := fun vs H Q E => ∃ x, vs = [x] ∧ Kd H x ∧ (inI 1 30 x = true → Q .non H) ∧ (inI 1 30 x = false → E (.ref CM) none H)
theorem ok_many {f fW CM : Addr} {fd fdW : FuncData} {t : Tok} (F : Fun K "check_many" "check_many" sMany f fd) (FW : Fun K "is_within" "is_within" sWithin fW fdW) (bW : Binds K fdW ["value", "low", "high"] []) (gW : mg "is_within" = some (.ref fW))
    (GW : FnOk P w K mg base CX0 2 fW fdW ["value", "low", "high"] spWithin) (gN : mg "MOST_THINGS" = some (.int 30 t)) (M : Er K mg "InvalidMany" CM) : FnOk P w K mg base (L2N.CX P w) 3 f fd ["value"] (spMany CM) := by
  refine okN F scMany (fun vs H Q E h => ?_) (fun cdv A outer s H vs Q E hr h => ?_)
  · obtain ⟨x, rfl, _⟩ := h
    rfl
  · obtain ⟨x, rfl, k, q1, q2⟩ := h
    refine ⟨_, pss_one (ps_if (pt_not (pt_val (pe_call GW hr (by rfl) gW FW.kp bW .nil pass0 (pa_cons (pv 0) (pa_cons pe_int (pa_cons (pe_glob (v := .int 30) (by rfl) gN ⟨_, rfl⟩) pa_nil))))))
      (pss_one (L2N.ps_raise rfl (L2N.takes_of rfl rfl rfl rfl) (L2N.pmk_own PySem.F.excBase_ValueError M.x M.g M.k (raises_own M.b M.t) rfl))) pss_nil), ?_⟩
    refine ⟨x, rfl, x, 1, 30, rfl, k, _, rfl, ?_⟩
    cases hb : inI 1 30 x with
    | true => exact iteF (q1 hb)
    | false => exact iteT (q2 hb)
abbrev sPlain : Stmt := topS 22
theorem scPlain : FnScope ["many"] ["many"] (defScope sPlain) := ⟨rfl, rfl, rfl, by decide +kernel, rfl, by decide +kernel, by decide +kernel⟩
theorem ok_plain {f fM CM : Addr} {fd fdM : FuncData} (F : Fun K "plain_order" "plain_order" sPlain f fd) (T : Bi mg) (FM : Fun K "check_many" "check_many" sMany fM fdM) (bM : Binds K fdM ["value"] []) (gM : mg "check_many" = some (.ref fM))
    (GM : FnOk P w K mg base (L2N.CX P w) 3 fM fdM ["value"] (spMany CM)) : FnOk P w K mg base (L2N.CX P w) 4 f fd ["many"] (spMk CM List.range) := by
  refine okN F scPlain (fun vs H Q E h => ?_) (fun cdv A outer s H vs Q E hr h => ?_)
  · obtain ⟨x, rfl, _⟩ := h
    rfl
  · obtain ⟨x, rfl, k, q1, q2⟩ := h
    refine ⟨_, pss_cons (ps_expr (pe_call GM hr (by rfl) gM FM.kp bM .nil (passX (L2N.takes_of rfl rfl rfl rfl)) (pa_cons (pv 0) pa_nil)))
      (pss_one (ps_ret (pe_tupRg rfl (by rfl) T.tuple (prg_1 (by rfl) T.range (pv 0))))), ?_⟩
    refine ⟨x, rfl, x, rfl, k, fun h => ?_, q2⟩
    obtain ⟨n, rfl, h1, h2⟩ := in_nat h
    refine ⟨_, rfl, _, rfl, .of_le (by omega) (by omega) (by omega) (by omega), fun p np => ?_⟩
    rw [rgV_ci]
    exact q1 n rfl h1 h2 p _ np (same_new np) upd_same
abbrev sLast : Stmt := topS 23
theorem scLast : FnScope ["many"] ["many"] (defScope sLast) := ⟨rfl, rfl, rfl, by decide +kernel, rfl, by decide +kernel, by decide +kernel⟩
theorem backI_tn (n : Nat) : backI n = tn ((List.range n).reverse) := by
  unfold backI
  rw [tn_eq, ← PySem.W.krv_range, List.map_map]
  apply List.map_congr_left
  intro a ha
  have := List.mem_range.mp ha
  show V.int _ = V.int ((n - 1 - a : Nat) : Int)
  congr 1
  omega
theorem ok_last {f fM CM : Addr} {fd fdM : FuncData} (F : Fun K "last_order" "last_order" sLast f fd) (T : Bi mg) (FM : Fun K "check_many" "check_many" sMany fM fdM) (bM : Binds K fdM ["value"] []) (gM : mg "check_many" = some (.ref fM))
    (GM : FnOk P w K mg base (L2N.CX P w) 3 fM fdM ["value"] (spMany CM)) : FnOk P w K mg base (L2N.CX P w) 4 f fd ["many"] (spMk CM fun n => (List.range n).reverse) := by
  refine okN F scLast (fun vs H Q E h => ?_) (fun cdv A outer s H vs Q E hr h => ?_)
  · obtain ⟨x, rfl, _⟩ := h
    rfl
  · obtain ⟨x, rfl, k, q1, q2⟩ := h
    refine ⟨_, pss_cons (ps_expr (pe_call GM hr (by rfl) gM FM.kp bM .nil (passX (L2N.takes_of rfl rfl rfl rfl)) (pa_cons (pv 0) pa_nil)))
      (pss_one (ps_ret (pe_tupBack rfl (by rfl) T.tuple (by rfl) T.reversed (by rfl) T.range (pv 0)))), ?_⟩
    refine ⟨x, rfl, x, rfl, k, fun h => ?_, q2⟩
    obtain ⟨n, rfl, h1, h2⟩ := in_nat h
    refine ⟨_, rfl, _, rfl, n, rfl, rfl, by omega, fun p np => ?_⟩
    rw [backI_tn]
    exact q1 n rfl h1 h2 p _ np (same_new np) upd_same
end
end Wo
/-! WoD -/
namespace Wo
open PySem PySem.Spec PyProof.Rows L2 WoR
/-! the mathematics of opposites, orders led, turned about and over -/
def opp (ns : List Nat) : List Nat := (List.range ns.length).map fun t => ns.idxOf t
def ledN (ns ms : List Nat) : List Nat := ms.map fun t => ns.getD t 0
def overN (ns : List Nat) : List Nat := ns.map fun t => ns.length - 1 - t
theorem opp_len (ns : List Nat) : (opp ns).length = ns.length := by
  unfold opp
  rw [List.length_map,
      List.length_range]
theorem opp_of {ns L : List Nat} (o : Ord ns) (hl : L.length = ns.length) (h : ∀ j t : Nat, ns[j]? = some t → L[t]? = some j) : L = opp ns := by
  apply List.ext_getElem?
  intro t
  by_cases ht : t < ns.length
  · have hm : t ∈ ns := o.pm.mem_iff.mpr (List.mem_range.mpr ht)
    have hj : ns.idxOf t < ns.length := List.idxOf_lt_length_iff.mpr hm
    have e : ns[ns.idxOf t]? = some t := by
      rw [List.getElem?_eq_getElem hj, List.getElem_idxOf hj]
    rw [h _ _ e]
    unfold opp
    rw [List.getElem?_map, List.getElem?_range ht]
    rfl
  · rw [List.getElem?_eq_none (by omega), List.getElem?_eq_none (by rw [opp_len]; omega)]
theorem tn_get {ns : List Nat} {i t : Nat} (h : ns[i]? = some t) : (tn ns)[i]? = some (.int (t : Int)) := by
  rw [tn_eq, List.getElem?_map, h]
  rfl
theorem tn_get' {ns : List Nat} {i : Nat} {x : V} (h : (tn ns)[i]? = some x) : ∃ t, ns[i]? = some t ∧ x = .int (t : Int) := by
  rw [tn_eq, List.getElem?_map] at h
  cases e : ns[i]? with
  | none =>
    rw [e] at h
    cases h
  | some t =>
    rw [e] at h
    exact ⟨t, rfl, (Option.some.inj h).symm⟩
theorem tn_set (L : List Nat) (t j : Nat) : (tn L).set t (.int (j : Int)) = tn (L.set t j) := by
  rw [tn_eq, tn_eq, List.map_set]
theorem pick_all (f : V → V) (xs : List V) : pick (fun _ => true) f xs = xs.map f := by
  unfold pick
  rw [List.filter_eq_self.mpr fun _ _ => rfl]
section
variable {P : Program} {w : World} {K : PySem.W.Frag}
    {mg : Str → Option Value} {base : Heap}
theorem walk_enT {a : Addr} {xs : List V} : Walk (IteT K a) xs.length (fun H => SqT K H a xs) (YPair (fun i => some (.int (i : Int))) (fun i => xs[i]?)) :=
  ⟨fun i _ hi q => ⟨xs, xs[i], q, by simp [hi]⟩, fun _ q => ⟨xs, q, rfl⟩, fun i H v H' _ q y => by
    obtain ⟨T, x, e1, e2, e3, e4⟩ := y
    exact ⟨T, _, x, e1, e2, e3, rfl, e4 xs q⟩⟩
def spIn (g : List Nat → List Nat) : Sp := fun vs H Q _ => ∃ a ns, vs = [.ref a] ∧ At H a (tn ns) ∧ Ord ns ∧ ∀ p H', H p = none → Same H H' → H' p = some (.tup (tn (g ns))) → Q (.ref p) H'
/-- a def of one order, that makes another one of it -/
def spOne (CO : Addr) (g : List Nat → List Nat) : Sp := fun vs H Q E => ∃ x, vs = [x] ∧ Okv H x ∧
  (∀ a ns, x = .ref a → At H a (tn ns) → Ord ns → ∀ p H', H p = none → Same H H' → H' p = some (.tup (tn (g ns))) → Q (.ref p) H') ∧ (¬ OrdV H x → ∀ H', Same H H' → E (.ref CO) none H')
theorem ordV_at {H : Hp} {x : V} (h : OrdV H x) : ∃ a ns, x = .ref a ∧ At H a (tn ns) ∧ Ord ns := by
  obtain ⟨xs, e, ns, rfl, o⟩ := h
  obtain ⟨a, rfl, ea⟩ := tup_some e
  exact ⟨a, ns, rfl, ea, o⟩
theorem ordV_of {H : Hp} {a : Addr} {ns : List Nat} (e : At H a (tn ns)) (o : Ord ns) : OrdV H (.ref a) := ⟨_, tupOf_tup e, ns, rfl, o⟩
abbrev sOpIn : Stmt := topS 25
theorem scOpIn : FnScope ["order", "places", "place", "thing"] ["order"] (defScope sOpIn) := ⟨rfl, rfl, rfl, by decide +kernel, rfl, by decide +kernel, by decide +kernel⟩
theorem ok_opIn {f : Addr} {fd : FuncData} (F : Fun K "opposite_in" "opposite_in" sOpIn f fd) (T : Bi mg) : FnOk P w K mg base CX0 1 f fd ["order"] (spIn opp) := by
  refine F.ok scOpIn (fun vs H Q E h => ?_) (fun cdv A outer s H vs Q E hr h => ?_)
  · obtain ⟨a, ns, rfl, _⟩ := h
    rfl
  · obtain ⟨a, ns, rfl, ea, o, q⟩ := h
    refine ⟨_, pss_cons (ps_set (i := 1) scOpIn.nd rfl (.inl rfl) (pe_callTy call_list_of (by rfl) T.list (by decide +kernel) (pa_cons (pv 0) pa_nil)))
      (pss_cons (ps_for PassesOwn.never rfl (pi_enT (by rfl) T.enumerate (pa_cons (pv 0) pa_nil)) (pg_tup rfl (pgs_cons (pg_name (i := 2) scOpIn.nd rfl (.inl rfl)) (pgs_cons (pg_name (i := 3) scOpIn.nd rfl (.inl rfl)) pgs_nil)))
        (pss_one (ps_asg (pv 2) (pg_sub (pv 1) (pv 3) set_list))))
      (pss_one (ps_ret (pe_tupleOf (by rfl) T.tuple (pv 1))))), ?_⟩
    refine ⟨.ref a, rfl, a, _, rfl, .inr (tl_of ea), fun p np => ?_⟩
    have nap : a ≠ p := ea.old np
    refine ⟨.ref a, rfl, a, _, rfl, tl_of (ea.s (same_new np)), for_it (walk_enT (K := K) (a := a) (xs := tn ns)) (fun i σ H' => ∃ y2 y3 L, σ = [some (.ref a), some (.ref p), y2, y3] ∧ Same H H' ∧ H' p = some (.lst (tn L)) ∧ L.length = ns.length ∧ ∀ j : Nat, j < i → ∀ t : Nat, ns[j]? = some t → L[t]? = some j)
      ⟨none, none, ns, rfl, same_new np, upd_same, rfl, fun j hj => absurd hj (Nat.not_lt_zero j)⟩ (fun i σ H' _ ⟨_, _, _, _, s1, _⟩ => tl_of (ea.s s1)) ?_ ?_⟩
    · rintro i x σ H' H2 hi ⟨y2, y3, L, rfl, s1, ep, hl, hj⟩ ⟨Tp, x1, x2, rfl, nT, rfl, e1, e2⟩
      cases e1
      obtain ⟨t, et, rfl⟩ := tn_get' e2
      have htl : t < L.length := by
        rw [hl]
        exact o.lt (List.mem_of_getElem? et)
      have nTp : p ≠ Tp := ne_of_none ep nT
      have ep2 : (upd H' Tp (.tup [.int (i : Int), .int (t : Int)])) p = some (.lst (tn L)) := by
        rw [upd_ne nTp]
        exact ep
      refine ⟨Tp, [.int (i : Int), .int (t : Int)], rfl, tl_of (.of upd_same), rfl, _, _, rfl, _, _, rfl, rfl, ?_⟩
      refine ⟨.int (i : Int), rfl, .ref p, rfl, .int (t : Int), rfl, p, _, _, t, rfl, rfl, ep2, Evl.ixN_nat (by rw [tn_len]; exact htl), ?_⟩
      refine ⟨_, _, L.set t i, rfl, same_mut (s1.trans (same_new nT)) np, ?_, by rw [List.length_set]; exact hl, fun j hj' u hu => ?_⟩
      · rw [upd_same, tn_set]
      · by_cases e : j = i
        · subst e
          rw [et] at hu
          cases hu
          exact List.getElem?_set_self htl
        · have hne : t ≠ u := fun z => by
            subst z
            have z1 := (List.getElem?_inj (Nat.lt_of_lt_of_le hi (Nat.le_of_eq (tn_len ns))) o.nd).mp (et.trans hu.symm)
            exact e z1.symm
          rw [List.getElem?_set_ne hne]
          exact hj j (by omega) u hu
    · rintro σ H' ⟨y2, y3, L, rfl, s1, ep, hl, hj⟩
      rw [tn_len] at hj
      have eL : L = opp ns := opp_of o hl fun j t h => hj j (List.getElem?_eq_some_iff.mp h).1 t h
      subst eL
      refine ⟨.ref p, rfl, .inl ⟨p, _, rfl, ll_of ep, fun r nr => ?_⟩⟩
      refine q r _ ?_ (s1.trans (same_new nr)) upd_same
      exact s1.free nr
abbrev sOp : Stmt := topS 24
theorem scOp : FnScope ["order"] ["order"] (defScope sOp) := ⟨rfl, rfl, rfl, by decide +kernel, rfl, by decide +kernel, by decide +kernel⟩
theorem ok_op {f fC fI CO : Addr} {fd fdC fdI : FuncData} (F : Fun K "opposite" "opposite" sOp f fd) (FC : Fun K "check_order" "check_order" sChk fC fdC) (bC : Binds K fdC ["value"] []) (gC : mg "check_order" = some (.ref fC))
    (GC : FnOk P w K mg base (L2N.CX P w) 5 fC fdC ["value"] (spChk CO)) (FI : Fun K "opposite_in" "opposite_in" sOpIn fI fdI) (bI : Binds K fdI ["order"] []) (gI : mg "opposite_in" = some (.ref fI)) (GI : FnOk P w K mg base CX0 1 fI fdI ["order"] (spIn opp)) :
    FnOk P w K mg base (L2N.CX P w) 6 f fd ["order"] (spOne CO opp) := by
  refine okN F scOp (fun vs H Q E h => ?_) (fun cdv A outer s H vs Q E hr h => ?_)
  · obtain ⟨x, rfl, _⟩ := h
    rfl
  · obtain ⟨x, rfl, k, q1, q2⟩ := h
    refine ⟨_, pss_cons (ps_expr (pe_call GC hr (by rfl) gC FC.kp bC .nil (passX (L2N.takes_of rfl rfl rfl rfl)) (pa_cons (pv 0) pa_nil)))
      (pss_one (ps_ret (pe_call GI (hr.mono (by decide)) (by rfl) gI FI.kp bI .nil pass0 (pa_cons (pv 0) pa_nil)))), ?_⟩
    refine ⟨x, rfl, x, rfl, k, fun H1 s1 => ⟨fun ox => ?_, fun nx => q2 nx H1 s1⟩⟩
    obtain ⟨a, ns, rfl, ea, o⟩ := ordV_at ox
    exact ⟨.ref a, rfl, a, ns, rfl, ea.s s1, o, fun p H2 np s2 e2 => q1 a ns rfl ea o p H2 (s1.free np) (s1.trans s2) e2⟩
abbrev sLedIn : Stmt := topS 27
theorem scLedIn : FnScope ["one", "other", "thing"] ["one", "other"] (defScope sLedIn) := ⟨rfl, rfl, rfl, by decide +kernel, rfl, by decide +kernel, by decide +kernel⟩
def ledF (ns : List Nat) : V → V
  | .int i => .int ((ns.getD i.toNat 0 : Nat) : Int)
  | _ => .non
theorem ledF_tn (ns ms : List Nat) : (tn ms).map (ledF ns) = tn (ledN ns ms) := by
  rw [tn_eq, tn_eq, List.map_map]
  unfold ledN
  rw [List.map_map]
  rfl
def spLedIn : Sp := fun vs H Q _ => ∃ a b ns ms, vs = [.ref a, .ref b] ∧ At H a (tn ns) ∧ At H b (tn ms) ∧ Ord ns ∧ Ord ms ∧ ns.length = ms.length ∧
  ∀ p H', H p = none → Same H H' → H' p = some (.tup (tn (ledN ns ms))) → Q (.ref p) H'
theorem ok_ledIn {f : Addr} {fd : FuncData} (F : Fun K "led_in" "led_in" sLedIn f fd) (T : Bi mg) : FnOk P w K mg base CX0 1 f fd ["one", "other"] spLedIn := by
  refine F.ok scLedIn (fun vs H Q E h => ?_) (fun cdv A outer s H vs Q E hr h => ?_)
  · obtain ⟨a, b, ns, ms, rfl, _⟩ := h
    rfl
  · obtain ⟨a, b, ns, ms, rfl, ea, eb, on, om, el, q1⟩ := h
    refine ⟨_, pss_one (ps_ret (pe_tupleOf (by rfl) T.tuple (pe_lc (own := [("thing", 2)]) (g := gName 2) (tt := tYes) rfl scLedIn.nd (pi_tup (pv 1)) (blkOk_by (N := ["one", "other", "thing"]) (sc := defScope sLedIn) (by decide +kernel)) (fun _ _ _ _ _ => pg_name (i := 2) scLedIn.nd rfl (Or.inl rfl)) (fun _ _ _ _ _ => pts_nil)
        (fun _ _ _ _ _ => pe_ix (r := rIxT K) ix_tup (pv 0) (pv 2) (fun _ _ => rfl))))), ?_⟩
    have hm : (tn ms).length ≤ 30 := by
      rw [tn_len]
      exact om.le
    dsimp only [tNext, tRet, tThen]
    refine lc_T (a := b) (fun R r => ⟨_, rfl, r⟩) (tl_of (K := K) eb) (by omega) (fun x => rfl) (fun _ => true) (ledF ns) (fun y hm H2 s2 R r => r H2 (Same.refl H2)) (fun y hy _ H2 s2 R r => ?_) fun D H2 hD s2 e2 => ?_
    · rw [tn_eq] at hy
      obtain ⟨t, ht, rfl⟩ := List.mem_map.mp hy
      have htl : t < ns.length := by
        rw [el]
        exact om.lt ht
      refine ⟨.ref a, rfl, .int (t : Int), rfl, a, _, _, _, rfl, rfl, tl_of (ea.s s2), atI_nat (j := t) (tn_get (List.getElem?_eq_getElem htl)), ?_⟩
      have z := r H2 (Same.refl H2)
      show R (.int ((ns[t] : Nat) : Int)) H2
      have e : ledF ns (.int (t : Int)) = .int ((ns[t] : Nat) : Int) := by
        show V.int ((ns.getD t 0 : Nat) : Int) = _
        rw [List.getD_eq_getElem?_getD, List.getElem?_eq_getElem htl]
        rfl
      rw [← e]
      exact z
    · rw [pick_all, ledF_tn] at e2
      refine .inl ⟨D, _, rfl, ll_of e2, fun r nr => ?_⟩
      exact q1 r _ (s2.free nr) (s2.trans (same_new nr)) upd_same
abbrev sLed : Stmt := topS 26
theorem scLed : FnScope ["one", "other"] ["one", "other"] (defScope sLed) := ⟨rfl, rfl, rfl, by decide +kernel, rfl, by decide +kernel, by decide +kernel⟩
def spLed (CO CU : Addr) : Sp := fun vs H Q E => ∃ x y, vs = [x, y] ∧ Okv H x ∧ Okv H y ∧
  (∀ a b ns ms, x = .ref a → y = .ref b → At H a (tn ns) → At H b (tn ms) → Ord ns → Ord ms → ns.length = ms.length → ∀ p H', H p = none → Same H H' → H' p = some (.tup (tn (ledN ns ms))) → Q (.ref p) H') ∧
  (¬ OrdV H x → ∀ H', Same H H' → E (.ref CO) none H') ∧ (OrdV H x → ¬ OrdV H y → ∀ H', Same H H' → E (.ref CO) none H') ∧ (OrdV H x → OrdV H y → lenOf H x ≠ lenOf H y → ∀ H', Same H H' → E (.ref CU) none H')
theorem lenOf_tn {H : Hp} {a : Addr} {ns : List Nat} (e : At H a (tn ns)) : lenOf H (.ref a) = ns.length := by
  unfold lenOf
  rw [tupOf_tup e]
  exact tn_len ns
theorem ok_led {f fC fI CO CU : Addr} {fd fdC fdI : FuncData} (F : Fun K "led" "led" sLed f fd) (FC : Fun K "check_orders" "check_orders" sChks fC fdC) (bC : Binds K fdC ["one", "other"] []) (gC : mg "check_orders" = some (.ref fC))
    (GC : FnOk P w K mg base (L2N.CX P w) 6 fC fdC ["one", "other"] (spChks CO CU)) (FI : Fun K "led_in" "led_in" sLedIn fI fdI) (bI : Binds K fdI ["one", "other"] []) (gI : mg "led_in" = some (.ref fI)) (GI : FnOk P w K mg base CX0 1 fI fdI ["one", "other"] spLedIn) :
    FnOk P w K mg base (L2N.CX P w) 7 f fd ["one", "other"] (spLed CO CU) := by
  refine okN F scLed (fun vs H Q E h => ?_) (fun cdv A outer s H vs Q E hr h => ?_)
  · obtain ⟨x, y, rfl, _⟩ := h
    rfl
  · obtain ⟨x, y, rfl, kx, ky, q1, q2, q3, q4⟩ := h
    refine ⟨_, pss_cons (ps_expr (pe_call GC hr (by rfl) gC FC.kp bC .nil (passX (L2N.takes_of rfl rfl rfl rfl)) (pa_cons (pv 0) (pa_cons (pv 1) pa_nil))))
      (pss_one (ps_ret (pe_call GI (hr.mono (by decide)) (by rfl) gI FI.kp bI .nil pass0 (pa_cons (pv 0) (pa_cons (pv 1) pa_nil))))), ?_⟩
    refine ⟨x, rfl, y, rfl, x, y, rfl, kx, ky, fun H1 s1 => ⟨fun ox oy el => ?_, fun nx => q2 nx H1 s1, fun ox ny => q3 ox ny H1 s1, fun ox oy ne => q4 ox oy ne H1 s1⟩⟩
    obtain ⟨a, ns, rfl, ea, on⟩ := ordV_at ox
    obtain ⟨b, ms, rfl, eb, om⟩ := ordV_at oy
    rw [lenOf_tn ea, lenOf_tn eb] at el
    exact ⟨.ref a, rfl, .ref b, rfl, a, b, ns, ms, rfl, ea.s s1, eb.s s1, on, om, el, fun p H2 np s2 e2 => q1 a b ns ms rfl rfl ea eb on om el p H2 (s1.free np) (s1.trans s2) e2⟩
abbrev sAbout : Stmt := topS 28
theorem scAbout : FnScope ["order"] ["order"] (defScope sAbout) := ⟨rfl, rfl, rfl, by decide +kernel, rfl, by decide +kernel, by decide +kernel⟩
theorem tn_rev (ns : List Nat) : (tn ns).reverse = tn ns.reverse := by
  rw [tn_eq, tn_eq, List.map_reverse]
theorem ok_about {f fC CO : Addr} {fd fdC : FuncData} (F : Fun K "turned_about" "turned_about" sAbout f fd) (FC : Fun K "check_order" "check_order" sChk fC fdC) (bC : Binds K fdC ["value"] []) (gC : mg "check_order" = some (.ref fC))
    (GC : FnOk P w K mg base (L2N.CX P w) 5 fC fdC ["value"] (spChk CO)) : FnOk P w K mg base (L2N.CX P w) 6 f fd ["order"] (spOne CO List.reverse) := by
  refine okN F scAbout (fun vs H Q E h => ?_) (fun cdv A outer s H vs Q E hr h => ?_)
  · obtain ⟨x, rfl, _⟩ := h
    rfl
  · obtain ⟨x, rfl, k, q1, q2⟩ := h
    refine ⟨_, pss_cons (ps_expr (pe_call GC hr (by rfl) gC FC.kp bC .nil (passX (L2N.takes_of rfl rfl rfl rfl)) (pa_cons (pv 0) pa_nil))) (pss_one (ps_ret (pe_revT (pv 0)))), ?_⟩
    refine ⟨x, rfl, x, rfl, k, fun H1 s1 => ⟨fun ox => ?_, fun nx => q2 nx H1 s1⟩⟩
    obtain ⟨a, ns, rfl, ea, o⟩ := ordV_at ox
    refine ⟨.ref a, rfl, a, _, rfl, tl_of (ea.s s1), fun p np => ?_⟩
    rw [tn_rev]
    exact q1 a ns rfl ea o p _ (s1.free np) (s1.trans (same_new np)) upd_same
abbrev sOver : Stmt := topS 29
theorem scOver : FnScope ["order", "thing"] ["order"] (defScope sOver) := ⟨rfl, rfl, rfl, by decide +kernel, rfl, by decide +kernel, by decide +kernel⟩
def overF (n : Nat) : V → V
  | .int i => .int ((n : Int) - 1 - i)
  | _ => .non
theorem overF_tn {ns : List Nat} (o : Ord ns) : (tn ns).map (overF ns.length) = tn (overN ns) := by
  rw [tn_eq, tn_eq, List.map_map]
  unfold overN
  rw [List.map_map]
  apply List.map_congr_left
  intro t ht
  have := o.lt ht
  show V.int _ = V.int ((ns.length - 1 - t : Nat) : Int)
  congr 1
  omega
theorem ok_over {f fC CO : Addr} {fd fdC : FuncData} (F : Fun K "turned_over" "turned_over" sOver f fd) (T : Bi mg) (FC : Fun K "check_order" "check_order" sChk fC fdC) (bC : Binds K fdC ["value"] []) (gC : mg "check_order" = some (.ref fC))
    (GC : FnOk P w K mg base (L2N.CX P w) 5 fC fdC ["value"] (spChk CO)) : FnOk P w K mg base (L2N.CX P w) 6 f fd ["order"] (spOne CO overN) := by
  refine okN F scOver (fun vs H Q E h => ?_) (fun cdv A outer s H vs Q E hr h => ?_)
  · obtain ⟨x, rfl, _⟩ := h
    rfl
  · obtain ⟨x, rfl, k, q1, q2⟩ := h
    refine ⟨_, pss_cons (ps_expr (pe_call GC hr (by rfl) gC FC.kp bC .nil (passX (L2N.takes_of rfl rfl rfl rfl)) (pa_cons (pv 0) pa_nil)))
      (pss_one (ps_ret (pe_tupleOf (by rfl) T.tuple (pe_lc (own := [("thing", 1)]) (g := gName 1) (tt := tYes) rfl scOver.nd (pi_tup (pv 0)) (blkOk_by (N := ["order", "thing"]) (sc := defScope sOver) (by decide +kernel)) (fun _ _ _ _ _ => pg_name (i := 1) scOver.nd rfl (Or.inl rfl)) (fun _ _ _ _ _ => pts_nil)
        (fun _ _ _ _ _ => pe_op op_sub (pe_op op_sub (pe_callB (r := Evl.rLenS K) call_len_seq (by rfl) T.len PySem.boot_len (pa_cons (pv 0) pa_nil)) pe_int) (pv 1)))))), ?_⟩
    refine ⟨x, rfl, x, rfl, k, fun H1 s1 => ⟨fun ox => ?_, fun nx => q2 nx H1 s1⟩⟩
    obtain ⟨a, ns, rfl, ea, o⟩ := ordV_at ox
    have hm : (tn ns).length ≤ 30 := by
      rw [tn_len]
      exact o.le
    dsimp only [tNext, tRet, tThen]
    refine lc_T (a := a) (fun R r => ⟨_, rfl, r⟩) (tl_of (K := K) (ea.s s1)) (by omega) (fun x => rfl) (fun _ => true) (overF ns.length) (fun y hm H2 s2 R r => r H2 (Same.refl H2)) (fun y hy _ H2 s2 R r => ?_) fun D H2 hD s2 e2 => ?_
    · rw [tn_eq] at hy
      obtain ⟨t, ht, rfl⟩ := List.mem_map.mp hy
      refine ⟨.ref a, rfl, a, _, rfl, .inr (tl_of ((ea.s s1).s s2)), _, _, rfl, rfl, .int (t : Int), rfl, _, _, rfl, rfl, ?_⟩
      have z := r H2 (Same.refl H2)
      rw [tn_len]
      exact z
    · rw [pick_all, overF_tn o] at e2
      refine .inl ⟨D, _, rfl, ll_of e2, fun r nr => ?_⟩
      exact q1 a ns rfl ea o r _ (s1.free (s2.free nr)) ((s1.trans s2).trans (same_new nr)) upd_same
end
end Wo
/-! WoE -/
namespace Wo
open PySem PySem.Spec PyProof.Rows L2 WoR
section
variable {P : Program} {w : World} {K : PySem.W.Frag}
    {mg : Str → Option Value} {base : Heap}
/-- the pot that draws come from -/
def PotAt (H : Hp) (p : Addr) : Prop := ∃ g s : Int, H p = some (.lst [.int g, .int s])
/-- all but the pot as it was -/
def SameB (p : Addr) (H H' : Hp) : Prop := ∀ b o, b ≠ p → H b = some o → H' b = some o
theorem SameB.refl (p : Addr) (H : Hp) : SameB p H H := fun _ _ _ h => h
theorem SameB.trans {p : Addr} {H H1 H2 : Hp} (a : SameB p H H1) (b : SameB p H1 H2) : SameB p H H2 := fun c o n h => b c o n (a c o n h)
theorem SameB.of {p : Addr} {H H' : Hp} (s : Same H H') : SameB p H H' := fun b o _ h => s b o h
theorem PotAt.same {p : Addr} {H H' : Hp} (h : PotAt H p) (s : Same H H') : PotAt H' p := by
  obtain ⟨g, z, e⟩ := h
  exact ⟨g, z, s _ _ e⟩
abbrev sPot : Stmt := topS 31
theorem scPot : FnScope ["_law_script", "_law_turn", "_law_cell", "_law_great"] ["_law_script", "_law_turn"] (defScope sPot) := ⟨rfl, rfl, rfl, by decide +kernel, rfl, by decide +kernel, by decide +kernel⟩
def spPot (K : PySem.W.Frag) : Sp := fun vs H Q _ => ∃ (a : Addr) (ns : List Int) (t : Int), vs = [.ref a, .int t] ∧ SqL K H a (ns.map V.int) ∧ ns.length ≤ 1000 ∧ (0 ≤ t ∧ t ≤ 1000) ∧ ∀ p H', H p = none → Same H H' → PotAt H' p → Q (.ref p) H'
theorem ok_pot {f : Addr} {fd : FuncData} (F : Fun K "_law_pot" "_law_pot" sPot f fd) (T : Bi mg) : FnOk P w K mg base CX0 1 f fd ["_law_script", "_law_turn"] (spPot K) := by
  refine F.ok scPot (fun vs H Q E h => ?_) (fun cdv A outer s H vs Q E hr h => ?_)
  · obtain ⟨a, ns, t, rfl, _⟩ := h
    rfl
  · obtain ⟨a, ns, t, rfl, hS, hl, ht, q⟩ := h
    refine ⟨_, pss_cons (ps_set (i := 2) scPot.nd rfl (.inl rfl) (pe_callB call_abs (by rfl) T.abs (by decide +kernel) (pa_cons (pe_callTy call_int1 (by rfl) T.int (by decide +kernel)
        (pa_cons (pe_ix ix_list (pe_op op_catS (pv 0) (pe_lst (pa_cons pe_int pa_nil))) pe_int (fun _ _ => rfl)) pa_nil)) pa_nil)))
      (pss_cons (ps_set (i := 3) scPot.nd rfl (.inl rfl) (pe_ifExp (pt_cmpR op_ge (pv 2) (pe_op op_pow pe_int pe_int) (nomark _)) (pe_op op_fdivN (pv 2) pe_int) pe_int))
      (pss_one (ps_ret (pe_lst (pa_cons (pv 3) (pa_cons (pe_op op_add (pe_op op_modN (pe_callTy call_int1 (by rfl) T.int (by decide +kernel) (pa_cons (pe_op op_add (pe_op op_mul (pv 2) pe_int) (pe_op op_mul pe_int (pv 1))) pa_nil)) pe_int) pe_int) pa_nil)))))), ?_⟩
    refine ⟨.ref a, rfl, by show 1 ≤ sizeLine; decide, fun b nb => ⟨a, b, _, _, rfl, rfl, (same_new nb).seq hS, ll_of upd_same, by rw [List.length_map]; show _ + 1 ≤ _; omega, fun c nc => ?_⟩⟩
    have s2 : Same H (upd (upd H b (.lst [.int 0])) c (.lst (ns.map V.int ++ [.int 0]))) := (same_new nb).trans (same_new nc)
    obtain ⟨z, hz⟩ : ∃ z : Int, (ns.map V.int ++ [V.int 0])[0]? = some (.int z) := by
      cases ns with
      | nil => exact ⟨0, rfl⟩
      | cons n r => exact ⟨n, rfl⟩
    refine ⟨c, _, 0, _, rfl, rfl, ll_of upd_same, atI_nat (j := 0) hz, .inl ⟨z, rfl, z, rfl, ?_⟩⟩
    -- the great one
    refine ⟨_, rfl, 10, 18, rfl, rfl, ⟨by decide, by decide, by decide⟩, _, _, rfl, rfl, _, rfl, ?_⟩
    refine ite2 (fun _ =>
        ?_) (fun _ => ?_)
    · refine ⟨_, rfl, _, _, rfl, rfl, ⟨by decide, by decide⟩, ?_⟩
      refine ⟨_, rfl, _, rfl, _, _, rfl, rfl, .inr ⟨by decide, by decide⟩, .int t, rfl, _, _, rfl, rfl, .inl ⟨by decide, by decide⟩, _, _, rfl, rfl, .inl ⟨_, rfl, _, _, rfl, rfl, (by show (2147483399 : Int) ≠ 0; decide), _, _, rfl, rfl, by show 2 ≤ sizeLine; decide, fun p np => ?_⟩⟩
      exact q p _ (s2.free np) (s2.trans (same_new np)) ⟨_, _, upd_same⟩
    · refine ⟨_, rfl, _, rfl, _, _, rfl, rfl, .inr ⟨by decide, by decide⟩, .int t, rfl, _, _, rfl, rfl, .inl ⟨by decide, by decide⟩, _, _, rfl, rfl, .inl ⟨_, rfl, _, _, rfl, rfl, (by show (2147483399 : Int) ≠ 0; decide), _, _, rfl, rfl, by show 2 ≤ sizeLine; decide, fun p np => ?_⟩⟩
      exact q p _ (s2.free np) (s2.trans (same_new np)) ⟨_, _, upd_same⟩
abbrev sDip : Stmt := topS 32
theorem scDip : FnScope ["_law_pot_here", "_law_many_here", "_law_found", "_law_deep"] ["_law_pot_here", "_law_many_here"] (defScope sDip) := ⟨rfl, rfl, rfl, by decide +kernel, rfl, by decide +kernel, by decide +kernel⟩
def spDip : Sp := fun vs H Q _ => ∃ (p : Addr) (m : Nat), vs = [.ref p, .int (m : Int)] ∧ PotAt H p ∧ 1 ≤ m ∧ m ≤ 1000 ∧ ∀ (r : Nat) H', r < m → SameB p H H' → PotAt H' p → Q (.int (r : Int)) H'
theorem fmod_nat {z : Int} {m : Nat} (h : 1 ≤ m) : ∃ r : Nat, r < m ∧ z.fmod (m : Int) = (r : Int) := by
  refine ⟨(z.fmod (m : Int)).toNat, ?_, ?_⟩
  · have h1 := Int.fmod_lt_of_pos z (show (0 : Int) < m by omega)
    have h2 := Int.fmod_nonneg_of_pos z (show (0 : Int) < m by omega)
    omega
  · have h2 := Int.fmod_nonneg_of_pos z (show (0 : Int) < m by omega)
    omega
theorem sameB_set {p : Addr} {H : Hp} {o : HO} : SameB p H (upd H p o) := fun b u n e => by
  rw [upd_ne n]
  exact e
theorem ok_dip {f : Addr} {fd : FuncData} (F : Fun K "_law_dip" "_law_dip" sDip f fd) (T : Bi mg) : FnOk P w K mg base CX0 1 f fd ["_law_pot_here", "_law_many_here"] spDip := by
  refine F.ok scDip (fun vs H Q E h => ?_) (fun cdv A outer s H vs Q E hr h => ?_)
  · obtain ⟨p, m, rfl, _⟩ := h
    rfl
  · obtain ⟨p, m, rfl, ⟨g, z, e⟩, h1, h2, q⟩ := h
    refine ⟨_, pss_cons (ps_if (pt_cmpR op_gt (pe_ix ix_list (pv 0) pe_int (fun _ _ => rfl)) pe_int (nomark _))
        (pss_cons (ps_set (i := 2) scDip.nd rfl (.inl rfl) (pe_op op_modN (pe_callTy call_int1 (by rfl) T.int (by decide +kernel) (pa_cons (pe_ix ix_list (pv 0) pe_int (fun _ _ => rfl)) pa_nil)) (pv 1)))
        (pss_cons (ps_asg (pe_op op_fdivN (pe_ix ix_list (pv 0) pe_int (fun _ _ => rfl)) (pv 1)) (pg_sub (pv 0) pe_int set_list))
        (pss_one (ps_ret (pv 2))))) pss_nil)
      (pss_cons (ps_asg (pe_op op_modN (pe_callTy call_int1 (by rfl) T.int (by decide +kernel) (pa_cons (pe_op op_add (pe_op op_mul (pe_ix ix_list (pv 0) pe_int (fun _ _ => rfl)) pe_int) pe_int) pa_nil)) pe_int) (pg_sub (pv 0) pe_int set_list))
      (pss_cons (ps_set (i := 3) scDip.nd rfl (.inl rfl) (pe_op op_modN (pe_callTy call_int1 (by rfl) T.int (by decide +kernel) (pa_cons (pe_op op_mul (pe_ix ix_list (pv 0) pe_int (fun _ _ => rfl)) (pe_op op_add (pe_ix ix_list (pv 0) pe_int (fun _ _ => rfl)) pe_int)) pa_nil)) pe_int))
      (pss_one (ps_ret (pe_op op_modN (pe_callTy call_int1 (by rfl) T.int (by decide +kernel) (pa_cons (pe_op op_fdivN (pv 3) pe_int) pa_nil)) (pv 1)))))), ?_⟩
    refine ⟨.ref p, rfl, p, _, 0, _, rfl, rfl, ll_of e, atI_nat (j := 0) rfl, _, _, rfl, rfl, _, rfl, ?_⟩
    refine ite2 (fun _ =>
        ?_) (fun _ => ?_)
    · obtain ⟨r, hr1, hr2⟩ := fmod_nat (z := g) h1
      refine ⟨.ref p, rfl, p, _, 0, _, rfl, rfl, ll_of e, atI_nat (j := 0) rfl, .inl ⟨g, rfl, .int (m : Int), rfl, _, _, rfl, rfl, by omega, ?_⟩⟩
      refine ⟨.ref p, rfl, p, _, 0, _, rfl, rfl, ll_of e, atI_nat (j := 0) rfl, .int (m : Int), rfl, _, _, rfl, rfl, ⟨by omega, by omega⟩, .ref p, rfl, p, _, 0, 0, rfl, rfl, e, rfl, ?_⟩
      refine ⟨_, rfl, ?_⟩
      show Q (.int (g.fmod (m : Int))) _
      rw [hr2]
      exact q r _ hr1 sameB_set ⟨_, z, upd_same⟩
    · refine ⟨.ref p, rfl, p, _, 1, _, rfl, rfl, ll_of e, atI_nat (j := 1) rfl, _, _, rfl, rfl, .inr ⟨by decide, by decide⟩, _, _, rfl, rfl, .inl ⟨_, rfl, _, _, rfl, rfl, (by show (2147483399 : Int) ≠ 0; decide), .ref p, rfl, p, _, 1, 1, rfl, rfl, e, rfl, ?_⟩⟩
      obtain ⟨y, hy1, hy2⟩ := fmod_nat (z := z * 40692 + 311) (m := 2147483399) (by decide)
      have e2 : (upd H p (.lst (([V.int g, V.int z]).set 1 (.int ((z * 40692 + 311).fmod 2147483399))))) p = some (.lst [.int g, .int (y : Int)]) := by
        rw [upd_same]
        show some (HO.lst [.int g, .int ((z * 40692 + 311).fmod (2147483399 : Nat))]) = _
        rw [hy2]
      refine ⟨.ref p, rfl, p, _, 1, _, rfl, rfl, ll_of e2, atI_nat (j := 1) rfl, .ref p, rfl, p, _, 1, _, rfl, rfl, ll_of e2, atI_nat (j := 1) rfl, _, _, rfl, rfl, _, _, rfl, rfl, .inl ⟨by omega, by omega⟩, .inl ⟨_, rfl, _, _, rfl, rfl, (by show (2147483563 : Int) ≠ 0; decide), ?_⟩⟩
      refine ⟨_, rfl, _, _, rfl, rfl, ⟨by decide, by decide⟩, .inl ⟨_, rfl, .int (m : Int), rfl, _, _, rfl, rfl, by omega, ?_⟩⟩
      obtain ⟨r, hr1, hr2⟩ := fmod_nat (z := (((y : Int) * ((y : Int) + 57)).fmod 2147483563).fdiv 419) h1
      show Q (.int ((((((y : Int) * ((y : Int) + 57)).fmod 2147483563).fdiv 419)).fmod (m : Int))) _
      rw [hr2]
      exact q r _ hr1 sameB_set ⟨_, _, e2⟩
end
end Wo
/-! WoF -/
namespace Wo
open PySem PySem.Spec PyProof.Rows L2 WoR
section
variable {P : Program} {w : World} {K : PySem.W.Frag}
    {mg : Str → Option Value} {base : Heap}
abbrev sOne : Stmt := topS 33
theorem scOne : FnScope ["_law_pot_here", "_law_some"] ["_law_pot_here", "_law_some"] (defScope sOne) := ⟨rfl, rfl, rfl, by decide +kernel, rfl, by decide +kernel, by decide +kernel⟩
def spOneOf : Sp := fun vs H Q _ => ∃ (p q : Addr) (xs : List V), vs = [.ref p, .ref q] ∧ PotAt H p ∧ H q = some (.lst xs) ∧ q ≠ p ∧ 1 ≤ xs.length ∧ xs.length ≤ 1000 ∧ ∀ x H', x ∈ xs → SameB p H H' → PotAt H' p → Q x H'
theorem ok_one {f fD : Addr} {fd fdD : FuncData} (F : Fun K "_law_one" "_law_one" sOne f fd) (T : Bi mg) (FD : Fun K "_law_dip" "_law_dip" sDip fD fdD) (bD : Binds K fdD ["_law_pot_here", "_law_many_here"] []) (gD : mg "_law_dip" = some (.ref fD)) :
    FnOk P w K mg base CX0 2 f fd ["_law_pot_here", "_law_some"] spOneOf := by
  have GD : FnOk P w K mg base CX0 1 fD fdD ["_law_pot_here", "_law_many_here"] spDip := ok_dip FD T
  refine F.ok scOne (fun vs H Q E h => ?_) (fun cdv A outer s H vs Q E hr h => ?_)
  · obtain ⟨p, q, xs, rfl, _⟩ := h
    rfl
  · obtain ⟨p, q, xs, rfl, hp, eq, nqp, h1, h2, k⟩ := h
    refine ⟨_, pss_one (ps_ret (pe_ix ix_list (pv 1) (pe_call GD hr (by rfl) gD FD.kp bD .nil pass0 (pa_cons (pv 0) (pa_cons (pe_callB call_len_seq (by rfl) T.len PySem.boot_len (pa_cons (pv 1) pa_nil)) pa_nil))) (fun _ _ => rfl))), ?_⟩
    refine ⟨.ref q, rfl, .ref p, rfl, .ref q, rfl, q, _, rfl, .inl (ll_of eq), p, xs.length, rfl, hp, h1, h2, fun r H' hr' sb hp' => ?_⟩
    refine ⟨q, xs, r, xs[r], rfl, rfl, ll_of (sb q _ nqp eq), atI_nat (j := r) (List.getElem?_eq_getElem hr'), ?_⟩
    exact k _ H' (List.getElem_mem hr') sb hp'
abbrev sMany2 : Stmt := topS 35
theorem scMany2 : FnScope ["_law_pot_here"] ["_law_pot_here"] (defScope sMany2) := ⟨rfl, rfl, rfl, by decide +kernel, rfl, by decide +kernel, by decide +kernel⟩
def spMany2 : Sp := fun vs H Q _ => ∃ (p : Addr), vs = [.ref p] ∧ PotAt H p ∧ ∀ (m : Nat) H', 1 ≤ m → m ≤ 30 → SameB p H H' → PotAt H' p → Q (.int (m : Int)) H'
theorem ok_many2 {f fO : Addr} {fd fdO : FuncData} (F : Fun K "_law_many" "_law_many" sMany2 f fd) (FO : Fun K "_law_one" "_law_one" sOne fO fdO) (bO : Binds K fdO ["_law_pot_here", "_law_some"] []) (gO : mg "_law_one" = some (.ref fO))
    (GO : FnOk P w K mg base CX0 2 fO fdO ["_law_pot_here", "_law_some"] spOneOf) : FnOk P w K mg base CX0 3 f fd ["_law_pot_here"] spMany2 := by
  refine F.ok scMany2 (fun vs H Q E h => ?_) (fun cdv A outer s H vs Q E hr h => ?_)
  · obtain ⟨p, rfl, _⟩ := h
    rfl
  · obtain ⟨p, rfl, hp, k⟩ := h
    refine ⟨_, pss_one (ps_ret (pe_call GO hr (by rfl) gO FO.kp bO .nil pass0 (pa_cons (pv 0) (pa_cons (pe_lst (pa_cons pe_int (pa_cons pe_int (pa_cons pe_int (pa_cons pe_int (pa_cons pe_int (pa_cons pe_int (pa_cons pe_int (pa_cons pe_int (pa_cons pe_int (pa_cons pe_int (pa_cons pe_int (pa_cons pe_int pa_nil))))))))))))) pa_nil)))), ?_⟩
    refine ⟨.ref p, rfl, by show 12 ≤ sizeLine; decide, fun q nq => ?_⟩
    have nqp : q ≠ p := fun z => by
      obtain ⟨g, y, e⟩ := hp
      rw [z, e] at nq
      cases nq
    refine ⟨p, q, _, rfl, hp.same (same_new nq), upd_same, nqp, by show 1 ≤ 12; decide, by show 12 ≤ 1000; decide, fun x H' hx sb hp' => ?_⟩
    have sb' : SameB p H H' := (SameB.of (same_new nq)).trans sb
    have fin : ∀ m : Nat, x = .int (m : Int) → 1 ≤ m → m ≤ 30 → Q x H' := fun m e h1 h2 => by
      rw [e]
      exact k m H' h1 h2 sb' hp'
    simp only [List.mem_cons,
        List.not_mem_nil, or_false] at hx
    rcases hx with e | e | e | e | e | e | e | e | e | e | e | e
    · exact fin 1 e (by decide) (by decide)
    · exact fin 2 e (by decide) (by decide)
    · exact fin 3 e (by decide) (by decide)
    · exact fin 3 e (by decide) (by decide)
    · exact fin 4 e (by decide) (by decide)
    · exact fin 4 e (by decide) (by decide)
    · exact fin 5 e (by decide) (by decide)
    · exact fin 5 e (by decide) (by decide)
    · exact fin 6 e (by decide) (by decide)
    · exact fin 7 e (by decide) (by decide)
    · exact fin 9 e (by decide) (by decide)
    · exact fin 30 e (by decide) (by decide)
abbrev sOrd : Stmt := topS 34
theorem scOrd : FnScope ["_law_pot_here", "_law_many_here", "_law_left", "_law_found", "_law_turn", "_law_thing", "_law_one_here"] ["_law_pot_here", "_law_many_here"] (defScope sOrd) := ⟨rfl, rfl, rfl, by decide +kernel, rfl, by decide +kernel, by decide +kernel⟩
def spOrd : Sp := fun vs H Q _ => ∃ (p : Addr) (m : Nat), vs = [.ref p, .int (m : Int)] ∧ PotAt H p ∧ 1 ≤ m ∧ m ≤ 30 ∧ ∀ a ns H', ns.length = m → Ord ns → H a = none → SameB p H H' → PotAt H' p → Fz H' a (tn ns) → Q (.ref a) H'
theorem filter_tn (ls : List Nat) (t : Nat) : pick (fun y => !decide (y = V.int (t : Int))) (fun y => y) (tn ls) = tn (ls.filter fun u => !decide (u = t)) := by
  unfold pick
  rw [List.map_id', tn_eq, tn_eq, List.filter_map]
  congr 1
  apply List.filter_congr
  intro u _
  show (!decide (V.int (u : Int) = V.int (t : Int))) = _
  congr 1
  by_cases h : u = t
  · subst h
    simp
  · rw [decide_eq_false h, decide_eq_false (fun z : V.int (u : Int) = V.int (t : Int) => h (Int.ofNat.inj (V.int.inj z)))]
theorem perm_take {fs ls : List Nat} {t n : Nat} (p : (fs ++ ls).Perm (List.range n)) (ht : t ∈ ls) : (fs ++ [t] ++ ls.filter fun u => !decide (u = t)).Perm (List.range n) := by
  have nd : ls.Nodup := (List.nodup_append.mp (p.nodup_iff.mpr List.nodup_range)).2.1
  have e : (ls.filter fun u => !decide (u = t)) = ls.erase t := by
    rw [List.Nodup.erase_eq_filter nd]
    apply List.filter_congr
    intro u _
    by_cases h : u = t
    · subst h
      simp
    · simp [h]
  rw [e, List.append_assoc]
  refine List.Perm.trans ?_ p
  exact List.Perm.append_left fs (List.perm_cons_erase ht).symm
theorem ord_left {D : Ends} {p la fa : Addr} {m i : Int} {ls : List Nat} {t : Nat} {H3 : Hp} (hl : H3 la = some (.lst (tn ls))) (hz : ls.length ≤ 100000)
    (k : ∀ (lb : Addr) (H4 : Hp), H3 lb = none → Same H3 H4 → H4 lb = some (.lst (tn (ls.filter fun u => !decide (u = t)))) → D.nx [some (.ref p), some (.int m), some (.ref lb), some (.ref fa), some (.int i), some (.int (t : Int)), none] H4) :
    tAsg (tLc (iList K (tVar 2)) (gName 6) (tTest (tOp rNe (tVar 6) (tVar 5))) (tVar 6) [6]) (gName 2) D [some (.ref p), some (.int m), some (.ref la), some (.ref fa), some (.int i), some (.int (t : Int)), none] H3 := by
  unfold tAsg
  refine lc_L (a := la) (fun R r => ⟨_, rfl, r⟩) (ll_of hl) (by rw [tn_len]; exact hz) (fun x => rfl) (fun y => !decide (y = V.int (t : Int))) (fun y => y) (fun y hy H1 s1 R r => ?_) (fun y hy hp H1 s1 R r => ?_) fun lb H4 nlb s4 e4 => ?_
  · rw [tn_eq] at hy
    obtain ⟨u, _, rfl⟩ := List.mem_map.mp hy
    exact ⟨_, rfl, _, rfl, rfl, _, rfl, r H1 (Same.refl H1)⟩
  · exact ⟨_, rfl, r H1 (Same.refl H1)⟩
  · rw [filter_tn] at e4
    exact k lb H4 nlb s4 e4
theorem ok_ord {f fO : Addr} {fd fdO : FuncData} (F : Fun K "_law_order" "_law_order" sOrd f fd) (T : Bi mg) (FO : Fun K "_law_one" "_law_one" sOne fO fdO) (bO : Binds K fdO ["_law_pot_here", "_law_some"] []) (gO : mg "_law_one" = some (.ref fO))
    (GO : FnOk P w K mg base CX0 2 fO fdO ["_law_pot_here", "_law_some"] spOneOf) : FnOk P w K mg base CX0 3 f fd ["_law_pot_here", "_law_many_here"] spOrd := by
  refine F.ok scOrd (fun vs H Q E h => ?_) (fun cdv A outer s H vs Q E hr h => ?_)
  · obtain ⟨p, m, rfl, _⟩ := h
    rfl
  · obtain ⟨p, m, rfl, hp, h1, h2, k⟩ := h
    refine ⟨_, pss_cons (ps_par (i := 2) (j := 3) rfl scOrd.nd rfl rfl (by decide) rfl rfl (pa_cons (pe_listRg rfl (by rfl) T.list (prg_1 (by rfl) T.range (pv 1))) (pa_cons (pe_tup pa_nil) pa_nil)) (by rfl))
      (pss_cons (ps_for PassesOwn.never rfl (pi_range1 rfl T.range (pa_cons (pv 1) pa_nil)) (pg_name (i := 4) scOrd.nd rfl (.inl rfl))
        (pss_cons (ps_set (i := 5) scOrd.nd rfl (.inr rfl) (pe_call GO hr (by rfl) gO FO.kp bO .nil pass0 (pa_cons (pv 0) (pa_cons (pv 2) pa_nil))))
        (pss_cons (ps_set (i := 3) scOrd.nd rfl (.inl rfl) (pe_op op_catF (pv 3) (pe_tupF (pa_cons (pv 5) pa_nil))))
        (pss_one (ps_setLc (i := 2) (own := [("_law_one_here", 6)]) (g := gName 6) rfl scOrd.nd rfl rfl (sw_true rfl rfl rfl (by decide +kernel)) (pi_list (pv 2)) (blkOk_by (N := ["_law_pot_here", "_law_many_here", "_law_left", "_law_found", "_law_turn", "_law_thing", "_law_one_here"]) (sc := defScope sOrd) (by decide +kernel))
          (fun _ _ _ _ _ => pg_name (i := 6) scOrd.nd rfl (Or.inl rfl)) (fun _ _ _ _ _ => pts_one (pt_cmpR op_ne (pv 6) (pv 5) (nomark _))) (fun _ _ _ _ _ => pv 6))))))
      (pss_one (ps_ret (pv 3)))), ?_⟩
    -- the start
    refine ⟨_, rfl, _, rfl, .of_le (by omega) (by omega) (by omega) (by omega), fun l nl => ⟨by show 0 ≤ sizeLine; decide, fun u nu => ⟨_, _, rfl, ?_⟩⟩⟩
    rw [rgV_ci] at nu ⊢
    have npl : p ≠ l := fun z => by
      obtain ⟨g, y, e⟩ := hp
      rw [← z, e] at nl
      cases nl
    have s1 := (same_new (o := .lst ((ci (List.range m)).map V.int)) nl).trans (same_new (o := .tup []) nu)
    refine ⟨_, rfl, (m : Int), rfl, by omega, by omega, for_range (lo := 0) (n := m) (fun i σ H' => ∃ (la fa : Addr) (ls fs : List Nat) (y4 y5 : Option V), σ = [some (.ref p), some (.int (m : Int)), some (.ref la), some (.ref fa), y4, y5, none] ∧ SameB p H H' ∧ PotAt H' p ∧ la ≠ p ∧ fa ≠ p ∧ H fa = none ∧ H' la = some (.lst (tn ls)) ∧ At H' fa (tn fs) ∧ (fs ≠ [] → Fz H' fa (tn fs)) ∧ fs.length = i ∧ (fs ++ ls).Perm (List.range m))
      ⟨l, u, List.range m, [], none, none, rfl, SameB.of s1, hp.same s1, npl.symm, ?_, (same_new nl).free nu, ?_, .of upd_same, fun z => absurd rfl z, rfl, List.Perm.refl _⟩ ?_ ?_⟩
    · intro z
      obtain ⟨g, y, e⟩ := hp.same (same_new (o := .lst ((ci (List.range m)).map V.int)) nl)
      rw [z, e] at nu
      cases nu
    · exact same_new nu _ _ upd_same
    · rintro i σ H' hi ⟨la, fa, ls, fs, y4, y5, rfl, sb, hp', nla, nfa, nf, el, ef, ez, hlen, pm⟩
      have hll : ls.length = m - i := by
        have := pm.length_eq
        rw [List.length_append, List.length_range] at this
        omega
      have hfm : fs.length < m := by omega
      refine ⟨.ref p, rfl, .ref la, rfl, p, la, tn ls, rfl, hp', el, nla, by rw [tn_len]; omega, by rw [tn_len]; omega, fun x H2 hx sb2 hp2 => ?_⟩
      rw [tn_eq] at hx
      obtain ⟨t, ht, rfl⟩ := List.mem_map.mp hx
      have el2 := sb2 _ _ nla el
      have ef2 : At H2 fa (tn fs) := by
        rcases ef with e | ⟨o, e⟩
        · exact .inl (sb2 _ _ nfa e)
        · exact .inr ⟨o, sb2 _ _ nfa e⟩
      -- found + (thing,)
      refine ⟨.ref fa, rfl, .int (t : Int), rfl, by show 1 ≤ sizeLine; decide, fun v ov nv dv => ?_⟩
      have s3 := same_new (o := .frz ov (.tup [V.int (t : Int)])) nv
      have ev : Fz (upd H2 v (.frz ov (.tup [V.int (t : Int)]))) v [V.int (t : Int)] := .new dv
      refine ⟨fa, v, tn fs, [.int (t : Int)], rfl, rfl, tl_of (ef2.s s3), tl_of ev.at', by rw [tn_len, sizeLine_eq]; show fs.length + 1 ≤ _; omega, fun e0 => ?_, by simp, fun ne fb ob nfb db => ?_⟩
      · have e0 : fs = [] := by
          cases fs with
          | nil => rfl
          | cons x r =>
            rw [tn_eq] at e0
            cases e0
        subst e0
        have nvp : v ≠ p := fun z => by
          obtain ⟨g, y, e⟩ := hp2
          rw [z, e] at nv
          cases nv
        have sv : SameB p H (upd H2 v (.frz ov (.tup [.int (t : Int)]))) := (sb.trans sb2).trans (SameB.of s3)
        refine ord_left (t := t) (s3 _ _ el2) (by omega) fun lb H4 nlb s4 e4 => ?_
        refine ⟨lb, v, _, [t], _, _, rfl, sv.trans (SameB.of s4), (hp2.same s3).same s4, fun z => ?_, nvp, ?_, e4, (ev.s s4).at', fun _ => ev.s s4, by rw [← hlen]; rfl, perm_take pm ht⟩
        · obtain ⟨g, y, e⟩ := hp2.same s3
          rw [z, e] at nlb
          cases nlb
        · cases hv : H v with
          | none => rfl
          | some o =>
            rw [(sb.trans sb2) v o nvp hv] at nv
            cases nv
      · have nfp : fb ≠ p := fun z => by
          obtain ⟨g, y, e⟩ := hp2.same s3
          rw [z, e] at nfb
          cases nfb
        have s5 := s3.trans (same_new (o := .frz ob (.tup (tn fs ++ [.int (t : Int)]))) nfb)
        have ew : Fz (upd (upd H2 v (.frz ov (.tup [V.int (t : Int)]))) fb (.frz ob (.tup (tn fs ++ [.int (t : Int)])))) fb (tn (fs ++ [t])) := by
          refine ⟨ob, ?_, db⟩
          rw [upd_same, tn_eq, tn_eq, List.map_append]
          rfl
        have sv := (sb.trans sb2).trans (SameB.of (p := p) s5)
        refine ord_left (t := t) (s5 _ _ el2) (by omega) fun lb H4 nlb s4 e4 => ?_
        refine ⟨lb, fb, _, fs ++ [t], _, _, rfl, sv.trans (SameB.of s4), (hp2.same s5).same s4, fun z => ?_, nfp, ?_, e4, (ew.s s4).at', fun _ => ew.s s4, by rw [List.length_append, hlen]; rfl, perm_take pm ht⟩
        · obtain ⟨g, y, e⟩ := hp2.same s5
          rw [z, e] at nlb
          cases nlb
        · cases hv : H fb with
          | none => rfl
          | some o =>
            rw [((sb.trans sb2).trans (SameB.of s3)) fb o nfp hv] at nfb
            cases nfb
    · rintro σ H' ⟨la, fa, ls, fs, y4, y5, rfl, sb, hp', nla, nfa, nf, el, ef, ez, hlen, pm⟩
      have e0 : ls = [] := by
        have := pm.length_eq
        rw [List.length_append, List.length_range] at this
        exact List.eq_nil_of_length_eq_zero (by omega)
      subst e0
      rw [List.append_nil] at pm
      refine ⟨_, rfl, k fa fs H' hlen ⟨?_, by omega, by omega⟩ nf sb hp' (ez fun z => ?_)⟩
      · rw [hlen]
        exact pm
      · rw [z] at hlen
        have : (0 : Nat) = m := hlen
        omega
end
end Wo
/-! WoM -/
namespace Wo
open PySem PySem.Spec PyProof.Rows L2 WoR
theorem getD_of {ns : List Nat} {i t d : Nat} (h : ns[i]? = some t) : ns.getD i d = t := by
  rw [List.getD_eq_getElem?_getD, h]
  rfl
theorem Ord.ex {ns : List Nat} (o : Ord ns) {t : Nat} (h : t < ns.length) : ∃ j, j < ns.length ∧ ns[j]? = some t := by
  have hm : t ∈ ns := o.pm.mem_iff.mpr (List.mem_range.mpr h)
  obtain ⟨j, hj, e⟩ := List.getElem_of_mem hm
  exact ⟨j, hj, by rw [List.getElem?_eq_getElem hj, e]⟩
theorem Ord.at {ns : List Nat} (o : Ord ns) {j : Nat} (h : j < ns.length) : ∃ t, t < ns.length ∧ ns[j]? = some t :=
  ⟨ns[j], o.lt (List.getElem_mem h), List.getElem?_eq_getElem h⟩
theorem ord_by {L : List Nat} {n : Nat} (hl : L.length = n) (nd : L.Nodup) (h1 : ∀ x ∈ L, x < n) (h2 : ∀ x, x < n → x ∈ L) (p : 0 < n) (q : n ≤ 30) : Ord L := by
  refine ⟨?_, by omega, by omega⟩
  rw [hl]
  refine (List.perm_ext_iff_of_nodup nd List.nodup_range).mpr fun x => ?_
  rw [List.mem_range]
  exact ⟨h1 x, h2 x⟩
theorem opp_get {ns : List Nat} (o : Ord ns) {j t : Nat} (h : ns[j]? = some t) : (opp ns)[t]? = some j := by
  obtain ⟨hj, e⟩ := List.getElem?_eq_some_iff.mp h
  have ht : t < ns.length := o.lt (List.mem_of_getElem? h)
  unfold opp
  rw [List.getElem?_map, List.getElem?_range ht]
  show some (ns.idxOf t) = some j
  rw [← e, List.Nodup.idxOf_getElem o.nd]
theorem opp_back {ns : List Nat} (o : Ord ns) {j t : Nat} (h : (opp ns)[t]? = some j) : ns[j]? = some t := by
  have ht : t < ns.length := by
    have := (List.getElem?_eq_some_iff.mp h).1
    rw [opp_len] at this
    exact this
  obtain ⟨i, hi, e⟩ := o.ex ht
  have := opp_get o e
  rw [h] at this
  cases this
  exact e
theorem nodup_by {L : List Nat} (h : ∀ i j, i < j → j < L.length → L[i]? ≠ L[j]?) : L.Nodup := by
  refine List.pairwise_iff_getElem.mpr fun i j hi hj hij e => h i j hij hj ?_
  rw [List.getElem?_eq_getElem hi, List.getElem?_eq_getElem hj, e]
theorem opp_ord {ns : List Nat} (o : Ord ns) : Ord (opp ns) := by
  refine ord_by (opp_len ns) ?_ (fun x hx => ?_) (fun x hx => ?_) o.pos o.le
  · refine nodup_by fun i j hij hj e => ?_
    rw [opp_len] at hj
    obtain ⟨a, ha, ea⟩ := o.ex (t := i) (by omega)
    obtain ⟨b, hb, eb⟩ := o.ex (t := j) (by omega)
    rw [opp_get o ea, opp_get o eb] at e
    cases e
    rw [ea] at eb
    cases eb
    omega
  · obtain ⟨t, ht⟩ := List.getElem?_of_mem hx
    exact (List.getElem?_eq_some_iff.mp (opp_back o ht)).1
  · obtain ⟨t, ht, e⟩ := o.at hx
    exact List.mem_of_getElem? (opp_get o e)
theorem led_len (ns ms : List Nat) : (ledN ns ms).length = ms.length := by
  unfold ledN
  rw [List.length_map]
theorem led_get {ns ms : List Nat} {i k t : Nat} (h1 : ms[i]? = some k) (h2 : ns[k]? = some t) : (ledN ns ms)[i]? = some t := by
  unfold ledN
  rw [List.getElem?_map, h1]
  show some (ns.getD k 0) = some t
  rw [getD_of h2]
theorem led_at {ns ms : List Nat} (on : Ord ns) (om : Ord ms) (el : ns.length = ms.length) {i t : Nat} (h : (ledN ns ms)[i]? = some t) : ∃ k, ms[i]? = some k ∧ ns[k]? = some t := by
  have hi : i < ms.length := by
    have := (List.getElem?_eq_some_iff.mp h).1
    rw [led_len] at this
    exact this
  obtain ⟨k, hk, ek⟩ := om.at hi
  obtain ⟨u, hu, eu⟩ := on.at (j := k) (by omega)
  have := led_get ek eu
  rw [h] at this
  cases this
  exact ⟨k, ek, eu⟩
theorem led_ord {ns ms : List Nat} (on : Ord ns) (om : Ord ms) (el : ns.length = ms.length) : Ord (ledN ns ms) := by
  refine ord_by (n := ms.length) (led_len ns ms) ?_ (fun x hx => ?_) (fun x hx => ?_) om.pos om.le
  · refine nodup_by fun i j hij hj e => ?_
    rw [led_len] at hj
    obtain ⟨a, ha, ea⟩ := om.at (j := i) (by omega)
    obtain ⟨b, hb, eb⟩ := om.at (j := j) hj
    obtain ⟨u, hu, eu⟩ := on.at (j := a) (by omega)
    obtain ⟨v, hv, ev⟩ := on.at (j := b) (by omega)
    rw [led_get ea eu, led_get eb ev] at e
    cases e
    have z := (List.getElem?_inj (by omega) on.nd).mp (eu.trans ev.symm)
    subst z
    have z := (List.getElem?_inj (by omega) om.nd).mp (ea.trans eb.symm)
    omega
  · obtain ⟨i, hi⟩ := List.getElem?_of_mem hx
    obtain ⟨k, _, e⟩ := led_at on om el hi
    have := on.lt (List.mem_of_getElem? e)
    omega
  · obtain ⟨k, hk, ek⟩ := on.ex (t := x) (by omega)
    obtain ⟨i, hi, ei⟩ := om.ex (t := k) (by omega)
    exact List.mem_of_getElem? (led_get ei ek)
theorem ext_get {a b : List Nat} {n : Nat} (ha : a.length = n) (hb : b.length = n) (h : ∀ i, i < n → ∃ t, a[i]? = some t ∧ b[i]? = some t) : a = b := by
  apply List.ext_getElem?
  intro i
  by_cases hi : i < n
  · obtain ⟨t, h1, h2⟩ := h i hi
    rw [h1, h2]
  · rw [List.getElem?_eq_none (by omega), List.getElem?_eq_none (by omega)]
theorem led_opp {ns : List Nat} (o : Ord ns) : ledN ns (opp ns) = List.range ns.length := by
  refine ext_get (n := ns.length) (by rw [led_len, opp_len]) List.length_range fun i hi => ⟨i, ?_, List.getElem?_range hi⟩
  obtain ⟨j, hj, e⟩ := o.ex hi
  exact led_get (opp_get o e) e
theorem opp_led {ns : List Nat} (o : Ord ns) : ledN (opp ns) ns = List.range ns.length := by
  refine ext_get (n := ns.length) (led_len _ _) List.length_range fun i hi => ⟨i, ?_, List.getElem?_range hi⟩
  obtain ⟨t, ht, e⟩ := o.at hi
  exact led_get e (opp_get o e)
theorem opp_opp {ns : List Nat} (o : Ord ns) : opp (opp ns) = ns :=
  (opp_of (opp_ord o) (opp_len ns).symm fun j t h => opp_back o h).symm
theorem opp_of_led {ns ms : List Nat} (on : Ord ns) (om : Ord ms) (el : ns.length = ms.length) : opp (ledN ns ms) = ledN (opp ms) (opp ns) := by
  refine (opp_of (led_ord on om el) ?_ fun j t h => ?_).symm
  · rw [led_len, opp_len, led_len, el]
  · obtain ⟨k, ek, et⟩ := led_at on om el h
    exact led_get (opp_get on et) (opp_get om ek)
theorem rev_get {n i : Nat} (h : i < n) : ((List.range n).reverse)[i]? = some (n - 1 - i) := by
  rw [← PySem.W.krv_range, List.getElem?_map, List.getElem?_range h]
  rfl
theorem rev_ord {n : Nat} (p : 0 < n) (q : n ≤ 30) : Ord (List.range n).reverse := by
  refine ord_by (n := n) (by rw [List.length_reverse, List.length_range]) ((List.reverse_perm _).nodup_iff.mpr List.nodup_range) (fun x hx => ?_) (fun x hx => ?_) p q
  · exact List.mem_range.mp (List.mem_reverse.mp hx)
  · exact List.mem_reverse.mpr (List.mem_range.mpr hx)
theorem rng_ord {n : Nat} (p : 0 < n) (q : n ≤ 30) : Ord (List.range n) := ord_by List.length_range List.nodup_range (fun x hx => List.mem_range.mp hx) (fun x hx => List.mem_range.mpr hx) p q
theorem led_last {ns : List Nat} (o : Ord ns) : ledN ns (List.range ns.length).reverse = ns.reverse := by
  refine ext_get (n := ns.length) (by rw [led_len, List.length_reverse, List.length_range]) List.length_reverse fun i hi => ?_
  obtain ⟨t, ht, e⟩ := o.at (j := ns.length - 1 - i) (by omega)
  exact ⟨t, led_get (rev_get hi) e, by rw [List.getElem?_reverse hi, e]⟩
theorem last_led {ns : List Nat} (o : Ord ns) : ledN (List.range ns.length).reverse ns = overN ns := by
  refine ext_get (n := ns.length) (led_len _ _) (by unfold overN; rw [List.length_map]) fun i hi => ?_
  obtain ⟨t, ht, e⟩ := o.at hi
  refine ⟨ns.length - 1 - t, led_get e (rev_get ht), ?_⟩
  unfold overN
  rw [List.getElem?_map, e]
  rfl
theorem led_led {a b c : List Nat} (oa : Ord a) (ob : Ord b) (oc : Ord c) (e1 : a.length = b.length) (e2 : b.length = c.length) : ledN (ledN a b) c = ledN a (ledN b c) := by
  refine ext_get (n := c.length) (led_len _ _) (by rw [led_len, led_len]) fun i hi => ?_
  obtain ⟨k, hk, ek⟩ := oc.at hi
  obtain ⟨l, hl, el⟩ := ob.at (j := k) (by omega)
  obtain ⟨t, ht, et⟩ := oa.at (j := l) (by omega)
  exact ⟨t, led_get ek (led_get el et), led_get (led_get ek el) et⟩
end Wo
/-! WoG0 -/
namespace Wo
open PySem PySem.Spec PyProof.Rows L2 WoR
theorem eqv_l (a b : List Int) : PyData.eqv (.list (dI a)) (.list (dI b)) = decide (a = b) := by
  rw [← eqvAll_int]
  simp [PyData.eqv]
theorem eqv_t (a b : List Int) : PyData.eqv (.tuple (dI a)) (.tuple (dI b)) = decide (a = b) := by
  rw [← eqvAll_int]
  simp [PyData.eqv]
theorem rgI_tn (n : Nat) : rgI n = tn (List.range n) := by
  rw [tn_eq]
  rfl
section
variable {P : Program} {w : World} {K : PySem.W.Frag}
    {mg : Str → Option Value} {base : Heap}
/-- x != y, both lists (tuples) of the same ints -/
theorem ne_l {H : Hp} {p q : Addr} {a b : List Nat} {Q : Bool → Hp → Prop} (h1 : SqL K H p (tn a)) (h2 : SqL K H q (tn b)) (e : a = b) (k : Q false H) : rNeD K (.ref p) (.ref q) H fun x H' => ∃ b, x = .bl b ∧ Q b H' := by
  refine ⟨_, _, dp_l h1, dp_l h2, shaped_l _, shaped_l _, _, rfl, ?_⟩
  rw [eqv_l, e, decide_eq_true rfl]
  exact k
theorem ne_t {H : Hp} {p q : Addr} {a b : List Nat} {Q : Bool → Hp → Prop} (h1 : SqT K H p (tn a)) (h2 : SqT K H q (tn b)) (e : a = b) (k : Q false H) : rNeD K (.ref p) (.ref q) H fun x H' => ∃ b, x = .bl b ∧ Q b H' := by
  refine ⟨_, _, dp_t h1, dp_t h2, shaped_t _, shaped_t _, _, rfl, ?_⟩
  rw [eqv_t, e, decide_eq_true rfl]
  exact k
theorem eq_t {H : Hp} {p q : Addr} {a b : List Nat} {Q : VK} (h1 : SqT K H p (tn a)) (h2 : SqT K H q (tn b)) (e : a = b) (k : Q (.bl true) H) : rEqD K (.ref p) (.ref q) H Q := by
  refine ⟨_, _, dp_t h1, dp_t h2, shaped_t _, shaped_t _, ?_⟩
  rw [eqv_t, e, decide_eq_true rfl]
  exact k
/-! a reading peeled, piece by piece -/
section
variable {ta tb te : TE} {tr : TA} {tt uu : TT} {tu tw : TS} {g : TG} {D : Ends} {σ : L2.St} {H : Hp} {Q : VK} {r : R2}
theorem pl_cons {R : List V → Hp → Prop} (h : ta σ H fun x H1 => tr σ H1 fun xs H2 => R (x :: xs) H2) : tCons ta tr σ H R := h
theorem pl_nil {R : List V → Hp → Prop} (h : R [] H) : tNil σ H R := h
theorem pl_var {i : Nat} {v : V} (h : σ[i]? = some (some v)) (k : Q v H) : tVar i σ H Q := ⟨v, h, k⟩
theorem pl_op (h : ta σ H fun x H1 => tb σ H1 fun y H2 => r x y H2 Q) : tOp r ta tb σ H Q := h
theorem pl_tup (h : tr σ H fun xs H1 => xs.length ≤ sizeLine ∧ ∀ p, H1 p = none → Q (.ref p) (upd H1 p (.tup xs))) : tTup tr σ H Q := h
theorem pl_lst (h : tr σ H fun xs H1 => xs.length ≤ sizeLine ∧ ∀ p, H1 p = none → Q (.ref p) (upd H1 p (.lst xs))) : tLst tr σ H Q := h
theorem pl_seq (h : tu { D with nx := tw D } σ H) : tSeq tu tw D σ H := h
theorem pl_asg (h : te σ H fun x H1 => g x σ H1 D.nx) : tAsg te g D σ H := h
theorem pl_name {i : Nat} {v : V} {Z : L2.St → Hp → Prop} (h : Z (σ.set i (some v)) H) : gName i v σ H Z := h
theorem pl_if (h : tt σ H fun b H1 => if b = true then tu D σ H1 else tw D σ H1) : tIfS tt tu tw D σ H := h
theorem pl_test {R : Bool → Hp → Prop} (h : te σ H fun x H' => ∃ k, x = .bl k ∧ R k H') : tTest te σ H R := h
theorem pl_or {R : Bool → Hp → Prop} (h : tt σ H fun c H1 => if c = true then R true H1 else uu σ H1 R) : tOr tt uu σ H R := h
theorem pl_next (h : D.nx σ H) : tNext D σ H := h
theorem pl_ret (h : te σ H D.rt) : tRet te D σ H := h
theorem pl_then {k : V → Hp → VK → Prop} (h : te σ H fun x H1 => k x H1 Q) : tThen te k σ H Q := h
theorem pl_cb {rr : List V → Hp → VK → Prop} (h : tr σ H fun vs H1 => rr vs H1 Q) : tCB rr tr σ H Q := h
theorem pl_call {sp : Sp} {E : XK} (h : tr σ H fun vs H1 => sp (vs ++ []) H1 Q E) : tCall sp [] E tr σ H Q := h
theorem pl_call1 {sp : Sp} {E : XK} {i : Nat} {v : V} (h : σ[i]? = some (some v)) (k : sp [v] H Q E) : tCall sp [] E (tCons (tVar i) tNil) σ H Q := ⟨v, h, k⟩
theorem pl_call2 {sp : Sp} {E : XK} {i j : Nat} {v u : V} (h : σ[i]? = some (some v)) (h2 : σ[j]? = some (some u)) (k : sp [v, u] H Q E) : tCall sp [] E (tCons (tVar i) (tCons (tVar j) tNil)) σ H Q := ⟨v, h, u, h2, k⟩
theorem pl_callF {sp : Sp} {E : XK} {j : Nat} {u : V} (h : ta σ H fun x H1 => σ[j]? = some (some u) ∧ sp [x, u] H1 Q E) (m : ∀ (R R' : VK), (∀ x H1, R x H1 → R' x H1) → ta σ H R → ta σ H R') : tCall sp [] E (tCons ta (tCons (tVar j) tNil)) σ H Q :=
  m _ _ (fun x H1 z => ⟨u, z.1, z.2⟩) h
theorem pl_callL {sp : Sp} {E : XK} {i : Nat} {u : V} (h : σ[i]? = some (some u)) (k : ta σ H fun x H1 => sp [u, x] H1 Q E) : tCall sp [] E (tCons (tVar i) (tCons ta tNil)) σ H Q := ⟨u, h, k⟩
end
end
end Wo
/-! WoG -/
namespace Wo
open PySem PySem.Spec PyProof.Rows L2 WoR
section
variable {P : Program} {w : World} {K : PySem.W.Frag}
    {mg : Str → Option Value} {base : Heap}
/-! calls with orders: no error -/
theorem go_one {CO : Addr} {g : List Nat → List Nat} {a : Addr} {ns : List Nat} {H : Hp} {Q : VK} (e : At H a (tn ns)) (o : Ord ns) (k : ∀ p H', H p = none → Same H H' → At H' p (tn (g ns)) → Q (.ref p) H') : spOne CO g [.ref a] H Q E0 :=
  ⟨.ref a, rfl, okv_ord o e, fun b ms z1 z2 _ p H' np s e' => by
    cases z1
    cases (tn_inj (e.inj z2))
    exact k p H' np s (.of e'), fun z => absurd (ordV_of e o) z⟩
  where tn_inj {a b : List Nat} (h : tn a = tn b) : a = b := ci_inj ((List.map_inj_right fun x y z => V.int.inj z).mp h)
theorem go_led {CO CU a b : Addr} {ns ms : List Nat} {H : Hp} {Q : VK} (e1 : At H a (tn ns)) (e2 : At H b (tn ms)) (on : Ord ns) (om : Ord ms) (el : ns.length = ms.length)
    (k : ∀ p H', H p = none → Same H H' → At H' p (tn (ledN ns ms)) → Q (.ref p) H') : spLed CO CU [.ref a, .ref b] H Q E0 :=
  ⟨.ref a, .ref b, rfl, okv_ord on e1, okv_ord om e2, fun a' b' ns' ms' z1 z2 z3 z4 _ _ _ p H' np s e' => by
    cases z1
    cases z2
    cases (go_one.tn_inj (e1.inj z3))
    cases (go_one.tn_inj (e2.inj z4))
    exact k p H' np s (.of e'), fun z => absurd (ordV_of e1 on) z, fun _ z => absurd (ordV_of e2 om) z, fun _ _ z => absurd (by rw [lenOf_tn e1, lenOf_tn e2]; exact el) z⟩
theorem go_mk {CM : Addr} {g : Nat → List Nat} {n : Nat} {H : Hp} {Q : VK} (h1 : 1 ≤ n) (h2 : n ≤ 30) (k : ∀ p H', H p = none → Same H H' → At H' p (tn (g n)) → Q (.ref p) H') : spMk CM g [.int (n : Int)] H Q E0 :=
  ⟨_, rfl, .int _, fun m z _ _ p H' np s e' => by
    cases Int.ofNat.inj (V.int.inj z)
    exact k p H' np s (.of e'), fun z => by
    have : inI 1 30 (.int (n : Int)) = true := by
      show (decide ((1 : Int) ≤ (n : Int)) && decide ((n : Int) ≤ 30)) = true
      rw [Bool.and_eq_true]
      exact ⟨decide_eq_true (by omega), decide_eq_true (by omega)⟩
    rw [this] at z
    cases z⟩
abbrev sRight : Stmt := topS 39
theorem scRight : FnScope ["_law_one_here", "_law_other", "_law_many_here", "_law_back", "_law_both", "_law_thing", "_law_place"] ["_law_one_here", "_law_other"] (defScope sRight) := ⟨rfl, rfl, rfl, by decide +kernel, rfl, by decide +kernel, by decide +kernel⟩
/-- the program's defs for orders, and what they promise -/
structure Defs (P : Program) (w : World) (K : PySem.W.Frag) (mg : Str → Option Value) (base : Heap) (CO CU CM : Addr) : Prop where
  op : ∃ f fd, mg "opposite" = some (.ref f) ∧ PySem.W.keepIn K (.ref f) = true ∧ Binds K fd ["order"] [] ∧ FnOk P w K mg base (L2N.CX P w) 6 f fd ["order"] (spOne CO opp)
  about : ∃ f fd, mg "turned_about" = some (.ref f) ∧ PySem.W.keepIn K (.ref f) = true ∧ Binds K fd ["order"] [] ∧ FnOk P w K mg base (L2N.CX P w) 6 f fd ["order"] (spOne CO List.reverse)
  over : ∃ f fd, mg "turned_over" = some (.ref f) ∧ PySem.W.keepIn K (.ref f) = true ∧ Binds K fd ["order"] [] ∧ FnOk P w K mg base (L2N.CX P w) 6 f fd ["order"] (spOne CO overN)
  led : ∃ f fd, mg "led" = some (.ref f) ∧ PySem.W.keepIn K (.ref f) = true ∧ Binds K fd ["one", "other"] [] ∧ FnOk P w K mg base (L2N.CX P w) 7 f fd ["one", "other"] (spLed CO CU)
  plain : ∃ f fd, mg "plain_order" = some (.ref f) ∧ PySem.W.keepIn K (.ref f) = true ∧ Binds K fd ["many"] [] ∧ FnOk P w K mg base (L2N.CX P w) 4 f fd ["many"] (spMk CM List.range)
  last : ∃ f fd, mg "last_order" = some (.ref f) ∧ PySem.W.keepIn K (.ref f) = true ∧ Binds K fd ["many"] [] ∧ FnOk P w K mg base (L2N.CX P w) 4 f fd ["many"] (spMk CM fun n => (List.range n).reverse)
/-- what stands in the heap as _law_right goes on -/
structure Rt (H : Hp) (a b o l : Addr) (ns ms : List Nat) : Prop where
  fa : Fz H a (tn ns)
  ea : At H a (tn ns)
  eb : At H b (tn ms)
  eo : At H o (tn (opp ns))
  el : At H l (tn (ledN ns ms))
  on : Ord ns
  om : Ord ms
  le : ns.length = ms.length
theorem Rt.same {H H' : Hp} {a b o l : Addr} {ns ms : List Nat} (h : Rt H a b o l ns ms) (s : Same H H') : Rt H' a b o l ns ms := ⟨h.fa.s s, h.ea.s s, h.eb.s s, h.eo.s s, h.el.s s, h.on, h.om, h.le⟩
abbrev stR (a b o l : Addr) (n : Nat) : L2.St := [some (.ref a), some (.ref b), some (.int (n : Int)), some (.ref o), some (.ref l), none, none]
abbrev tBad : TS := tRet (tC (.bl false))
section
variable {a b o l : Addr} {ns ms : List Nat} {H : Hp} {rest : TS} {D : Ends} {CO CU CM : Addr}
theorem r_lstRg {n : Nat} {H : Hp} {σ : L2.St} {Q : VK} {i : Nat} (h : σ[i]? = some (some (.int (n : Int)))) (hn : n ≤ 100000) (k : ∀ r H', H r = none → Same H H' → H' r = some (.lst (tn (List.range n))) → Q (.ref r) H') : tLstRg (tRg1 (tVar i)) σ H Q := by
  refine ⟨_, h, _, rfl, .of_le (by omega) (by omega) (by omega) (by omega), fun r nr => ?_⟩
  rw [rgV_ci]
  exact k r _ nr (same_new nr) upd_same
theorem r3 (R : Rt H a b o l ns ms) (k : ∀ H', Same H H' → rest D (stR a b o l ns.length) H') :
    tSeq (tIfS (tTest (tOp (rNeD K) (tLc (iRng1 (tCons (tVar 2) tNil)) (gName 5) tYes (tOp (rIxT K) (tVar 0) (tOp (rIxT K) (tVar 3) (tVar 5))) [5]) (tLstRg (tRg1 (tVar 2))))) tBad tNext) rest D (stR a b o l ns.length) H := by
  have on := R.on
  have hn30 := on.le
  refine pl_seq (pl_if (pl_test (pl_op ?_)))
  refine lc_R (n := ns.length) (fun R r => ⟨_, rfl, r⟩) (by omega) (fun x => rfl) (fun _ => true) (fun y => y) (fun y hm H2 s2 R r => r H2 (Same.refl H2)) (fun y hy _ H2 s2 Z r => ?_) fun D H4 hD s4 e4 => ?_
  · rw [rgI_tn, tn_eq] at hy
    obtain ⟨t, ht, rfl⟩ := List.mem_map.mp hy
    obtain ⟨j, hj, ej⟩ := on.ex (List.mem_range.mp ht)
    exact ⟨.ref a, rfl, .ref o, rfl, .int (t : Int), rfl, o, _, _, _, rfl, rfl, tl_of (R.eo.s s2), atI_nat (j := t) (tn_get (opp_get on ej)), a, _, _, _, rfl, rfl, tl_of (R.ea.s s2), atI_nat (j := j) (tn_get ej), r H2 (Same.refl H2)⟩
  · rw [pick_all, List.map_id', rgI_tn] at e4
    exact r_lstRg rfl (by omega) fun r H5 nr s5 e5 => ne_l (ll_of (s5 _ _ e4)) (ll_of e5) rfl (iteF (k H5 (s4.trans s5)))
theorem r4 (R : Rt H a b o l ns ms) (k : ∀ H', Same H H' → rest D (stR a b o l ns.length) H') :
    tSeq (tIfS (tTest (tOp (rNeD K) (tLc (iRng1 (tCons (tVar 2) tNil)) (gName 5) tYes (tIndF K (tVar 0) (tCons (tVar 5) tNil)) [5]) (tCB (Evl.rListS K) (tCons (tVar 3) tNil)))) tBad tNext) rest D (stR a b o l ns.length) H := by
  have on := R.on
  have hn30 := on.le
  refine pl_seq (pl_if (pl_test (pl_op ?_)))
  refine lc_R (n := ns.length) (fun R r => ⟨_, rfl, r⟩) (by omega) (fun x => rfl) (fun _ => true) (fun y => match y with | .int i => .int ((ns.idxOf i.toNat : Nat) : Int) | y => y) (fun y hm H2 s2 R r => r H2 (Same.refl H2)) (fun y hy _ H2 s2 Z r => ?_) fun D H4 hD s4 e4 => ?_
  · rw [rgI_tn, tn_eq] at hy
    obtain ⟨t, ht, rfl⟩ := List.mem_map.mp hy
    obtain ⟨j, hj, ej⟩ := on.ex (List.mem_range.mp ht)
    have ejj : ns.idxOf t = j := by
      have z := opp_get on ej
      unfold opp at z
      rw [List.getElem?_map, List.getElem?_range (List.mem_range.mp ht)] at z
      exact Option.some.inj z
    have z : Z (.int ((ns.idxOf t : Nat) : Int)) H2 := r H2 (Same.refl H2)
    rw [ejj] at z
    have eA := R.ea.s s2
    refine ⟨.ref a, rfl, ?_, .int (t : Int), rfl, a, _, .int (t : Int), j, .int (t : Int), rfl, rfl, tl_of eA, rfl, ?_, tn_get ej, ?_, fun m z' hm hz => ?_, z⟩
    · obtain ⟨ob, e, d⟩ := R.fa.s s2
      exact ⟨a, ob, _, rfl, e, d⟩
    · rw [tn_eq, List.all_map]
      exact List.all_eq_true.mpr
          fun _ _ => rfl
    · show ((t : Int) == (t : Int)) = true
      exact beq_self_eq_true _
    · obtain ⟨v, hv, rfl⟩ := tn_get' hz
      show ((v : Int) == (t : Int)) = false
      refine beq_eq_false_iff_ne.mpr fun e => ?_
      have e := Int.ofNat.inj e
      subst e
      have := (List.getElem?_inj (List.getElem?_eq_some_iff.mp hv).1 on.nd).mp (hv.trans ej.symm)
      omega
  · rw [pick_all, rgI_tn, tn_eq, List.map_map] at e4
    have e4 : H4 D = some (.lst (tn (opp ns))) := by
      rw [e4]
      unfold opp
      rw [tn_eq, List.map_map]
      rfl
    refine ⟨.ref o, rfl, o, _, rfl, .inr (tl_of (R.eo.s s4)), fun r nr => ?_⟩
    exact ne_l (ll_of (same_new nr _ _ e4)) (ll_of upd_same) rfl (iteF (k _ (s4.trans (same_new nr))))
theorem r5 (R : Rt H a b o l ns ms) (k : ∀ H', Same H H' → rest D (stR a b o l ns.length) H') :
    tSeq (tIfS (tTest (tOp (rNeD K) (tVar 4) (tThen (tLc (iRng1 (tCons (tVar 2) tNil)) (gName 6) tYes (tOp (rIxT K) (tVar 0) (tOp (rIxT K) (tVar 1) (tVar 6))) [6]) (kTup K)))) tBad tNext) rest D (stR a b o l ns.length) H := by
  have on := R.on
  have om := R.om
  have le := R.le
  have hn30 := on.le
  refine pl_seq (pl_if (pl_test (pl_op (pl_var rfl (pl_then ?_)))))
  refine lc_R (n := ns.length) (fun R r => ⟨_, rfl, r⟩) (by omega) (fun x => rfl) (fun _ => true) (fun y => match y with | .int i => .int ((ns.getD (ms.getD i.toNat 0) 0 : Nat) : Int) | y => y) (fun y hm H2 s2 R r => r H2 (Same.refl H2)) (fun y hy _ H2 s2 Z r => ?_) fun D H4 hD s4 e4 => ?_
  · rw [rgI_tn, tn_eq] at hy
    obtain ⟨t, ht, rfl⟩ := List.mem_map.mp hy
    have ht := List.mem_range.mp ht
    obtain ⟨i, hi, ei⟩ := om.at (j := t) (by omega)
    obtain ⟨j, hj, ej⟩ := on.at (j := i) (by omega)
    have z : Z (.int ((ns.getD (ms.getD t 0) 0 : Nat) : Int)) H2 := r H2 (Same.refl H2)
    rw [getD_of ei, getD_of ej] at z
    exact ⟨.ref a, rfl, .ref b, rfl, .int (t : Int), rfl, b, _, _, _, rfl, rfl, tl_of (R.eb.s s2), atI_nat (j := t) (tn_get ei), a, _, _, _, rfl, rfl, tl_of (R.ea.s s2), atI_nat (j := i) (tn_get ej), z⟩
  · rw [pick_all, rgI_tn, tn_eq, List.map_map] at e4
    have e4 : H4 D = some (.lst (tn (ledN ns ms))) := by
      rw [e4, tn_eq]
      congr 2
      apply List.ext_getElem?
      intro t
      rw [List.getElem?_map,
          List.getElem?_map]
      by_cases ht : t < ns.length
      · obtain ⟨i, hi, ei⟩ := om.at (j := t) (by omega)
        obtain ⟨j, hj, ej⟩ := on.at (j := i) (by omega)
        rw [List.getElem?_range ht, led_get ei ej]
        show some (V.int ((ns.getD (ms.getD t 0) 0 : Nat) : Int)) = some (V.int (j : Int))
        rw [getD_of ei, getD_of ej]
      · rw [List.getElem?_eq_none (by rw [List.length_range]; omega), List.getElem?_eq_none (by rw [led_len]; omega)]
        rfl
    refine .inl ⟨D, _, rfl, ll_of e4, fun r nr => ?_⟩
    exact ne_t (tl_of ((R.el.s s4).s (same_new nr))) (tl_of (.of upd_same)) rfl (iteF (k _ (s4.trans (same_new nr))))
theorem r6 (R : Rt H a b o l ns ms) (k : ∀ H', Same H H' → rest D (stR a b o l ns.length) H') :
    tSeq (tIfS (tOr (tTest (tOp (rNeD K) (tCall (spLed CO CU) [] E0 (tCons (tVar 0) (tCons (tVar 3) tNil))) (tCall (spMk CM List.range) [] E0 (tCons (tVar 2) tNil))))
      (tTest (tOp (rNeD K) (tCall (spLed CO CU) [] E0 (tCons (tVar 3) (tCons (tVar 0) tNil))) (tCall (spMk CM List.range) [] E0 (tCons (tVar 2) tNil))))) tBad tNext) rest D (stR a b o l ns.length) H := by
  have on := R.on
  have oo := opp_ord on
  have h0 := on.pos
  have hn30 := on.le
  refine pl_seq (pl_if (pl_or (pl_test (pl_op (pl_call2 rfl rfl (go_led R.ea R.eo on oo (opp_len ns).symm fun x H1 nx s1 ex => ?_))))))
  refine pl_call1 rfl (go_mk (by omega) (by omega) fun y H2 ny s2 ey => ne_t (tl_of (ex.s s2)) (tl_of ey) (led_opp on) (iteF ?_))
  refine pl_test (pl_op (pl_call2 rfl rfl (go_led ((R.eo.s s1).s s2) ((R.ea.s s1).s s2) oo on (opp_len ns) fun z H3 nz s3 ez => ?_)))
  refine pl_call1 rfl (go_mk (by omega) (by omega) fun u H4 nu s4 eu => ne_t (tl_of (ez.s s4)) (tl_of eu) (opp_led on) (iteF ?_))
  exact k H4 (((s1.trans s2).trans s3).trans s4)
theorem r7 (R : Rt H a b o l ns ms) (k : ∀ H', Same H H' → rest D (stR a b o l ns.length) H') :
    tSeq (tIfS (tOr (tTest (tOp (rNeD K) (tCall (spOne CO opp) [] E0 (tCons (tVar 4) tNil)) (tCall (spLed CO CU) [] E0 (tCons (tCall (spOne CO opp) [] E0 (tCons (tVar 1) tNil)) (tCons (tVar 3) tNil)))))
      (tTest (tOp (rNeD K) (tCall (spOne CO opp) [] E0 (tCons (tVar 3) tNil)) (tVar 0)))) tBad tNext) rest D (stR a b o l ns.length) H := by
  have on := R.on
  have om := R.om
  have le := R.le
  have oo := opp_ord on
  have ol := led_ord on om le
  refine pl_seq (pl_if (pl_or (pl_test (pl_op (pl_call1 rfl (go_one R.el ol fun x H1 nx s1 ex => ?_))))))
  refine pl_call (pl_cons (pl_call1 rfl (go_one (R.eb.s s1) om fun y H2 ny s2 ey => pl_cons (pl_var rfl (pl_nil ?_)))))
  refine go_led ey ((R.eo.s s1).s s2) (opp_ord om) oo (by rw [opp_len, opp_len, le]) fun z H3 nz s3 ez => ne_t (tl_of ((ex.s s2).s s3)) (tl_of ez) (opp_of_led on om le) (iteF ?_)
  have s13 := (s1.trans s2).trans s3
  refine pl_test (pl_op (pl_call1 rfl (go_one (R.eo.s s13) oo fun u H4 nu s4 eu => pl_var rfl (ne_t (tl_of eu) (tl_of ((R.ea.s s13).s s4)) (opp_opp on) (iteF ?_)))))
  exact k H4 (s13.trans s4)
theorem r8 (R : Rt H a b o l ns ms) (k : ∀ H', Same H H' → rest D (stR a b o l ns.length) H') :
    tSeq (tIfS (tTest (tOp (rNeD K) (tCall (spOne CO List.reverse) [] E0 (tCons (tVar 0) tNil)) (tCall (spLed CO CU) [] E0 (tCons (tVar 0) (tCons (tCall (spMk CM fun n => (List.range n).reverse) [] E0 (tCons (tVar 2) tNil)) tNil))))) tBad tNext) rest D (stR a b o l ns.length) H := by
  have on := R.on
  have h0 := on.pos
  have hn30 := on.le
  refine pl_seq (pl_if (pl_test (pl_op (pl_call1 rfl (go_one R.ea on fun x H1 nx s1 ex => ?_)))))
  refine pl_call (pl_cons (pl_var rfl (pl_cons (pl_call1 rfl (go_mk (by omega) (by omega) fun y H2 ny s2 ey => pl_nil ?_)))))
  refine go_led ((R.ea.s s1).s s2) ey on (rev_ord h0 hn30) (by rw [List.length_reverse, List.length_range]) fun z H3 nz s3 ez => ne_t (tl_of ((ex.s s2).s s3)) (tl_of ez) (led_last on).symm (iteF ?_)
  exact k H3 ((s1.trans s2).trans s3)
theorem r9 (R : Rt H a b o l ns ms) (k : ∀ H', Same H H' → D.rt (.bl true) H') :
    tRet (tOp (rEqD K) (tCall (spOne CO overN) [] E0 (tCons (tVar 0) tNil)) (tCall (spLed CO CU) [] E0 (tCons (tCall (spMk CM fun n => (List.range n).reverse) [] E0 (tCons (tVar 2) tNil)) (tCons (tVar 0) tNil)))) D (stR a b o l ns.length) H := by
  have on := R.on
  have h0 := on.pos
  have hn30 := on.le
  refine pl_ret (pl_op (pl_call1 rfl (go_one R.ea on fun x H1 nx s1 ex => ?_)))
  refine pl_call (pl_cons (pl_call1 rfl (go_mk (by omega) (by omega) fun y H2 ny s2 ey => pl_cons (pl_var rfl (pl_nil ?_)))))
  refine go_led ey ((R.ea.s s1).s s2) (rev_ord h0 hn30) on (by rw [List.length_reverse, List.length_range]) fun z H3 nz s3 ez => eq_t (tl_of ((ex.s s2).s s3)) (tl_of ez) (last_led on).symm ?_
  exact k H3 ((s1.trans s2).trans s3)
end
end
end Wo
/-! WoK -/
namespace WoK
open PySem HotX PySem.Spec
    PyProof.Rows
section
variable {prog : Program} {w
    : World} {A : Around}
    {E : Value → Shared → Prop} {s : Shared}
/-- a fresh StopIteration raised while an exception is handled -/
theorem stop_hot {α : Type} {x1 : Addr} {Q : α → Shared → Prop} (hot : HotAt A x1 s.heap)
    (hE : ∀ h' e, (∀ b o, s.heap.get? b = some o → h'.get? b = some o) → (∃ o, h'.get? e = some o ∧ o.cls = .type "StopIteration") → E (.ref e) { s with heap := h' }) :
    wpAny (model prog w) A (newExc (.type "StopIteration") [] >>= fun e => (raiseNew e : Sem α)) Q E s := by
  obtain ⟨hh, o1, vs1,
      h1, d1, c1⟩ := hot
  refine wpAny_bind ?_
  simp only [newExc, newTuple]
  refine wpAny_bind (wpAny_newObj_type ?_
      (by size_fits))
  refine wpAny_bind (m := firstArgMember _ _) (wpAny_of_eq (a := Value.none)
      (by first | rfl | (simp only [firstArgMember]; rfl)) ?_)
  refine wpAny_newObj_type
      ?_ (by size_fits)
  have g1 := Heap.get?_push_of_some { cls := .type "tuple", data := .seq #[] } h1
  refine raiseNew_hot ⟨hh, o1, vs1, Heap.get?_push_of_some _ g1, d1, c1⟩ (Nat.ne_of_lt (Heap.lt_size g1)) (Heap.get?_push_size _ rfl) rfl
    (by first | (simp; done) | (simp; omega)) (hE _ _ (fun b o e => ?_) ⟨_, Heap.get?_update_self _ (Heap.get?_push_size _ rfl) rfl, rfl⟩)
  have e2 := Heap.get?_push_of_some { cls := .type "tuple", data := .seq #[] } e
  rw [Heap.get?_update_other _ _ (Nat.ne_of_gt (Heap.lt_size e2))]
  exact Heap.get?_push_of_some _ e2
/-- the end of a list's iterator -/
theorem listEnd_hot {it l x1 : Addr} {i : Nat} {items} {Q : Value → Shared → Prop} (hot : HotAt A x1 s.heap) (hn : x1 ≠ it)
    (hit : s.heap.IsListIter it l i) (hl : s.heap.IsList
        l items) (hx : items[i]? = none)
    (hE : ∀ h' e, Heap.ExtBut it s.heap h' → (∃ o, h'.get? e = some o ∧ o.cls =
        .type "StopIteration") → E (.ref e) { s with heap := h' }) :
    wpAny (model prog w) A (Builtin.SmallTypes.nextOf
        (.ref it)) Q E s := by
  obtain ⟨oi, ei, ci, di⟩ := id hit
  obtain ⟨ol, el, _, nl, dl⟩ := hl
  unfold
    Builtin.SmallTypes.nextOf
  refine wpAny_bind (wpAny_callSpecial?_slot (name := Str.ofString
    "__next__") hit.typeIs slot_listiter_next (wpAny_call_entry
      slot_listiter_next hit.typeIs entry_listiter_next ?_ (args_listiter_next _)))
  show wpAny _ _ (field
      (.ref it) 0 >>= _) _ _ s
  refine wpAny_bind (wpAny_field ei di (x := .ref l) rfl ?_)
  show wpAny _ _ (if (Value.ref l ==
      Value.none) = true then _ else _) _ _ s
  rw [if_neg (show ¬ ((Value.ref l == Value.none)
      = true) from Bool.false_ne_true)]
  show wpAny _ _ (field
      (.ref it) 1 >>= _) _ _ s
  refine wpAny_bind (wpAny_field ei di (x := .int i 0) rfl ?_)
  show wpAny _ _ (seqItems?
      (.ref l) >>= _) _ _ s
  refine wpAny_bind (wpAny_seqItems el dl ?_)
  simp only [Int.toNat_natCast,
    hx]
  refine wpAny_bind (wpAny_rule (wpAny_bind
    (wpAny_setField ei di (by simp) ?_)))
  refine stop_hot (x1 := x1) ?_ fun h' e k z => hE h' e ?_ z
  · obtain ⟨hh, o1, vs1, h1, d1, c1⟩ := hot
    exact ⟨hh, o1, vs1, (Heap.get?_update_other _ _ (Ne.symm hn)).trans h1, d1, c1⟩
  · intro b o hb e'
    exact k b o ((Heap.get?_update_other _ _ (Ne.symm hb)).trans e')
/-- the end of a zip, the first list at its end -/
theorem zipEnd_hot {z TI TO i1 i2 l1 l2 x1 : Addr} {k1 : Nat} {xs : Array Value} {Q : Option Value → Shared → Prop} (hot : HotAt A x1 s.heap) (n1 : x1 ≠ z) (n2 : x1 ≠ i1) (D : ZipApart z TI TO i1 i2 l1 l2)
    (hz : IsZip s.heap z TI TO .none) (hTI : IsPair s.heap TI (.ref i1) (.ref i2)) (h1 : s.heap.IsListIter i1 l1 k1) (hl1 : s.heap.IsList l1 xs) (hend : xs[k1]? = none)
    (hQ : ∀ h', (∀ c o, c ≠ z → c ≠ i1 → s.heap.get? c = some o → h'.get? c = some o) → Q none { s with heap := h' }) : wpAny (model prog w) A (pyNext (.ref z)) Q E s := by
  have hT : s.TypeIs (.ref z) "zip" :=
    ⟨_, hz, rfl⟩
  unfold pyNext
  have key : ∀ {Q' : Fin → Shared → Prop} {E' : Value → Shared → Prop} {A' : Around}, HotAt A' x1 s.heap → (∀ h' e, (∀ c o, c ≠ z → c ≠ i1 → s.heap.get? c = some o → h'.get? c = some o) → (∃ o, h'.get? e = some o ∧ o.cls = .type "StopIteration") → E' (.ref e) { s with heap := h' }) →
      wpAny (model prog w) A' (Builtin.«zip.__next__» ⟨[.ref z], []⟩) Q' E' s := by
    intro Q' E' A' hot' hE
    show wpAny _ _ (field
      (.ref z) 2 >>= _) _ _ _
    refine wpAny_bind (wpAny_field hz rfl
      (x := .bool false) rfl ?_)
    show wpAny _ _ (field
      (.ref z) 3 >>= _) _ _ _
    refine wpAny_bind (wpAny_field hz rfl
      (x := .ref TI) rfl ?_)
    refine wpAny_bind (wpAny_seqItems
      hTI rfl ?_)
    show wpAny _ _ (Builtin.SmallTypes.ownedTupleIsFree
      (.ref z) >>= _) _ _ _
    refine wpAny_bind ?_
    unfold
      Builtin.SmallTypes.ownedTupleIsFree
    refine wpAny_bind (wpAny_field hz rfl
      (x := .none) rfl (wpAny_pure ?_))
    simp only [if_true]
    refine wpAny_bind
        (wpAny_rule ?_)
    refine wpAny_bind (wpAny_field hz rfl
      (x := .ref TO) rfl ?_)
    refine wpAny_bind (wpAny_setField_rec hz (by simp) fun g1 hz1 hs1 => ?_)
    replace hz1 : IsZip g1 z TI TO .ellipsis := hz1
    refine wpAny_bind ?_
    simp only [List.zipIdx_cons, List.zipIdx_nil,
      List.forIn_cons, List.forIn_nil]
    refine wpAny_bind (wpAny_bind
      (wpAny_onRaise ?_))
    show wpAny _ _ (Builtin.SmallTypes.nextOf
      (.ref i1) >>= _) _ _ _
    obtain ⟨hh, o1, vs1, q1, d1, c1⟩ := hot'
    refine wpAny_bind (listEnd_hot (x1 := x1) ⟨hh, o1, vs1, hs1.extBut _ _ n1 q1, d1, c1⟩ n2 (h1.extBut hs1.extBut D.i1z) (hl1.extBut hs1.extBut D.l1z) hend fun g2 e hs2 he => ?_)
    obtain ⟨oe, hoe, hce⟩ := he
    have hz2 : IsZip g2 z TI TO .ellipsis := hs2 _ _ D.i1z.symm hz1
    have hez : e ≠ z := fun x => by
      subst x
      rw [hz2] at hoe
      cases hoe
      simp at hce
    refine wpAny_setField_rec hz2 (by simp) fun g3 _ hs3 => hE g3 e (fun c o n3 n4 x => hs3.extBut _ _ n3 (hs2 _ _ n4 (hs1.extBut _ _ n3 x))) ⟨oe, hs3.extBut _ _ hez hoe, hce⟩
  refine wpAny_bind (wpAny_attempt (wpAny_callSpecial?_slot (name := Str.ofString
    "__next__") hT F.slot_zip_next (wpAny_call_entry F.slot_zip_next hT
      F.entry_zip_next (key ?_ fun h' e hk he => ?_) (F.args_zip_next_1 _))))
  · exact hot
  · obtain ⟨o, ho, hc⟩ := he
    refine wpAny_bind (wpAny_isInstance (T := "StopIteration") (b := true)
      ⟨o, ho, hc⟩ isSubtype_stop ?_)
    exact wpAny_pure (hQ _ hk)
/-- the end of a tuple's iterator -/
theorem tupEnd_hot {it t x1 : Addr} {i : Nat} {items} {Q : Option Value → Shared → Prop} (hot : HotAt A x1 s.heap) (hn : x1 ≠ it)
    (hit : IsTupIter s.heap it t i) (ht : IsTup
        s.heap t items) (hx : items[i]? = none)
    (hQ : ∀ h', Heap.ExtBut it s.heap h' → Q none { s with heap := h' })
        : wpAny (model prog w) A (pyNext (.ref it)) Q E s := by
  obtain ⟨oi, ei, ci, di⟩ := id hit
  obtain ⟨ol, el, _, nl, dl⟩ := ht
  unfold pyNext
  refine wpAny_bind (wpAny_attempt (wpAny_callSpecial?_slot (name := Str.ofString
    "__next__") hit.typeIs slot_tupleiter_next (wpAny_call_entry slot_tupleiter_next
      hit.typeIs entry_tupleiter_next ?_ (args_tupleiter_next _))))
  show wpAny _ _ (field
      (.ref it) 0 >>= _) _ _ s
  refine wpAny_bind (wpAny_field ei di (x := .ref t) rfl ?_)
  show wpAny _ _ (if (Value.ref t ==
      Value.none) = true then _ else _) _ _ s
  rw [if_neg (show ¬ ((Value.ref t == Value.none)
      = true) from Bool.false_ne_true)]
  show wpAny _ _ (field
      (.ref it) 1 >>= _) _ _ s
  refine wpAny_bind (wpAny_field ei di (x := .int i 0) rfl ?_)
  show wpAny _ _ (seqItems?
      (.ref t) >>= _) _ _ s
  refine wpAny_bind (wpAny_seqItems el dl ?_)
  simp only [Int.toNat_natCast,
    hx]
  refine wpAny_bind (wpAny_rule (wpAny_bind
    (wpAny_setField ei di (by simp) ?_)))
  refine stop_hot (x1 := x1) ?_ fun h' e k z => ?_
  · obtain ⟨hh, o1, vs1, h1, d1, c1⟩ := hot
    exact ⟨hh, o1, vs1, (Heap.get?_update_other _ _ (Ne.symm hn)).trans h1, d1, c1⟩
  · obtain ⟨o, ho, hc⟩ := z
    refine wpAny_bind (wpAny_isInstance (T := "StopIteration") (b := true)
      ⟨o, ho, hc⟩ isSubtype_stop (wpAny_pure (hQ _ fun b o hb e' => ?_)))
    exact k b o ((Heap.get?_update_other _ _ (Ne.symm hb)).trans e')
end
end WoK
/-! WoL -/
namespace WoK
open PySem HotX PySem.Spec
    PyProof.Rows L2
section
variable {prog : Program} {w
    : World} {A : Around}
    {E : Value → Shared → Prop} {s : Shared}
/-- (a, b, ..) = t while an exception is handled -/
theorem unpack_hot {t x1 : Addr} {its : Array Value} {tgs : List (Bool × (Value → Sem Unit))} {Q : Unit → Shared → Prop} (hot : HotAt A x1 s.heap) (ht : IsTup s.heap t its) (hn : tgs.length = its.size) (hst : tgs.findIdx? (·.1) = none)
    (h : ∀ h', Heap.ExtBut s.heap.objs.size s.heap h' → wpAny (model prog w) A (assignInOrder (tgs.map (·.2)) its.toList) Q E { s with heap := h' }) : wpAny (model prog w) A (unpack (.ref t) tgs) Q E s := by
  obtain ⟨hh, o1, vs1, g1, d1, c1⟩ := hot
  have l1 : x1 ≠ s.heap.objs.size := Nat.ne_of_lt (Heap.lt_size g1)
  have lt : t ≠ s.heap.objs.size := Nat.ne_of_lt ht.lt
  unfold unpack
  rw [hn, hst]
  refine wpAny_bind
      (wpAny_holding ?_)
  unfold unpackItems
  refine wpAny_bind ?_
  unfold notIterableAtAll
  refine wpAny_bind (wpAny_specialOf ht.typeIs
    slot_tuple_iter.lookup (wpAny_pure ?_))
  simp only [Bool.false_eq_true,
      ↓reduceIte]
  refine wpAny_bind (wpAny_holding
    (iter_tuple ht ?_))
  refine wpAny_bind (wpAny_holding (draw_tuple lt its.size 0 _ _ ⟨_, Heap.get?_push_size _ rfl, rfl, rfl⟩ (ht.push _) (by omega) fun g hg sg => ?_))
  have e1 : (its.toList.drop 0).take its.size = its.toList := by
    rw [List.drop_zero, List.take_of_length_le (by simp)]
  rw [e1, if_neg (show ¬ its.toList.length < its.size by simp)]
  refine wpAny_bind (wpAny_holding (tupEnd_hot (x1 := x1) ⟨hh, o1, vs1, sg.extBut _ _ l1 (Heap.get?_push_of_some _ g1), d1, c1⟩ l1 hg ((ht.push _).extBut sg.extBut lt) (by simp) fun g' eg => ?_))
  simp only [Option.isSome_none, Bool.false_eq_true,
    ↓reduceIte]
  exact wpAny_pure (h g' fun b o hb e => eg b o hb (sg.extBut b o hb (Heap.get?_push_of_some _ e)))
end
section
variable {X : Cx} {pos : Pos}
theorem pg_tupH {es : List Expr} {k : Nat} {t : TGs} {n : Nat} (hc : L2H.HotC X) (h : PGs X es t)
    (hn : (assignEach es X.env).length = n := by rfl) (hst : (assignEach es X.env).findIdx?
        (·.1) = none := by rfl) : PG X (.Tuple es k pos) (gTup X.K n t) := by
  constructor
  intro pins s σ H v u Q I r hw
  obtain ⟨a, xs, rfl, hq, hl, hw⟩ := hw
  cases r
  obtain ⟨its, rv, ht,
      hz⟩ := I.tuple hq
  obtain ⟨x1, hot⟩ := hc.at I
  rw [assign_Tuple]
  refine wpAny_bind (wpAny_standAt (unpack_hot hot ht (by simp [hn, ← hl, rv.length]) hst fun h' hx => ?_))
  exact h.run pins _ σ H xs _ Q (I.kept (t' := s.toks) fun b o e => hx b o (Nat.ne_of_lt (Heap.lt_size e)) e) (by simpa using rv) hw
end
/-- zip of two lists, the first of them not the longer one -/
def ItzE (K : PySem.W.Frag) (a b : Addr) : It :=
  ⟨(Itz K a b).go, (Itz K a b).yld, fun i H => ∃ xs : List V, SqL K H a xs ∧ xs.length ≤ i⟩
theorem turn_zipH {P : Program} {w : World} {K : PySem.W.Frag} {elts : List Expr} {kk : Nat} {tpos : Pos} {a b z TI TO i1 i2 : Addr} (D : ZipApart z TI TO i1 i2 a b) :
    L2H.TurnH P w K (.Tuple elts kk tpos) (ItzE K a b) [z, TI, TO, i1, i2] z (fun i h => IsZip h z TI TO .none ∧ IsPair h TI (.ref i1) (.ref i2) ∧ (∃ x y, IsPair h TO x y) ∧ h.IsListIter i1 a i ∧ h.IsListIter i2 b i) := by
  have T := turn_zip (P := P) (w := w) (K := K) (elts := elts) (kk := kk) (tpos := tpos) D
  refine ⟨T.mem, T.obj, T.keep, ?_, ?_, T.self⟩
  · intro X hP hw hK hc i pins s σ H E I hf st hg
    subst hP hw hK
    obtain ⟨hz, hTI, ⟨x0, y0,
        hTO⟩, h1, h2⟩ := st
    obtain ⟨xs, ys, x, y, sx, sy, hx, hy⟩ := hg
    obtain ⟨its, rv, p, _⟩ := I.list sx
    obtain ⟨its2, rv2, p2, _⟩ := I.list sy
    obtain ⟨u, hu, ru⟩
        := rv.get hx
    obtain ⟨u2, hu2, ru2⟩
        := rv2.get hy
    have zl := Heap.lt_size hz
    refine wpAny_pyNext_zip_item D hz hTI hTO h1 h2 p.isList p2.isList (x := u) (y := u2) (by simpa using hu) (by simpa using hu2) fun g z1 TO1 g1 g2 hT hsz hk => ?_
    refine ⟨_, rfl, wpAny_letOwnedTupleGo_zip (s := { s with heap := g }) z1 fun g' z2 sb => ?_⟩
    have out : ∀ {c}, c ∉ [z, TI, TO, i1, i2] → c ≠ z ∧ c ≠ TO ∧ c ≠ i1 ∧ c ≠ i2 := fun {c} hb => by
      simp only [List.mem_cons, List.not_mem_nil, or_false, not_or] at hb
      exact ⟨hb.1, hb.2.2.1, hb.2.2.2.1, hb.2.2.2.2⟩
    have new : ObjOk X.prog X.w (upd H s.heap.objs.size (.tup [x, y])) g' s.heap.objs.size (.tup [x, y]) :=
      ⟨by show 2 ≤ sizeLine; decide, [u, u2], .cons ru (.cons ru2 .nil), ⟨_, (sb.2 _ (Nat.ne_of_gt zl)).trans hT, rfl, _, rfl⟩⟩
    have I1 := I.turnedNew (t' := s.toks) (ch := [z, TI, TO, i1, i2]) (fun c o hb q => (sb.2 c (out hb).1).trans (hk c o (out hb).1 (out hb).2.1 (out hb).2.2.1 (out hb).2.2.2 q)) hf (Nat.le_refl _) new
    refine ⟨.ref s.heap.objs.size, _, I1, rfl, ⟨_, x, y, rfl, I.hok.fresh (Nat.le_refl _), rfl, fun l hl => by rw [I.list_inj hl sx]; exact hx, fun l hl => by rw [I.list_inj hl sy]; exact hy⟩,
      ⟨z2, (sb.2 _ D.TIz).trans (hk _ _ D.TIz D.TITO D.TIi1 D.TIi2 hTI), ⟨u, u2, (sb.2 _ D.TOz).trans TO1⟩, g1.at fun o q => (sb.2 _ D.i1z).trans q, g2.at fun o q => (sb.2 _ D.i2z).trans q⟩, fun c hc' => ?_⟩
    obtain ⟨o, eo, _⟩ := T.obj i _ ⟨hz, hTI, ⟨x0, y0, hTO⟩, h1, h2⟩ c hc'
    rw [upd_ne (Nat.ne_of_lt (Heap.lt_size eo))]
    exact (hf c hc').1
  · intro X hP hw hK hc i pins s σ H E I hf st hg
    subst hP hw hK
    obtain ⟨hz, hTI, _, h1, h2⟩ := st
    obtain ⟨xs, sx, hend⟩ := hg
    obtain ⟨its, rv, p, _⟩ := I.list sx
    have l1 := rv.length
    obtain ⟨q, ⟨hh, v1, e1, c1⟩, hq⟩ := hc
    have pin := I.pin q (List.mem_append_left _ hq)
    have off : ∀ c ∈ [z, TI, TO, i1, i2], q.1 ≠ c := fun c hc' => (hf c hc').2.2.2.2.2 q (List.mem_append_left _ hq)
    refine zipEnd_hot (x1 := q.1) ⟨hh, q.2, v1, pin.1, e1, c1⟩ (off z (by simp)) (off i1 (by simp)) D hz hTI h1 p.isList (by simp; omega) fun h' hk => ⟨rfl, ?_⟩
    exact I.turnedL (t' := s.toks) (ch := [z, TI, TO, i1, i2]) (fun c o hb q => hk c o (fun q' => hb (by simp [q'])) (fun q' => hb (by simp [q'])) q) hf
def iZipE (K : PySem.W.Frag) (ta : TA) : TI := fun σ H R => ta σ H fun vs H1 => ∃ a b xs ys, vs = [.ref a, .ref b] ∧ SqL K H1 a xs ∧ SqL K H1 b ys ∧ R (ItzE K a b) H1
theorem pi_zipH {X : Cx} {e e2 : Expr} {ta : TA} {p pos tpos : Pos} {elts : List Expr} {kk : Nat} (hg : Gl X "zip") (hm : X.mg "zip" = none) (ha : PA X [e, e2] ta)
    (hs : starEach [e, e2] X.env = (false, eval e X.env) :: starEach [e2] X.env := by rfl)
        (hpl : (backTo pos (starEach [e2] X.env)).any (·.1) = false := by rfl) :
    L2H.PIH X (.Tuple elts kk tpos) (.Call (.Name "zip" p) [e, e2] [] pos) (iZipE X.K ta) := by
  constructor
  intro pins s σ H R I h
  refine Call_ (ld_blt I hg hm PyProof.Rows.boot_zip (PyProof.Rows.callWith_type1 (thn (ha.run pos pins s σ H _ I h) ?_) hs hpl))
  rintro us s1 ⟨vs, H1, I1, r1, a, b, xs, ys, rfl, sx, sy, q⟩
  cases r1 with
  | cons r rr =>
    cases rr with
    | cons r' rr =>
      cases rr
      cases r
      cases r'
      obtain ⟨its, rv, p1, _⟩ := I1.list sx
      obtain ⟨its2, rv2, p2, _⟩ := I1.list sy
      refine call_zip_2 p1.isList p2.isList fun h' hz hTI
          hTO h1 h2 hsz hk => wpAny_pyIter_zip hz ?_
      refine ⟨s1.heap.objs.size + 4, [s1.heap.objs.size + 4, s1.heap.objs.size + 2, s1.heap.objs.size + 3, s1.heap.objs.size, s1.heap.objs.size + 1], _, _, H1, rfl, I1.kept (t' := s1.toks) hk,
        turn_zipH (PySem.W.ktu_apart s1.heap.objs.size a b p1.lt p2.lt), ⟨hz, hTI, ⟨_, _, hTO⟩, h1, h2⟩, fun c hc => ?_, q⟩
      have hle : s1.heap.objs.size
          ≤ c := by
        simp only [List.mem_cons, List.not_mem_nil, or_false] at hc
        rcases hc with z | z | z | z | z <;> rw [z]
        all_goals first
          | exact Nat.le_add_right _ _
          | exact Nat.le_refl _
      exact I1.fpOk hle
          (I1.hok.fresh hle)
end WoK
/-! WoN -/
namespace WoK
open PySem HotX PySem.Spec
    PyProof.Rows L2
section
variable {X : Cx}
/-- a comprehension's own context, the handled exception's object known there too -/
abbrev blkH (X : Cx) (s : Shared) (H : Hp) (sc : Scope) (ce : Env) (fp : List Addr) : Cx := { X.blk s H sc ce fp with pn := X.pn }
theorem inv_pn {s s' : Shared} {H H' : Hp} {sc : Scope} {ce : Env} {fp : List Addr} {σ : L2.St} (I : Inv (X.blk s H sc ce fp) [] σ H' s')
    (h : ∀ p ∈ X.pn, s'.heap.get? p.1 = some p.2 ∧ H' p.1 = none ∧ p.1 ≠ ce.locals ∧ p.1 ∉ frs X.stack ∧ ∀ v, p.2.data ≠ .cell v) : Inv (blkH X s H sc ce fp) [] σ H' s' := by
  have o := I.ok
  exact ⟨⟨o.mod, o.kind, o.glob, o.blt, o.above, o.inj, o.has, o.cab, o.hd, o.frames, o.stk, o.exf, o.bs, o.bsz, o.noex, o.exfs, o.funs, o.frf⟩, I.os, I.bare, I.base, I.loc, I.cell, I.free, I.freeC,
    fun p hp => h p (by rw [List.append_nil] at hp; exact hp), I.hok, I.len⟩
theorem hot_blk {s : Shared} {H : Hp} {sc : Scope} {ce : Env} {fp : List Addr} (hc : L2H.HotC X) : L2H.HotC (blkH X s H sc ce fp) := hc
/-- a turn of the loop, in the block -/
theorem turn_hot {elt tg : Expr} {ifs : List Expr} {g : TG} {tt : TT} {te : TE} {s0 : Shared} {H0 : Hp} {sc : Scope} {ce : Env} {fp : List Addr} {J : It} {it D : Addr} {tn : Nat → Heap → Prop} {vs : List Nat} {σ : L2.St} {W : Nat → Nat → Hp → Prop} {Z : Shared → Prop}
    (hc : L2H.HotC X) (T : L2H.TurnH X.prog X.w X.K tg J fp it tn) (hoff : ∀ p ∈ X.pn, p.1 ∉ fp) (pg : PG (blkH X s0 H0 sc ce fp) tg g) (pt : PTs (blkH X s0 H0 sc ce fp) ifs tt) (pe : PE (blkH X s0 H0 sc ce fp) elt te)
    (turn : ∀ i m H, W i m H → (J.stop i H ∧ ∀ s', Inv (blkH X s0 H0 sc ce fp) [] (wipe σ vs) H s' → Z s') ∨ (J.go i H ∧ ∃ Nx : Hp → Prop, (∀ H', Nx H' → ∃ m', m' < m ∧ W (i + 1) m' H') ∧ ∀ x H', J.yld i H x H' → g x (wipe σ vs) H' fun σ2 H2 => wipe σ2 vs = wipe σ vs ∧ tt σ2 H2 fun b H3 =>
      if b = true then te σ2 H3 fun y H4 => ∃ acc, H4 D = some (.lst acc) ∧ acc.length < sizeLine ∧ Nx (upd H4 D (.lst (acc ++ [y]))) else Nx H3)) :
    ∀ n s, (∃ i H', Inv (blkH X s0 H0 sc ce fp) [] (wipe σ vs) H' s ∧ tn i s.heap ∧ (∀ b ∈ fp, H' b = none) ∧ W i n H') → wpAny (model X.prog X.w) X.A (pyNext (.ref it)) (fun r s₁ => match r with
      | none => Z s₁
      | some v => wpAny (model X.prog X.w) X.A (letOwnedTupleGo tg (.ref it) v) (fun _ s₁' => wpAny (model X.prog X.w) X.A (assign tg ce v) (fun _ s₂ =>
          wpAny (model X.prog X.w) X.A (forIn ifs true fun c r => if r = true then do let ok ← isTrue c ce (eval c ce); pure (ForInStep.yield ok) else pure (ForInStep.yield r)) (fun ok s₃ =>
            if ok = true then wpAny (model X.prog X.w) X.A (eval elt ce) (fun x s₄ =>
              wpAny (model X.prog X.w) X.A (call (.builtin "list.append") [.ref D, x]) (fun _ s₅ => ∃ m, m < n ∧ ∃ i H', Inv (blkH X s0 H0 sc ce fp) [] (wipe σ vs) H' s₅ ∧ tn i s₅.heap ∧ (∀ b ∈ fp, H' b = none) ∧ W i m H') (fun _ _ => False) s₄) (fun _ _ => False) s₃
            else ∃ m, m < n ∧ ∃ i H', Inv (blkH X s0 H0 sc ce fp) [] (wipe σ vs) H' s₃ ∧ tn i s₃.heap ∧ (∀ b ∈ fp, H' b = none) ∧ W i m H') (fun _ _ => False) s₂) (fun _ _ => False) s₁') (fun _ _ => False) s₁) (fun _ _ => False) s := by
  rintro n s5 ⟨i, H5,
      I5, st5, n5, w5⟩
  have stat : ∀ {σ' : L2.St} {H' : Hp} {s' : Shared}, Inv (blkH X s0 H0 sc ce fp) [] σ' H' s' → (∀ b ∈ fp, H' b = none) → ∀ b ∈ fp, FpOk (blkH X s0 H0 sc ce fp) [] H' b := by
    intro σ' H' s' I' hn b hb
    have x1 := I'.ok.exf b hb
    refine ⟨hn b hb, x1.1, I'.ok.exfs b hb, .inl hb, x1.2, fun p hp z => ?_⟩
    rw [List.append_nil] at hp
    exact hoff p hp (by rw [z]; exact hb)
  rcases turn i n H5 w5 with ⟨stop, fin⟩ | ⟨go, Nx, hNx, step⟩
  · refine thnF (T.done (blkH X s0 H0 sc ce fp) rfl rfl rfl (hot_blk hc) i [] s5 _ H5 (fun _ _ => False) I5 (stat I5 n5) st5 stop) ?_
    rintro r s6 ⟨rfl, I6⟩
    exact fin s6 I6
  · refine thnF (T.item (blkH X s0 H0 sc ce fp) rfl rfl rfl (hot_blk hc) i [] s5 _ H5 (fun _ _ => False) I5 (stat I5 n5) st5 go) ?_
    rintro r s6 ⟨u, rfl, h6⟩
    refine thnF h6 ?_
    rintro _ s7 ⟨x, H7, I7, r7, y7, st7, n7⟩
    have I7' := I7.pinned (stat
        I7 n7) (T.obj _ _ st7)
    have back : ∀ {σ' : L2.St} {s' : Shared} {H' : Hp}, wipe σ' vs = wipe σ vs → Inv (blkH X s0 H0 sc ce fp) ([] ++ pinsAt fp s7.heap) σ' H' s' → Nx H' → ∃ m, m < n ∧ ∃ i H', Inv (blkH X s0 H0 sc ce fp) [] (wipe σ vs) H' s' ∧ tn i s'.heap ∧ (∀ b ∈ fp, H' b = none) ∧ W i m H' := by
      intro σ' s' H' hw I' nx
      obtain ⟨m', hm, w'⟩
          := hNx H' nx
      have kept : ∀ b ∈ fp, ∀ o, s7.heap.get? b = some o → s'.heap.get? b = some o ∧ H' b = none := fun b hb o e =>
        have z := I'.pin (b, o) (List.mem_append_right _ (List.mem_append_right _ (mem_pinsAt hb e)))
        ⟨z.1, z.2.1⟩
      refine ⟨m', hm, i + 1, H', (I'.unpinned (pins := [])).weak ?_ fun j v e => ?_, T.keep _ _ _ st7 fun b hb o e => (kept b hb o e).1, fun b hb => ?_, w'⟩
      · rw [← hw, wipe_length]
      · rw [← hw] at e
        exact (wipe_some e).1
      · obtain ⟨o, e, _⟩ :=
          T.obj _ _ st7 b hb
        exact (kept b hb o e).2
    refine thnF (pg.run _ s7 _ H7 x u _ I7' r7 (step x H7 y7)) ?_
    rintro _ s8 ⟨σ8, H8, I8, hw8, q8⟩
    refine thnF (pt.run _ s8 σ8 H8 _ I8 q8) ?_
    rintro b s9 ⟨H9, I9, q9⟩
    cases b with
    | false => exact back hw8 I9 q9
    | true =>
      refine thnF (pe.run _ s9 σ8 H9 _ I9 q9) ?_
      rintro z s10 ⟨yv, H10, I10, r10, acc, hD, hz, nx⟩
      exact app_ok (X := blkH X s0 H0 sc ce fp) I10 hD hz r10 fun s11 I11 => back hw8 I11 nx
end
end WoK
/-! WoO -/
namespace WoK
open PySem HotX PySem.Spec
    PyProof.Rows L2
section
variable {X : Cx}
/-- [elt for target in iter if ..] while an exception is handled -/
theorem pe_lcH {elt tg iter : Expr} {ifs : List Expr} {scope : Scope} {own : List (Str × Nat)} {pos : Pos} {wi : TI} {g : TG} {tt : TT} {te : TE} (hc : L2H.HotC X) (hN : X.N.Nodup) (hi : L2H.PIH X tg iter wi) (ok : BlkOk X.N X.env.scope scope own)
    (hg : ∀ (s : Shared) (H : Hp) (C : Addr) (cl : List (Str × Addr)) (fp : List Addr), PG (blkH X s H scope (compEnvC scope cl C X.env) fp) tg g) (ht : ∀ (s : Shared) (H : Hp) (C : Addr) (cl : List (Str × Addr)) (fp : List Addr), PTs (blkH X s H scope (compEnvC scope cl C X.env) fp) ifs tt)
    (he : ∀ (s : Shared) (H : Hp) (C : Addr) (cl : List (Str × Addr)) (fp : List Addr), PE (blkH X s H scope (compEnvC scope cl C X.env) fp) elt te) (hs : ∀ x, foldedSetIterable iter X.env x = pure x := by intro _; rfl) :
    PE X (.ListComp elt [⟨tg, iter, ifs, 0⟩] scope pos)
        (tLc wi g tt te (own.map (·.2))) := by
  constructor
  intro pins s σ H Q I h
  rw [eval_ListComp]
  have free : ∀ y ∈ scope.names, y.2 = .free → ∃ c, X.env.cells.lookup y.1 = some c := fun y hy e =>
    (ok.free y hy e).elim (fun k => I.ok.has _ (.inl k)) fun k => I.ok.has _ (.inr k)
  refine wpAny_comprehension_free (use := none) rfl hs (closure_ok free) ok.kind (fun y hy e => by rw [ok.uniq y hy, e]) (thn (hi.run pins s σ H _ I h) fun xv s1 hx => thn hx ?_)
  rintro itv s2 ⟨it, fp, tn, J, H2, rfl, I2, T, st2, f2, q⟩
  refine wpAny_newObj_type (newEnv_comp
      ?_) (by show 0 ≤ sizeLine; decide)
  generalize hD :
      s2.heap.objs.size = D
  obtain ⟨W, ⟨m0, w0⟩, turn⟩ := q D (I2.hok.fresh (Nat.le_of_eq hD))
  -- the new list
  have I3 : Inv X pins σ (upd H2 D (.lst [])) { s2 with heap := s2.heap.push { cls := .type "list", data := .seq ([] : List Value).toArray } } :=
    I2.laid (t' := s2.toks) (fun b o e =>
      Heap.get?_push_of_some _ e) (Nat.le_of_eq hD) ⟨Nat.zero_le _, [], 0, .nil, by
        rw [← hD]
        exact Heap.get?_push_size _ rfl⟩
  have f3 : ∀ b ∈ fp, FpOk X pins (upd H2 D (.lst [])) b ∧ b < (s2.heap.push { cls := .type "list", data := .seq ([] : List Value).toArray }).objs.size := fun b hb => by
    obtain ⟨o, e, _⟩ :=
        T.obj _ _ st2 b hb
    have hlt := Heap.lt_size e
    refine ⟨⟨?_, (f2 b hb).2⟩, by rw [Heap.size_push]; exact Nat.lt_succ_of_lt hlt⟩
    have nD : b ≠ D := by
      rw [← hD]
      exact Nat.ne_of_lt hlt
    rw [upd_ne nD]
    exact (f2 b hb).1
  have st3 : tn 0 (s2.heap.push { cls := .type "list", data := .seq ([] : List Value).toArray }) := T.keep _ _ _ st2 fun b _ o e =>
    Heap.get?_push_of_some _ e
  generalize e3 : ({ s2 with heap := s2.heap.push { cls := .type "list", data := .seq ([] : List Value).toArray } } : Shared) = s3 at I3
  have h3 : s2.heap.push { cls := .type "list", data := .seq ([] : List Value).toArray } = s3.heap := by rw [← e3]
  rw [h3] at st3
  simp only [h3] at f3
  generalize hH3 : upd H2 D (.lst []) = H3 at I3 f3 w0
  have I4 := block_start
      I3 ok hN f3
  show codeAny _ _ (.compStart (.ListComp elt [⟨tg, iter, ifs, 0⟩] scope pos) 0 (.ref it) (.ref D) (compEnvC scope (cellsFrom (s3.heap.objs.size + 1) scope.names (cloFrom X.env.cells scope.names [])) s3.heap.objs.size X.env)) (compPost (model X.prog X.w) X.A X.xe none (EP X pins σ Q) (.ref D) s3.heap.objs.size) { s3 with heap := pushCells (s3.heap.push { cls := .type "dict", data := .dict #[] }) scope.names }
  have pg := hg s3 H3 s3.heap.objs.size (cellsFrom (s3.heap.objs.size + 1) scope.names (cloFrom X.env.cells scope.names [])) fp
  have pt := ht s3 H3 s3.heap.objs.size (cellsFrom (s3.heap.objs.size + 1) scope.names (cloFrom X.env.cells scope.names [])) fp
  have pe := he s3 H3 s3.heap.objs.size (cellsFrom (s3.heap.objs.size + 1) scope.names (cloFrom X.env.cells scope.names [])) fp
  generalize hce : compEnvC scope (cellsFrom (s3.heap.objs.size + 1) scope.names (cloFrom
      X.env.cells scope.names [])) s3.heap.objs.size X.env = ce at I4 pg pt pe ⊢
  have cL : ce.locals = s3.heap.objs.size := by
    rw [← hce]
    rfl
  have kp : ∀ b o, s3.heap.get? b = some o → (pushCells (s3.heap.push { cls := .type "dict", data := .dict #[] }) scope.names).get? b = some o := fun b o e =>
    pushCells_keeps _ _ _ _ (Heap.get?_push_of_some _ e)
  have off : ∀ p ∈ X.pn, p.1 ∉ fp := fun p hp hm => (f3 p.1 hm).1.2.2.2.2.2 p (List.mem_append_left _ hp) rfl
  have I5 : Inv (blkH X s3 H3 scope ce fp) [] (wipe σ (own.map (·.2))) H3 { s3 with heap := pushCells (s3.heap.push { cls := .type "dict", data := .dict #[] }) scope.names } := by
    refine inv_pn I4 fun p hp => ?_
    obtain ⟨a1, a2, a3, a4, a5⟩ := I3.pin p (List.mem_append_left _ hp)
    refine ⟨kp _ _ a1, a2, ?_, fun hm => (List.mem_cons.mp (I3.stkSub p.1 hm)).elim a3 a4, a5⟩
    rw [cL]
    exact Nat.ne_of_lt (Heap.lt_size a1)
  have st5 : tn 0 (pushCells (s3.heap.push { cls := .type "dict", data := .dict #[] }) scope.names) := T.keep _ _ _ st3 fun b _ o e => kp b o e
  have loop : codeAny (model X.prog X.w) X.A (.compLoop (.ListComp elt [⟨tg, iter, ifs, 0⟩] scope pos) 0 (.ref it) (.ref D) ce) (compPost (model X.prog X.w) X.A X.xe none (EP X pins σ Q) (.ref D) s3.heap.objs.size) { s3 with heap := pushCells (s3.heap.push { cls := .type "dict", data := .dict #[] }) scope.names } := by
    have fin : ∀ {H : Hp} {s' : Shared}, Q (.ref D) H → Inv (blkH X s3 H3 scope ce fp) [] (wipe σ (own.map (·.2))) H s' → compPost (model X.prog X.w) X.A X.xe none (EP X pins σ Q) (.ref D) s3.heap.objs.size (.ok .next) s' := by
      intro H s' qq I6
      have I7 : Inv X pins σ H s' := I3.call' (ch := fp) I6.os I6.base I6.hok I6.bare fun b hb => ⟨(f3 b hb).1.2.2.2.1, (f3 b hb).1.2.1, (f3 b hb).1.2.2.2.2.1, (f3 b hb).1.2.2.2.2.2⟩
      have nC : H s3.heap.objs.size = none := by
        have z : H ce.locals = none := I6.free
        rw [cL] at z
        exact z
      obtain ⟨mm, hn, _⟩ := I6.loc
      have hn : s'.heap.Ns ce.locals mm := hn
      rw [cL] at hn
      obtain ⟨f0, f1, f2', f4, f5, f6⟩ := I3.fpOk (Nat.le_refl _) nC
      exact ⟨mm, hn, fun h'' sb => ⟨.ref D, H, I7.turned (t' := s'.toks) (fun b o hb e => (sb.2 b hb).trans e) f0 f1 f4 f5 f6, rfl, qq⟩⟩
    have key := turn_hot (σ := σ) (vs := own.map (·.2)) (D := D) (Z := fun s' => compPost (model X.prog X.w) X.A X.xe none (EP X pins σ Q) (.ref D) s3.heap.objs.size (.ok .next) s') (W := W) hc T off pg pt pe
      fun i m H w => Or.imp_left (fun z => And.intro z.1 fun s' I6 => fin z.2 I6) (turn i m H w)
    refine compLoop_any (fun n s' => ∃ i H', Inv (blkH X s3 H3 scope ce fp) [] (wipe σ (own.map (·.2))) H' s' ∧ tn i s'.heap ∧ (∀ b ∈ fp, H' b = none) ∧ W i n H') (fun n s' hI => ?_) m0 ⟨0, H3, I5, st5, fun b hb => (f3 b hb).1.1, w0⟩
    refine thnF (key n s' hI) fun r s1 hr => ?_
    cases r with
    | none => exact hr
    | some v =>
      exact thnF hr fun _ s2 h2 => thnF h2 fun _ s3' h3' => thnF h3' fun b s4 h4 => by
        cases b with
        | false => exact h4
        | true => exact thnF h4 fun _ s5 h5 => thnF h5 fun _ s6 h6 => h6
  exact codeAny_compStart_list loop (T.self X.A 0 _ _ _ st5 loop)
end
end WoK
/-! WoP -/
namespace WoK
open PySem HotX PySem.Spec
    PyProof.Rows L2 L2H
/-- a def's promise where an exception is handled, what it promises said of that exception's object -/
structure FnZ (P : Program) (w : World) (K : PySem.W.Frag) (mg : Str → Option Value) (base : Heap) (CX : CXT) (k : Nat) (f : Addr) (fd : FuncData) (ps : List Str) (sp : Addr × Obj → Sp) : Prop where
  len : ∀ p vs H Q E, sp p vs H Q E → vs.length = ps.length
  run : ∀ (A : Around) (outer : List Env) (s : Shared) (H : Hp) (args : Args) (us : List Value) (vs : List V) (Q : VK) (E : XK) (p : Addr × Obj), RoomH k A → Hot1 A p → PinOk outer H s p → Env0 P w K mg base A outer s H → BindsTo s fd args (ps.zip us) → Vals vs us →
    sp p vs H Q E → codeAny (model P w) A (.call (.ref f) args) (CR CX outer P w H s Q E) s
theorem fn_ofZ {CX : CXT} {P : Program} {w : World} {K : PySem.W.Frag} {mg : Str → Option Value} {base : Heap} {k : Nat} {f : Addr} {name qual : Str} {params : Arguments} {body : List Stmt} {scope : Scope} {dV kV doc pm cdv ct oc : Value} {an od : Option Addr}
    {osl : Array (Option Value)} {N ps : List Str} {sp : Addr × Obj → Sp} (lk : K.lookup f = some ⟨oc, od, .func (PySem.W.fnOf name qual params body scope dV kV doc pm an cdv ct), osl⟩) (hcd : PySem.W.codeIn K cdv qual = true) (S : FnScope N ps scope)
    (len : ∀ p vs H Q E, sp p vs H Q E → vs.length = ps.length)
    (hb : ∀ (A : Around) (outer : List Env) (s : Shared) (H : Hp) (vs : List V) (Q : VK) (E : XK) (p : Addr × Obj), Hot1 A p → RoomH k (A.deeper (envOfC qual scope s.heap.objs.size f cdv)) → sp p vs H Q E →
      ∃ t, PSs (cxH CX P w K mg base N qual scope f cdv A outer s H E p) body t ∧ t
          { nx := fun _ H' => Q .non H', rt := Q } (L2.start N vs) H) :
    FnZ P w K mg base CX (k + 1) f (PySem.W.fnOf name qual params body scope dV kV doc pm an cdv ct) ps sp := by
  refine ⟨len, ?_⟩
  intro A outer s H args us vs Q E p hr hot hpin e0 bd r hsp
  have up := fun b o e => (e0.bs b o e).1
  have KX : K.In s.heap := e0.mod.kin.keeps up
  refine codeAny_call_function hr.depth (KX _ _ lk) rfl S.co S.gen rfl (PySem.W.codeRec_of KX hcd) (bd _ _ _ _ (wpAny_newFunctionEnv_cells S.kind ?_ ?_))
  · rintro ⟨n, v⟩ hy
    exact (S.par n (List.of_mem_zip hy).1).imp id fun q => ⟨q, PySem.W.cellsFrom_some _ _ _ (.inl q)⟩
  · rintro env rfl s1 x
    refine ⟨(e0.mod.nolimit.keeps up).keeps x.toInCall.keep, codeAny_func ?_⟩
    obtain ⟨t, ht, hq⟩ := hb A outer s H vs Q E p hot (hr.deeper _) hsp
    have I := inv_startH (CX := CX) (E := E) S hpin e0 (len _ _ _ _ _ hsp) r x
    refine wpAny_mono (ht.run [] s1 (L2.start N vs) H _ I hq) (fun fl s' hs => ?_) fun _ _ hs => hs
    have out : ∀ {σ' : L2.St} {H' : Hp} {v : V} {u : Value}, Inv (cxH CX P w K mg base N qual scope f cdv A outer s H E p) [] σ' H' s' → RelV v u → Q v H' → CE outer P w H s Q u s' :=
      fun J rv q => ⟨_, _, J.os, J.bare, J.base, J.hok, rv, q⟩
    match fl, hs with
    | .ret u, ⟨v, σ', H', J, rv, q⟩ => exact out J rv q
    | .next, ⟨σ', H', J, q⟩ => exact out (v := V.non) (u := Value.none) J rfl q
    | .brk, ⟨_, _, _, q⟩ => exact q.elim
    | .cont, ⟨_, _, _, q⟩ => exact q.elim
section
variable {X : Cx} {CX : CXT} {k : Nat} {f C : Addr} {fd : FuncData} {ps : List Str} {sp : Addr × Obj → Sp} {E : L2.St → XK} {x : Str} {q pos : Pos} {e : Expr} {es : List Expr} {t : TA}
/-- such a def called, p the object of the exception that is handled -/
theorem pe_callZ {p : Addr × Obj} (F : FnZ X.prog X.w X.K X.mg X.base CX k f fd ps sp) (hr : RoomH k X.A) (hot : Hot1 X.A p) (hp : p ∈ X.pn) (hg : Gl X x) (hm : X.mg x = some (.ref f)) (hk : PySem.W.keepIn X.K (.ref f) = true) (hb : Binds X.K fd ps []) (hx : ∀ σ, PassesAt CX X σ (E σ))
    (ha : PA X (e :: es) t) (hdb : (x == ("__debug__" : Str)) = false := by decide) (he : starEach (e :: es) X.env = (false, eval e
        X.env) :: starEach es X.env := by rfl) (hpl : (backTo pos (starEach es X.env)).any (·.1) = false := by rfl) :
    PE X (.Call (.Name x q) (e :: es) [] pos) (tCallS (sp p) E t) := by
  constructor
  intro pins s σ H Q I h
  refine wpAny_Call_Name_kw
      (ld_glob I hg hm ?_ hdb)
  refine PySem.W.callWith_K (h₀ := X.base) I.ok.mod.kin hk (thn (ha.run pos pins s σ H _ I h) ?_) he hpl
  rintro us s1 ⟨vs, H1, I1, r, hq⟩
  refine ⟨I1.kIn, ?_⟩
  have hl : us.length = ps.length := by rw [← r.length]; exact F.len _ _ _ _ _ hq
  have b := hb s1 us I1.kIn (by rw [List.append_nil]; exact hl)
  rw [List.append_nil] at b
  obtain ⟨z1, z2, z3, z4, z5⟩ := I1.pin p (List.mem_append_left _ hp)
  refine wpAny_call (codeAny_mono (F.run X.A X.stack s1 H1 ⟨us, []⟩ us vs Q (E σ) p hr hot ⟨z1, z2, fun hm => (List.mem_cons.mp (I1.stkSub p.1 hm)).elim z3 z4, z5⟩ I1.env0 b r hq) fun r s' hc => ?_)
  match r, hc with
  | .error e, hc => exact hx σ pins H1 s1 e s' I1 hc
  | .ok (.ret u), hc => exact I1.after hc
  | .ok .next, hc => exact hc.elim
  | .ok .brk, hc => exact hc.elim
  | .ok .cont, hc => exact hc.elim
end
/-- isinstance(e, c), e the exception that is handled -/
theorem call_isH {X : Cx} {D : Addr} {p : Addr × Obj} (C : ExcC X.K D) (hp : p ∈ X.pn) (hz : Zc (.ref D) none p.2) (hf : ∃ vs, p.2.data = .fields vs) : CallR X (.builtin "isinstance") (rIsE X.K D p.1) := by
  rintro pins s σ H xs us Q I r ⟨c, cv, b, rfl, hcv, e, hq⟩
  obtain ⟨a, oc, od, oda, osl⟩ := p
  obtain ⟨h1, h2⟩ := hz
  obtain ⟨vs, hv⟩ := hf
  dsimp only at h1 h2 hv
  subst h1 h2 hv
  cases r with
  | cons rx rr =>
    cases rr with
    | cons rt rr =>
      cases rr
      cases rx
      cases hcv _ rt
      have J : PySem.W.InstAt s.heap a ⟨.ref D, none, .fields vs, osl⟩ D none := ⟨(I.pin _ (List.mem_append_left _ hp)).1, rfl, rfl, trivial⟩
      exact PySem.W.kia_one (PySem.W.handS_kitx_exc C.hg C.hk C.hs C.hd C.ha C.hn C.ht C.hm) I.kIn J e (fun z => nomatch z) fun tk => ⟨.bl b, H, I.kept (t' := tk) fun _ _ z => z, rfl, hq⟩
end WoK
/-! WoH -/
namespace Wo
open PySem PySem.Spec PyProof.Rows L2 WoR
section
variable {P : Program} {w : World} {K : PySem.W.Frag}
    {mg : Str → Option Value} {base : Heap}
abbrev stR0 (a b : Addr) (n : Nat) : L2.St := [some (.ref a), some (.ref b), some (.int (n : Int)), none, none, none, none]
theorem r1 {a b : Addr} {ns : List Nat} {H : Hp} {rest : TS} {D : Ends} (fa : At H a (tn ns)) (h : rest D (stR0 a b ns.length) H) :
    tSeq (tAsg (tCB (Evl.rLenS K) (tCons (tVar 0) tNil)) (gName 2)) rest D [some (.ref a), some (.ref b), none, none, none, none, none] H := by
  refine pl_seq ⟨.ref a, rfl, a, _, rfl, .inr (tl_of fa), ?_⟩
  rw [tn_len]
  exact h
theorem r2 {a b CO CU : Addr} {ns ms : List Nat} {H : Hp} {rest : TS} {D : Ends} (fa : Fz H a (tn ns)) (on : Ord ns) (om : Ord ms) (el : ns.length = ms.length) (eb : At H b (tn ms))
    (k : ∀ o l H', Same H H' → Rt H' a b o l ns ms → rest D (stR a b o l ns.length) H') :
    tSeq (tAsg (tTup (tCons (tCall (spOne CO opp) [] E0 (tCons (tVar 0) tNil)) (tCons (tCall (spLed CO CU) [] E0 (tCons (tVar 0) (tCons (tVar 1) tNil))) tNil))) (gTup K 2 (gCons (gName 3) (gCons (gName 4) gNil)))) rest D (stR0 a b ns.length) H := by
  refine pl_seq (pl_asg (pl_tup (pl_cons (pl_call1 rfl (go_one fa.at' on fun o H1 no s1 eo => ?_)))))
  refine pl_cons (pl_call2 rfl rfl (go_led (fa.at'.s s1) (eb.s s1) on om el fun l H2 nl s2 el2 => ?_))
  refine pl_nil ⟨by show 2 ≤ sizeLine; decide, fun u nu => ⟨u, _, rfl, tl_of (.of upd_same), rfl, _, _, rfl, _, _, rfl, rfl, ?_⟩⟩
  have sn := same_new (o := .tup [V.ref o, V.ref l]) nu
  exact k o l _ ((s1.trans s2).trans sn) ⟨((fa.s s1).s s2).s sn, ((fa.at'.s s1).s s2).s sn, ((eb.s s1).s s2).s sn, (eo.s s2).s sn, el2.s sn, on, om, el⟩
def spRight : Sp := fun vs H Q _ => ∃ a b ns ms, vs = [.ref a, .ref b] ∧ Fz H a (tn ns) ∧ At H b (tn ms) ∧ Ord ns ∧ Ord ms ∧ ns.length = ms.length ∧ ∀ H', Same H H' → Q (.bl true) H'
theorem ok_right {f CO CU CM : Addr} {fd : FuncData} (F : Fun K "_law_right" "_law_right" sRight f fd) (T : Bi mg) (D : Defs P w K mg base CO CU CM) : FnOk P w K mg base CX0 8 f fd ["_law_one_here", "_law_other"] spRight := by
  refine F.ok scRight (fun vs H Q E h => ?_) (fun cdv A outer s H vs Q E hr h => ?_)
  · obtain ⟨a, b, ns, ms, rfl, _⟩ := h
    rfl
  · obtain ⟨a, b, ns, ms, rfl, fa, eb, on, om, el, q⟩ := h
    obtain ⟨fO, fdO, gO, kO, bO, GO⟩ := D.op
    obtain ⟨fA, fdA, gA, kA, bA, GA⟩ := D.about
    obtain ⟨fV, fdV, gV, kV, bV, GV⟩ := D.over
    obtain ⟨fL, fdL, gL, kL, bL, GL⟩ := D.led
    obtain ⟨fP, fdP, gP, kP, bP, GP⟩ := D.plain
    obtain ⟨fZ, fdZ, gZ, kZ, bZ, GZ⟩ := D.last
    have hr6 := hr.mono (show 6 ≤ 7 by decide)
    have hr4 := hr.mono (show 4 ≤ 7 by decide)
    refine ⟨_, pss_cons (ps_set (i := 2) scRight.nd rfl (.inl rfl) (pe_callB call_len_seq (by rfl) T.len PySem.boot_len (pa_cons (pv 0) pa_nil)))
      (pss_cons (ps_asg (pe_tup (pa_cons (pe_call GO hr6 (by rfl) gO kO bO .nil passN (pa_cons (pv 0) pa_nil)) (pa_cons (pe_call GL hr (by rfl) gL kL bL .nil passN (pa_cons (pv 0) (pa_cons (pv 1) pa_nil))) pa_nil)))
        (pg_tup (n := 2) rfl (pgs_cons (pg_name (i := 3) scRight.nd rfl (.inr rfl)) (pgs_cons (pg_name (i := 4) scRight.nd rfl (.inl rfl)) pgs_nil))))
      (pss_cons (ps_if (pt_cmpR (op_neD hr.units) (pe_lc (own := [("_law_thing", 5)]) (g := gName 5) (tt := tYes) rfl scRight.nd (pi_range1 rfl T.range (pa_cons (pv 2) pa_nil)) (blkOk_by (N := ["_law_one_here", "_law_other", "_law_many_here", "_law_back", "_law_both", "_law_thing", "_law_place"]) (sc := defScope sRight) (by decide +kernel)) (fun _ _ _ _ _ => pg_name (i := 5) scRight.nd rfl (Or.inl rfl)) (fun _ _ _ _ _ => pts_nil)
            (fun _ _ _ _ _ => pe_ix (r := rIxT K) ix_tup (pv 0) (pe_ix (r := rIxT K) ix_tup (pv 3) (pv 5) (fun _ _ => rfl)) (fun _ _ => rfl))) (pe_listRg rfl (by rfl) T.list (prg_1 (by rfl) T.range (pv 2))) (nomark _)) (pss_one (ps_ret pe_bl)) pss_nil)
      (pss_cons (ps_if (pt_cmpR (op_neD hr.units) (pe_lc (own := [("_law_thing", 5)]) (g := gName 5) (tt := tYes) rfl scRight.nd (pi_range1 rfl T.range (pa_cons (pv 2) pa_nil)) (blkOk_by (N := ["_law_one_here", "_law_other", "_law_many_here", "_law_back", "_law_both", "_law_thing", "_law_place"]) (sc := defScope sRight) (by decide +kernel)) (fun _ _ _ _ _ => pg_name (i := 5) scRight.nd rfl (Or.inl rfl)) (fun _ _ _ _ _ => pts_nil)
            (fun _ _ _ _ _ => show PE _ _ (tIndF K (tVar 0) (tCons (tVar 5) tNil)) from pe_indF (pv 0) (pa_cons (pv 5) pa_nil))) (pe_callTy call_list_of (by rfl) T.list (by decide +kernel) (pa_cons (pv 3) pa_nil)) (nomark _)) (pss_one (ps_ret pe_bl)) pss_nil)
      (pss_cons (ps_if (pt_cmpR (op_neD hr.units) (pv 4) (pe_tupleOf (by rfl) T.tuple (pe_lc (own := [("_law_place", 6)]) (g := gName 6) (tt := tYes) rfl scRight.nd (pi_range1 rfl T.range (pa_cons (pv 2) pa_nil)) (blkOk_by (N := ["_law_one_here", "_law_other", "_law_many_here", "_law_back", "_law_both", "_law_thing", "_law_place"]) (sc := defScope sRight) (by decide +kernel)) (fun _ _ _ _ _ => pg_name (i := 6) scRight.nd rfl (Or.inl rfl)) (fun _ _ _ _ _ => pts_nil)
            (fun _ _ _ _ _ => pe_ix (r := rIxT K) ix_tup (pv 0) (pe_ix (r := rIxT K) ix_tup (pv 1) (pv 6) (fun _ _ => rfl)) (fun _ _ => rfl)))) (nomark _)) (pss_one (ps_ret pe_bl)) pss_nil)
      (pss_cons (ps_if (PW.pt (pw_or (pt_cmpR (op_neD hr.units) (pe_call GL hr (by rfl) gL kL bL .nil passN (pa_cons (pv 0) (pa_cons (pv 3) pa_nil))) (pe_call GP hr4 (by rfl) gP kP bP .nil passN (pa_cons (pv 2) pa_nil)) (nomark _))
          (pw_or1 (pt_cmpR (op_neD hr.units) (pe_call GL hr (by rfl) gL kL bL .nil passN (pa_cons (pv 3) (pa_cons (pv 0) pa_nil))) (pe_call GP hr4 (by rfl) gP kP bP .nil passN (pa_cons (pv 2) pa_nil)) (nomark _))))) (pss_one (ps_ret pe_bl)) pss_nil)
      (pss_cons (ps_if (PW.pt (pw_or (pt_cmpR (op_neD hr.units) (pe_call GO hr6 (by rfl) gO kO bO .nil passN (pa_cons (pv 4) pa_nil)) (pe_call GL hr (by rfl) gL kL bL .nil passN (pa_cons (pe_call GO hr6 (by rfl) gO kO bO .nil passN (pa_cons (pv 1) pa_nil)) (pa_cons (pv 3) pa_nil))) (nomark _))
          (pw_or1 (pt_cmpR (op_neD hr.units) (pe_call GO hr6 (by rfl) gO kO bO .nil passN (pa_cons (pv 3) pa_nil)) (pv 0) (nomark _))))) (pss_one (ps_ret pe_bl)) pss_nil)
      (pss_cons (ps_if (pt_cmpR (op_neD hr.units) (pe_call GA hr6 (by rfl) gA kA bA .nil passN (pa_cons (pv 0) pa_nil)) (pe_call GL hr (by rfl) gL kL bL .nil passN (pa_cons (pv 0) (pa_cons (pe_call GZ hr4 (by rfl) gZ kZ bZ .nil passN (pa_cons (pv 2) pa_nil)) pa_nil))) (nomark _)) (pss_one (ps_ret pe_bl)) pss_nil)
      (pss_one (ps_ret (pe_cmpR (op_eqD hr.units) (pe_call GV hr6 (by rfl) gV kV bV .nil passN (pa_cons (pv 0) pa_nil)) (pe_call GL hr (by rfl) gL kL bL .nil passN (pa_cons (pe_call GZ hr4 (by rfl) gZ kZ bZ .nil passN (pa_cons (pv 2) pa_nil)) (pa_cons (pv 0) pa_nil))) (nomark _))))))))))), ?_⟩
    refine r1 fa.at' ?_
    refine r2 fa on om el eb fun o l H3 s3 R => ?_
    refine r3 R fun H4 s4 => ?_
    refine r4 (R.same s4) fun H5 s5 => ?_
    refine r5 ((R.same s4).same s5) fun H6 s6 => ?_
    refine r6 (((R.same s4).same s5).same s6) fun H7 s7 => ?_
    refine r7 ((((R.same s4).same s5).same s6).same s7) fun H8 s8 => ?_
    refine r8 (((((R.same s4).same s5).same s6).same s7).same s8) fun H9 s9 => ?_
    refine r9 ((((((R.same s4).same s5).same s6).same s7).same s8).same s9) fun H10 s10 => ?_
    exact q H10 (((((((s3.trans s4).trans s5).trans s6).trans s7).trans s8).trans s9).trans s10)
end
end Wo
/-! WoI -/
namespace Wo
open PySem PySem.Spec PyProof.Rows L2 WoR WoK
/-- of xs those that bs marks -/
def sel (xs : List Str) (bs : List Bool) : List Str := ((xs.zip bs).filter (·.2)).map (·.1)
theorem sel_take {xs : List Str} {bs : List Bool} {i : Nat} {x : Str} {b : Bool} (hx : xs[i]? = some x) (hb : bs[i]? = some b) : sel (xs.take (i + 1)) (bs.take (i + 1)) = if b = true then sel (xs.take i) (bs.take i) ++ [x] else sel (xs.take i) (bs.take i) := by
  obtain ⟨h1, e1⟩ := List.getElem?_eq_some_iff.mp hx
  obtain ⟨h2, e2⟩ := List.getElem?_eq_some_iff.mp hb
  unfold sel
  rw [List.take_add_one, List.take_add_one, hx, hb, Option.toList, Option.toList, List.zip_append (by rw [List.length_take, List.length_take]; omega), List.filter_append, List.map_append]
  cases b with
  | true => rfl
  | false => exact List.append_nil _
section
variable {P : Program} {w : World} {K : PySem.W.Frag}
    {mg : Str → Option Value} {base : Heap}
theorem lc_Z {H : Hp} {a b : Addr} {xs : List Str} {bs : List Bool} {e : V} {Q : VK} (ha : SqL K H a (xs.map V.str)) (hb : SqL K H b (bs.map V.bl)) (hl : xs.length = bs.length) (hz : xs.length ≤ 1000)
    (k : ∀ D H', H D = none → Same H H' → H' D = some (.lst ((sel xs bs).map V.str)) → Q (.ref D) H') :
    tLc (iZipE K (tCons (tVar 2) (tCons (tVar 1) tNil))) (gTup K 2 (gCons (gName 3) (gCons (gName 4) gNil))) (tB (tVar 4)) (tVar 3) [3, 4] [some e, some (.ref b), some (.ref a), none, none] H Q := by
  refine ⟨.ref a, rfl, .ref b, rfl, a, b, _, _, rfl, ha, hb, fun D hD => ?_⟩
  refine ⟨fun i m H' => m = xs.length - i ∧ i ≤ xs.length ∧ Same H H' ∧ H' D = some (.lst ((sel (xs.take i) (bs.take i)).map V.str)), ⟨xs.length, rfl, Nat.zero_le _, same_new hD, upd_same⟩, ?_⟩
  rintro i m H' ⟨rfl, hi, s1, eD⟩
  have ha' := Evl.ex_l (fun a o e => s1 a o e) ha
  have hb' := Evl.ex_l (fun a o e => s1 a o e) hb
  by_cases hlt : i < xs.length
  · have hx : (xs.map V.str)[i]? = some (.str xs[i]) := by rw [List.getElem?_map, List.getElem?_eq_getElem hlt]; rfl
    have hlb : i < bs.length := by omega
    have hy : (bs.map V.bl)[i]? = some (.bl bs[i]) := by rw [List.getElem?_map, List.getElem?_eq_getElem hlb]; rfl
    refine .inr ⟨⟨_, _, _, _, ha', hb', hx, hy⟩, fun H4 => Same H H4 ∧ H4 D = some (.lst ((sel (xs.take (i + 1)) (bs.take (i + 1))).map V.str)), fun H4 z => ⟨xs.length - (i + 1), by omega, rfl, hlt, z.1, z.2⟩, ?_⟩
    rintro v H2 ⟨T, x, y, rfl, nT, rfl, ex, ey⟩
    have ex := (ex _ ha').symm.trans hx
    have ey := (ey _ hb').symm.trans hy
    cases ex
    cases ey
    have nTD : D ≠ T := ne_of_none eD nT
    have eD2 : (upd H' T (.tup [V.str xs[i], V.bl bs[i]])) D = some (.lst ((sel (xs.take i) (bs.take i)).map V.str)) := by
      rw [upd_ne nTD]
      exact eD
    have s2 := s1.trans (same_new (o := .tup [V.str xs[i], V.bl bs[i]]) nT)
    have st := sel_take (List.getElem?_eq_getElem hlt) (List.getElem?_eq_getElem hlb)
    refine ⟨T, _, rfl, tl_of (.of upd_same), rfl, _, _, rfl, _, _, rfl, rfl, rfl, _, rfl, bs[i], rfl, ?_⟩
    cases hbi : bs[i] with
    | false =>
      rw [hbi] at st s2 eD2
      rw [st]
      exact ⟨s2, eD2⟩
    | true =>
      rw [hbi] at st s2 eD2
      refine ⟨_, rfl, _, eD2, ?_, same_mut s2 hD, ?_⟩
      · have h1 : (sel (xs.take i) (bs.take i)).length ≤ 1000 := by
          unfold sel
          rw [List.length_map]
          refine Nat.le_trans (List.length_filter_le _ _) ?_
          rw [List.length_zip, List.length_take, List.length_take]
          omega
        rw [List.length_map,
            sizeLine_eq]
        omega
      · rw [upd_same, st]
        show some (HO.lst _) = some (HO.lst _)
        rw [if_pos rfl, List.map_append]
        rfl
  · refine .inl ⟨⟨_, ha', by rw [List.length_map]; omega⟩, ?_⟩
    have e : i = xs.length := by omega
    subst e
    rw [List.take_length, List.take_of_length_le (by omega)] at eD
    exact k D H' hD s1 eD
def names10 : List Str := ["InvalidOrder", "InvalidMany", "InvalidExchange", "InvalidRow", "InvalidPairs", "InvalidCode", "InvalidNumber", "InvalidRings", "Unlike", "TooMany"]
def labels10 : List Str := ["order", "many", "exchange", "row", "pairs", "code", "number", "rings", "unlike", "toomany"]
/-- what isinstance says of the class D and the class that is called x -/
def IsIt (K : PySem.W.Frag) (mg : Str → Option Value) (D : Addr) (x : Str) (b : Bool) : Prop := ∃ c, mg x = some (.ref c) ∧ PySem.W.kitOne K (.ref D) (.ref c) = some b
structure Bits (K : PySem.W.Frag) (mg : Str → Option Value) (D : Addr) (b0 b1 b2 b3 b4 b5 b6 b7 b8 b9 : Bool) : Prop where
  h0 : IsIt K mg D "InvalidOrder" b0
  h1 : IsIt K mg D "InvalidMany" b1
  h2 : IsIt K mg D "InvalidExchange" b2
  h3 : IsIt K mg D "InvalidRow" b3
  h4 : IsIt K mg D "InvalidPairs" b4
  h5 : IsIt K mg D "InvalidCode" b5
  h6 : IsIt K mg D "InvalidNumber" b6
  h7 : IsIt K mg D "InvalidRings" b7
  h8 : IsIt K mg D "Unlike" b8
  h9 : IsIt K mg D "TooMany" b9
abbrev sName : Stmt := topS 36
theorem scName : FnScope ["_law_e", "_law_some", "_law_labels", "_law_label", "_law_good"] ["_law_e"] (defScope sName) := ⟨rfl, rfl, rfl, by decide +kernel, rfl, by decide +kernel, by decide +kernel⟩
/-- the law's word for the error that is handled -/
def NameIs (K : PySem.W.Frag) (mg : Str → Option Value) (D : Addr) (lab : Str) : Prop := ExcC K D ∧ ∃ b0 b1 b2 b3 b4 b5 b6 b7 b8 b9, Bits K mg D b0 b1 b2 b3 b4 b5 b6 b7 b8 b9 ∧ Txt.join " " (sel labels10 [b0, b1, b2, b3, b4, b5, b6, b7, b8, b9]) = lab
def spName (K : PySem.W.Frag) (mg : Str → Option Value) : Addr × Obj → Sp := fun p vs H Q _ => vs = [.ref p.1] ∧ ∃ D lab, Zc (.ref D) none p.2 ∧ (∃ us, p.2.data = .fields us) ∧ NameIs K mg D lab ∧ ∀ H', Same H H' → Q (.str lab) H'
theorem sel_small (bs : List Bool) : ((sel labels10 bs).map (·.length)).sum + (sel labels10 bs).length * (" " : Str).length ≤ 16777216 := by
  have key : ∀ l : List (Str × Bool), (∀ p ∈ l, p.1.length ≤ 100) → ((((l.filter (·.2)).map (·.1)).map (·.length)).sum + ((l.filter (·.2)).map (·.1)).length * (" " : Str).length ≤ l.length * 200) := by
    intro l h
    induction l with
    | nil => simp
    | cons p l ih =>
      have h1 := h p List.mem_cons_self
      have ih := ih fun q hq => h q (List.mem_cons_of_mem _ hq)
      have e1 : (" " : Str).length = 1 := rfl
      rw [e1] at ih ⊢
      cases hp : p.2 with
      | false =>
        rw [List.filter_cons_of_neg (p := fun x : Str × Bool => x.2) (by rw [hp]; exact Bool.false_ne_true)]
        rw [List.length_cons]
        omega
      | true =>
        rw [List.filter_cons_of_pos (p := fun x : Str × Bool => x.2) hp, List.map_cons, List.map_cons, List.sum_cons, List.length_cons, List.length_cons]
        omega
  have hl : ∀ p ∈ labels10.zip bs, p.1.length ≤ 100 := by
    intro p hp
    have h2 : p.1 ∈ labels10 := (List.of_mem_zip (show (p.1, p.2) ∈ labels10.zip bs from hp)).1
    revert h2
    generalize p.1 = q
    intro h2
    have : ∀ q ∈ labels10, q.length ≤ 100 := by decide +kernel
    exact this q h2
  have := key _ hl
  have h3 : (labels10.zip bs).length ≤ 10 := by
    rw [List.length_zip]
    exact Nat.min_le_left _ _
  unfold sel
  omega
end
end Wo
/-! WoJ -/
namespace Wo
open PySem PySem.Spec PyProof.Rows L2 WoR WoK
section
variable {P : Program} {w : World} {K : PySem.W.Frag}
    {mg : Str → Option Value} {base : Heap}
theorem pl_nx {Z : L2.St → Hp → Prop} {r : VK} {b c : L2.St → Hp → Prop} {σ : L2.St} {H : Hp} (h : Z σ H) : (Ends.nx { nx := Z, rt := r, bk := b, ct := c }) σ H := h
theorem pl_is {c D a : Addr} {b : Bool} {σ : L2.St} {H : Hp} {Q : VK} (h : σ[0]? = some (some (.ref a))) (hk : PySem.W.kitOne K (.ref D) (.ref c) = some b) (k : Q (.bl b) H) : tCB (rIsE K D a) (tCons (tVar 0) (tCons (tC (.ref c)) tNil)) σ H Q :=
  ⟨_, h, .ref c, .ref c, b, rfl, fun u r => r, hk, k⟩
theorem pl_is3 {c0 c1 c2 D a : Addr} {b0 b1 b2 : Bool} {σ : L2.St} {H : Hp} {Q : VK} (h : σ[0]? = some (some (.ref a))) (k0 : PySem.W.kitOne K (.ref D) (.ref c0) = some b0) (k1 : PySem.W.kitOne K (.ref D) (.ref c1) = some b1) (k2 : PySem.W.kitOne K (.ref D) (.ref c2) = some b2)
    (k : ∀ p, H p = none → Q (.ref p) (upd H p (.lst [.bl b0, .bl b1, .bl b2]))) :
    tLst (tCons (tCB (rIsE K D a) (tCons (tVar 0) (tCons (tC (.ref c0)) tNil))) (tCons (tCB (rIsE K D a) (tCons (tVar 0) (tCons (tC (.ref c1)) tNil))) (tCons (tCB (rIsE K D a) (tCons (tVar 0) (tCons (tC (.ref c2)) tNil))) tNil))) σ H Q :=
  pl_lst (pl_cons (pl_is h k0 (pl_cons (pl_is h k1 (pl_cons (pl_is h k2 (pl_nil ⟨by show 3 ≤ sizeLine; decide, k⟩)))))))
theorem pl_is1 {c0 D a : Addr} {b0 : Bool} {σ : L2.St} {H : Hp} {Q : VK} (h : σ[0]? = some (some (.ref a))) (k0 : PySem.W.kitOne K (.ref D) (.ref c0) = some b0)
    (k : ∀ p, H p = none → Q (.ref p) (upd H p (.lst [.bl b0]))) : tLst (tCons (tCB (rIsE K D a) (tCons (tVar 0) (tCons (tC (.ref c0)) tNil))) tNil) σ H Q :=
  pl_lst (pl_cons (pl_is h k0 (pl_nil ⟨by show 1 ≤ sizeLine; decide, k⟩)))
theorem ok_name {f : Addr} {fd : FuncData} (F : Fun K "_law_name" "_law_name" sName f fd) (T : Bi mg) : FnZ P w K mg base CX0 1 f fd ["_law_e"] (spName K mg) := by
  obtain ⟨oc, od, kV, doc, pm, an, cdv,
      ct, osl, rfl, lk, hcd⟩ := F.ex
  refine fn_ofZ lk hcd scName (fun p vs H Q E h => ?_) fun A outer s H vs Q E p hot hr h => ?_
  · obtain ⟨rfl, _⟩ := h
    rfl
  · obtain ⟨rfl, D, lab, hz, hf, ⟨C, b0, b1, b2, b3, b4, b5, b6, b7, b8, b9, B, hlab⟩, q⟩ := h
    obtain ⟨c0, g0, k0⟩ := B.h0
    obtain ⟨c1, g1, k1⟩ := B.h1
    obtain ⟨c2, g2, k2⟩ := B.h2
    obtain ⟨c3, g3, k3⟩ := B.h3
    obtain ⟨c4, g4, k4⟩ := B.h4
    obtain ⟨c5, g5, k5⟩ := B.h5
    obtain ⟨c6, g6, k6⟩ := B.h6
    obtain ⟨c7, g7, k7⟩ := B.h7
    obtain ⟨c8, g8, k8⟩ := B.h8
    obtain ⟨c9, g9, k9⟩ := B.h9
    have hc : L2H.HotC (L2H.cxH CX0 P w K mg base ["_law_e", "_law_some", "_law_labels", "_law_label", "_law_good"] "_law_name" (defScope sName) f cdv A outer s H E p) := ⟨p, hot, List.mem_singleton_self p⟩
    have hm : p ∈ (L2H.cxH CX0 P w K mg base ["_law_e", "_law_some", "_law_labels", "_law_label", "_law_good"] "_law_name" (defScope sName) f cdv A outer s H E p).pn := List.mem_singleton_self p
    refine ⟨_, pss_cons (ps_set (i := 1) scName.nd rfl (.inl rfl) (pe_lst (pa_cons (pe_callB (call_isH C hm hz hf) (by rfl) T.isinstance (by decide +kernel) (pa_cons (pv 0) (pa_cons (pe_glob (v := .ref c0) (by rfl) g0 rfl) pa_nil)))
        (pa_cons (pe_callB (call_isH C hm hz hf) (by rfl) T.isinstance (by decide +kernel) (pa_cons (pv 0) (pa_cons (pe_glob (v := .ref c1) (by rfl) g1 rfl) pa_nil)))
        (pa_cons (pe_callB (call_isH C hm hz hf) (by rfl) T.isinstance (by decide +kernel) (pa_cons (pv 0) (pa_cons (pe_glob (v := .ref c2) (by rfl) g2 rfl) pa_nil))) pa_nil)))))
      (pss_cons (ps_set (i := 1) scName.nd rfl (.inl rfl) (pe_op op_catS (pv 1) (pe_lst (pa_cons (pe_callB (call_isH C hm hz hf) (by rfl) T.isinstance (by decide +kernel) (pa_cons (pv 0) (pa_cons (pe_glob (v := .ref c3) (by rfl) g3 rfl) pa_nil)))
        (pa_cons (pe_callB (call_isH C hm hz hf) (by rfl) T.isinstance (by decide +kernel) (pa_cons (pv 0) (pa_cons (pe_glob (v := .ref c4) (by rfl) g4 rfl) pa_nil)))
        (pa_cons (pe_callB (call_isH C hm hz hf) (by rfl) T.isinstance (by decide +kernel) (pa_cons (pv 0) (pa_cons (pe_glob (v := .ref c5) (by rfl) g5 rfl) pa_nil))) pa_nil))))))
      (pss_cons (ps_set (i := 1) scName.nd rfl (.inl rfl) (pe_op op_catS (pv 1) (pe_lst (pa_cons (pe_callB (call_isH C hm hz hf) (by rfl) T.isinstance (by decide +kernel) (pa_cons (pv 0) (pa_cons (pe_glob (v := .ref c6) (by rfl) g6 rfl) pa_nil)))
        (pa_cons (pe_callB (call_isH C hm hz hf) (by rfl) T.isinstance (by decide +kernel) (pa_cons (pv 0) (pa_cons (pe_glob (v := .ref c7) (by rfl) g7 rfl) pa_nil)))
        (pa_cons (pe_callB (call_isH C hm hz hf) (by rfl) T.isinstance (by decide +kernel) (pa_cons (pv 0) (pa_cons (pe_glob (v := .ref c8) (by rfl) g8 rfl) pa_nil))) pa_nil))))))
      (pss_cons (ps_set (i := 1) scName.nd rfl (.inl rfl) (pe_op op_catS (pv 1) (pe_lst (pa_cons (pe_callB (call_isH C hm hz hf) (by rfl) T.isinstance (by decide +kernel) (pa_cons (pv 0) (pa_cons (pe_glob (v := .ref c9) (by rfl) g9 rfl) pa_nil))) pa_nil))))
      (pss_cons (ps_set (i := 2) scName.nd rfl (.inl rfl) (pe_split pe_str pe_str))
      (pss_one (ps_ret (pe_join pe_str (pe_lcH (own := [("_law_label", 3), ("_law_good", 4)]) (g := gTup K 2 (gCons (gName 3) (gCons (gName 4) gNil))) (tt := tB (tVar 4)) (te := tVar 3) hc scName.nd (pi_zipH (by rfl) T.zip (pa_cons (pv 2) (pa_cons (pv 1) pa_nil)))
        (blkOk_by (N := ["_law_e", "_law_some", "_law_labels", "_law_label", "_law_good"]) (sc := defScope sName) (by decide +kernel))
        (fun _ _ _ _ _ => pg_tupH (hot_blk hc) (pgs_cons (pg_name (i := 3) scName.nd rfl (Or.inl rfl)) (pgs_cons (pg_name (i := 4) scName.nd rfl (Or.inl rfl)) pgs_nil))) (fun _ _ _ _ _ => pts_one (pt_val (pv 4))) (fun _ _ _ _ _ => pv 3))))))))), ?_⟩
    refine pl_seq (pl_asg (pl_is3 rfl k0 k1 k2 fun l1 n1 => pl_name (pl_nx ?_)))
    refine pl_seq (pl_asg (pl_op (pl_var rfl (pl_is3 rfl k3 k4 k5 fun l2 n2 => ⟨l1, l2, _, _, rfl, rfl, ll_of (same_new n2 _ _ upd_same), ll_of upd_same, by show 3 + 3 ≤ 100000; decide, fun l3 n3 => pl_name (pl_nx ?_)⟩))))
    refine pl_seq (pl_asg (pl_op (pl_var rfl (pl_is3 rfl k6 k7 k8 fun l4 n4 => ⟨l3, l4, _, _, rfl, rfl, ll_of (same_new n4 _ _ upd_same), ll_of upd_same, by show 6 + 3 ≤ 100000; decide, fun l5 n5 => pl_name (pl_nx ?_)⟩))))
    refine pl_seq (pl_asg (pl_op (pl_var rfl (pl_is1 rfl k9 fun l6 n6 => ⟨l5, l6, _, _, rfl, rfl, ll_of (same_new n6 _ _ upd_same), ll_of upd_same, by show 9 + 1 ≤ 100000; decide, fun l7 n7 => pl_name (pl_nx ?_)⟩))))
    refine pl_seq (pl_asg ⟨⟨_, rfl⟩, _, _, rfl, rfl, rfl, by show 62 + 2 ≤ sizeLine; rw [sizeLine_eq]; decide, fun l8 n8 => pl_name (pl_nx ?_)⟩)
    refine pl_ret ⟨⟨_, rfl⟩, lc_Z (xs := labels10) (bs := [b0, b1, b2, b3, b4, b5, b6, b7, b8, b9]) ?_ ?_ rfl (by decide) fun D' H' nD sD eD => ⟨_, D', _, rfl, rfl, .inl (ll_of eD), sel_small _, ?_⟩⟩
    · have e : Txt.split "order many exchange row pairs code number rings unlike toomany" " " = labels10 := by decide +kernel
      rw [e]
      exact ll_of upd_same
    · exact ll_of (same_new n8 _ _ upd_same)
    · rw [hlab]
      refine q H' (Same.trans ?_ sD)
      refine Same.trans ?_ (same_new n8)
      refine Same.trans ?_ (same_new n7)
      refine Same.trans ?_ (same_new n6)
      refine Same.trans ?_ (same_new n5)
      refine Same.trans ?_ (same_new n4)
      refine Same.trans ?_ (same_new n3)
      exact Same.trans (same_new n1) (same_new n2)
end
end Wo
/-! WoQ -/
namespace Wo
open PySem PySem.Spec PyProof.Rows L2 WoR WoK
abbrev wordsN : List Str := ["_law_call", "_law_odds", "_law_found", "_law_odd", "_law_e"]
abbrev sWords : Stmt := topS 37
theorem scWords : FnScope wordsN ["_law_call", "_law_odds"] (defScope sWords) := ⟨rfl, rfl, rfl, by decide +kernel, rfl, by decide +kernel, by decide +kernel⟩
/-- a call, by the value it is called with -/
abbrev Cal := V → Hp → VK → XK → Prop
/-- called with any of xs it returns, or raises an error of the class that out tells -/
def CalOk (cal : Cal) (H : Hp) (xs : List V) (out : V → Option Addr) : Prop := ∀ x ∈ xs, ∀ H', Same H H' → ∀ (Q : VK) (E : XK), (out x = none → ∀ v H2, Same H' H2 → Q v H2) → (∀ D, out x = some D → ∀ H2, Same H' H2 → E (.ref D) none H2) → cal x H' Q E
def wlab (out : V → Option Addr) (lab : Addr → Str) (x : V) : Str := match out x with
  | none => "none"
  | some D => lab D
theorem weakE {X : Cx} {e : Expr} {t t' : TE} (h : PE X e t) (w : ∀ σ H Q, t' σ H Q → t σ H Q) : PE X e t' := ⟨fun pins s σ H Q I q => h.run pins s σ H Q I (w _ _ _ q)⟩
def tNm (K : PySem.W.Frag) (mg : Str → Option Value) (a : Addr) (cls : Value) (d : Option Addr) : TE := fun σ H Q => σ[4]? = some (some (.ref a)) ∧ ∃ D lab, cls = .ref D ∧ d = none ∧ NameIs K mg D lab ∧ ∀ H', Same H H' → Q (.str lab) H'
abbrev tsW (K : PySem.W.Frag) (mg : Str → Option Value) : Addr → Value → Option Addr → TS := fun a cls d => tDrop (tBM K "list" rAppend (tVar 2) (tCons (tNm K mg a cls d) tNil))
abbrev tbW (K : PySem.W.Frag) (fc : Addr) (cal : Cal) (W : WX) : TS := tSeq (tDrop (fun σ H Q => σ[0]? = some (some (.ref fc)) ∧ ∃ x, σ[3]? = some (some x) ∧ cal x H Q (WE W σ))) (tDrop (tBM K "list" rAppend (tVar 2) (tCons (tC (.str "none")) tNil)))
section
variable {P : Program} {w : World} {K : PySem.W.Frag}
    {mg : Str → Option Value} {base : Heap}
theorem pl_forL {a : Addr} {xs : List V} {tl : TE} {g : TG} {tb : TS} {D : Ends} {σ : L2.St} {H : Hp} (ht : ∀ R : VK, R (.ref a) H → tl σ H R) (Pv : Nat → L2.St → Hp → Prop) (h0 : Pv 0 σ H) (hl : ∀ i σ H, Pv i σ H → SqL K H a xs)
    (hs : ∀ i x σ H, xs[i]? = some x → Pv i σ H → g x σ H fun σ2 H2 => tb { nx := Pv (i + 1), ct := Pv (i + 1), bk := D.nx, rt := D.rt } σ2 H2) (hd : ∀ σ H, Pv xs.length σ H → D.nx σ H) : tFor (iList K tl) g tb D σ H :=
  ht _ ⟨a, rfl, ⟨xs, hl 0 σ H h0⟩, for_list (D := D) Pv h0 (fun i σ H _ p => hl i σ H p) hs hd⟩
theorem takesNo {X : Cx} : L2N.Takes X (fun _ _ _ _ => False) := fun _ _ ⟨_, _, _, _, _, _, _, _, _, _, _, _, _, _, _, _, z⟩ => z.elim
theorem pe_nm {X : Cx} {a fN : Addr} {fdN : FuncData} {oe : Obj} {cls : Value} {d : Option Addr} {pn : List (Addr × Obj)} {p1 p2 p3 : Pos} (hz : L2N.Zn cls d oe) (hf : ∃ vs, oe.data = .fields vs) (hN4 : X.N[4]? = some ("_law_e" : Str)) (hv : Vis X.env.scope "_law_e") (hr : Room 1 X.A)
    (N : FnZ X.prog X.w X.K X.mg X.base CX0 1 fN fdN ["_law_e"] (spName X.K X.mg)) (hg : Gl X "_law_name") (gN : X.mg "_law_name" = some (.ref fN)) (kN : PySem.W.keepIn X.K (.ref fN) = true) (bN : Binds X.K fdN ["_law_e"] []) :
    PE (X.suite a ((a, oe) :: pn)) (.Call (.Name "_law_name" p1) [.Name "_law_e" p2] [] p3) (tNm X.K X.mg a cls d) := by
  obtain ⟨us, hu⟩ := hf
  refine weakE (pe_callZ (p := (a, oe)) (E := fun _ => E0) N ⟨hr.dp, hr.un⟩ ⟨rfl, us, hu, hz.2.2 us hu⟩ List.mem_cons_self hg gN kN bN (fun _ _ _ _ _ _ _ z => z.elim) (pa_cons (pe_var (X := X.suite a ((a, oe) :: pn)) hN4 hv) pa_nil)) ?_
  rintro σ H Q ⟨h4, D, lab, rfl, rfl, hn, k⟩
  exact ⟨_, h4, rfl, D, lab, hz.zc, ⟨us, hu⟩, hn, k⟩
theorem words_body {cal : Cal} {fc L g COE fN : Addr} {fdN : FuncData} {xs : List V} {out : V → Option Addr} {lab : Addr → Str} {cdv : Value} {A : Around} {outer : List Env} {s : Shared} {H : Hp} {Q : VK} {E : XK}
    (gE : mg "OrderError" = some (.ref COE)) (N : FnZ P w K mg base CX0 1 fN fdN ["_law_e"] (spName K mg)) (gN : mg "_law_name" = some (.ref fN)) (kN : PySem.W.keepIn K (.ref fN) = true) (bN : Binds K fdN ["_law_e"] [])
    (hr : Room 1 (A.deeper (envOfC "_law_words" (defScope sWords) s.heap.objs.size g cdv)))
    (hcal : ∀ (W : WX) (pn : List (Addr × Obj)) (xe : Value → Shared → Prop) (p1 p2 p3 : Pos), L2N.Takes ((cxOf CX0 P w K mg base wordsN "_law_words" (defScope sWords) g cdv A outer s H E).nox.tr pn xe) W →
      PE ((cxOf CX0 P w K mg base wordsN "_law_words" (defScope sWords) g cdv A outer s H E).nox.tr pn xe) (.Call (.Name "_law_call" p1) [.Name "_law_odd" p2] [] p3) (fun σ H Q => σ[0]? = some (some (.ref fc)) ∧ ∃ x, σ[3]? = some (some x) ∧ cal x H Q (WE W σ)))
    (ho : ∀ x ∈ xs, ∀ D, out x = some D → NameIs K mg D (lab D) ∧ PySem.W.exmOne K (.ref D) (.ref COE) = some true) (hL : SqL K H L xs) (hz : xs.length ≤ 1000) (hc : CalOk cal H xs out)
    (k : ∀ p H', H p = none → Same H H' → H' p = some (.lst ((xs.map (wlab out lab)).map V.str)) → Q (.ref p) H') :
    ∃ t, PSs (cxOf CX0 P w K mg base wordsN "_law_words" (defScope sWords) g cdv A outer s H E).nox (defBody sWords) t ∧ t { nx := fun _ H' => Q .non H', rt := Q } (L2.start wordsN [.ref fc, .ref L]) H := by
  refine ⟨_, pss_cons (ps_set (i := 2) scWords.nd rfl (.inl rfl) (pe_lst pa_nil))
    (pss_cons (ps_for PassesOwn.never rfl (pi_list (pv 1)) (pg_name (i := 3) scWords.nd rfl (.inl rfl))
      (pss_one (L2N.ps_try_as (i := 4) (c := .ref COE) (tb := tbW K fc cal) (ts := tsW K mg) (Wout := fun _ _ _ _ => False) rfl rfl scWords.nd rfl rfl ⟨rfl, rfl, .inl gE⟩ takesNo
        (fun W pn xe tk _ => pss_cons (ps_expr (hcal W pn xe _ _ _ tk)) (pss_one (ps_expr (pe_bm PySem.F.plainAttrs_list PySem.F.slot_list_append PySem.F.type_list_append mt_append (pe_var (i := 2) rfl (.inl rfl)) (pa_cons pe_str pa_nil)))))
        (fun a oe cls d pn hz hf => pss_one (ps_expr (pe_bm PySem.F.plainAttrs_list PySem.F.slot_list_append PySem.F.type_list_append mt_append (pe_var (i := 2) rfl (.inl rfl))
          (pa_cons (pe_nm (X := (cxOf CX0 P w K mg base wordsN "_law_words" (defScope sWords) g cdv A outer s H E).nox) hz hf rfl (.inl rfl) hr N rfl gN kN bN) pa_nil)))))))
    (pss_one (ps_ret (pv 2)))), ?_⟩
  refine pl_seq (pl_asg (pl_lst (pl_nil ⟨Nat.zero_le _, fun l nl => pl_name (pl_nx ?_)⟩)))
  have s1 := same_new (o := .lst []) nl
  have small : ∀ i, (((xs.take i).map (wlab out lab)).map V.str).length < sizeLine := fun i => by
    rw [List.length_map, List.length_map, List.length_take, sizeLine_eq]
    omega
  have step : ∀ {i : Nat} {x : V}, xs[i]? = some x → ((xs.take (i + 1)).map (wlab out lab)).map V.str = ((xs.take i).map (wlab out lab)).map V.str ++ [V.str (wlab out lab x)] := fun {i x} hx => by
    rw [List.take_add_one, hx, List.map_append, List.map_append]
    rfl
  refine pl_seq (pl_forL (a := L) (xs := xs) (fun R r => ⟨_, rfl, r⟩) (fun i σ H' => ∃ y3, σ = [some (.ref fc), some (.ref L), some (.ref l), y3, none] ∧ Same H H' ∧ H' l = some (.lst (((xs.take i).map (wlab out lab)).map V.str)))
    ⟨none, rfl, s1, upd_same⟩ (fun i σ H' ⟨_, _, s, _⟩ => Evl.ex_l (fun a o e => s a o e) hL) ?_ ?_)
  · rintro i x σ H' hx ⟨y3, rfl, s2, el⟩
    have hm : x ∈ xs := List.mem_of_getElem? hx
    refine pl_name (pl_seq ⟨rfl, x, rfl, hc x hm H' s2 _ _ (fun e v H2 s3 => ?_) fun D e H2 s3 => ?_⟩)
    · have el2 := s3 _ _ el
      refine ⟨.ref l, rfl, .inl ⟨rfl, _, ll_of el2⟩, l, _, _, rfl, rfl, el2, small i, some x, rfl, same_mut (s2.trans s3) nl, ?_⟩
      rw [upd_same, step hx]
      unfold wlab
      rw [e]
    · obtain ⟨hn, hb⟩ := ho x hm D e
      have el2 := s3 _ _ el
      refine ⟨true, hb, fun _ a na => ?_, fun z => Bool.noConfusion z⟩
      refine ⟨.ref l, rfl, .inl ⟨rfl, _, ll_of el2⟩, rfl, D, lab D, rfl, rfl, hn, fun H3 s4 => ?_⟩
      have el3 := s4 _ _ el2
      refine ⟨l, _, _, rfl, rfl, el3, small i, some x, rfl, same_mut ((s2.trans s3).trans s4) nl, ?_⟩
      rw [upd_same, step hx]
      unfold wlab
      rw [e]
  · rintro σ H' ⟨y3, rfl, s2, el⟩
    rw [List.take_length] at el
    exact ⟨_, rfl, k l H' nl s2 el⟩
end
end Wo
/-! WoS -/
namespace WoK
open PySem PySem.Spec
    PyProof.Rows L2 LamX
/-- a lambda of the parameter a: no other name of its own -/
structure Lam1 (sc scope : Scope) (a : Str) : Prop where
  kind : scope.kind = .function
  co : scope.isCoroutine
      = false
  gen : scope.isGenerator
      = false
  own : ∀ y ∈ scope.names, (y.2 = .local → y.1 = a) ∧ y.2 ≠ .cell
  par : scope.names.lookup a = some .local
  free : ∀ y ∈ scope.names, y.2 = .free → sc.names.lookup y.1
      = some .cell ∨ sc.names.lookup y.1 = some .free
def lam1B (sc scope : Scope) (a : Str) : Bool :=
  decide (scope.kind = .function) && !scope.isCoroutine && !scope.isGenerator && decide (scope.names.lookup a = some .local) && scope.names.all fun y => (!decide (y.2 = .local) || decide (y.1 = a)) && !decide (y.2 = .cell) && (!decide (y.2 = .free) || decide (sc.names.lookup y.1 = some .cell) || decide (sc.names.lookup y.1 = some .free))
theorem lam1_by {sc scope : Scope} {a : Str} (h : lam1B sc scope a = true) : Lam1 sc scope a := by
  unfold lam1B at h
  simp only [Bool.and_eq_true, Bool.or_eq_true, Bool.not_eq_true',
      decide_eq_true_eq, decide_eq_false_iff_not, List.all_eq_true] at h
  obtain ⟨⟨⟨⟨h1, h2⟩, h3⟩, hp⟩, h4⟩ := h
  refine ⟨h1, h2, h3, fun y hy => ⟨fun e => ?_, (h4 y hy).1.2⟩, hp, fun y hy e => ?_⟩
  · exact (h4 y hy).1.1.resolve_left fun z => z e
  · rcases (h4 y hy).2 with (z | z) | z
    · exact absurd e z
    · exact .inl z
    · exact .inr z
theorem Lam1.has {X : Cx} {scope : Scope} {a : Str} (L : Lam1 X.env.scope scope a) (ok : X.Ok) : ∀ y ∈ scope.names, y.2 = .free → ∃ c, X.env.cells.lookup y.1 = some c :=
  fun y hy e => (L.free y hy e).elim (fun k => ok.has _ (.inl k)) fun k => ok.has _ (.inr k)
/-- its body's context -/
abbrev lamC1 (X : Cx) (A : Around) (outer : List Env) (s : Shared) (H : Hp) (E : XK) (scope : Scope) (f c' : Addr) : Cx :=
  { lamCx X A outer s H E scope f c' with xe := fun e s' => wpAny (model X.prog X.w) (A.deeper (lamEnv X scope s.heap.objs.size f c')) (leaving (lamEnv X scope s.heap.objs.size f c') e) (fun _ s'' => L2N.CX X.prog X.w outer H s E e s'') (fun e' s'' => L2N.CX X.prog X.w outer H s E e' s'') s' }
section
variable {X : Cx} {pins : List (Addr × Obj)} {σ
    : L2.St} {H HZ : Hp} {s s1 : Shared}
theorem lam_go {A : Around} {outer : List Env} {E : XK} {scope : Scope} {a : Str} {f c' : Addr} {h₁ : Heap} {tk i : Nat} {v : V} {u : Value} (I : Inv X pins σ H s) (L : Lam1 X.env.scope scope a) (hN : X.N.Nodup) (hi : X.N[i]? = some a) (rv : RelV v u)
    (e0 : Env0 X.prog X.w X.K X.mg X.base A outer s1 HZ) (hd : A.handled = none) (un : Un (frs X.stack) [] H HZ s.heap s1.heap) (hns : h₁.Ns s1.heap.objs.size fun y => [(a, u)].reverse.lookup y) (kp : ∀ b o, s1.heap.get? b = some o → h₁.get? b = some o) :
    Inv (lamC1 X A outer s1 HZ E scope f c') [] (σ.set i (some v)) HZ { s1 with heap := h₁, toks := tk } := by
  have has := L.has I.ok
  have old : ∀ {y c}, (cloFrom X.env.cells scope.names []).lookup y = some c → X.env.cells.lookup y = some c := by
    intro y c e
    rcases cloFrom_mem (PySem.mem_of_lookup e) with z | ⟨h1, h2⟩
    · cases z
    · obtain ⟨c1, q⟩ := has _ h1 rfl
      have q : X.env.cells.lookup y = some c1 := q
      rw [q] at h2
      rw [q]
      exact congrArg some h2.symm
  have found : ∀ {y}, scope.names.lookup y = some .free → ∃ c, (cloFrom X.env.cells scope.names []).lookup y = some c := fun {y} q =>
    mem_lookup (cloFrom_has (cells := X.env.cells) (acc := []) (PySem.mem_of_lookup q))
  have cell : ∀ {c : Addr} {z : Option Value}, H c = none → s.heap.IsCell c z → h₁.IsCell c z := by
    rintro c z n ⟨o, ho, hd⟩
    obtain ⟨sl, q⟩ := un.any
        ho n (by simp)
    exact ⟨_, kp _ _ q, hd⟩
  have none' : ∀ b : Addr, b ∉ ([] : List Addr) := fun b => by simp
  have ok : (lamC1 X A outer s1 HZ E scope f c').Ok := by
    refine ⟨e0.mod, L.kind, rfl, rfl, Nat.le_refl _, fun y z c e1 e2 => I.ok.inj y z c (old e1) (old e2), fun y hy => ?_, fun y c z _ => (by cases (show false = true from z)), fun _ => hd, Around.frames_deeper e0.frames, .inr ⟨rfl, rfl⟩,
      fun b z => absurd z (none' b), e0.bs, e0.bsz, fun b _ _ => none' b, fun b z => absurd z (none' b), e0.funs, e0.frf⟩
    rcases (show scope.names.lookup y = some .cell ∨ scope.names.lookup y = some .free from hy) with q | q
    · exact absurd rfl (L.own _ (PySem.mem_of_lookup q)).2
    · exact found q
  refine ⟨ok, rfl, e0.bare, Un.kept kp, ⟨_, hns, fun j y z e1 e2 e3 => ?_⟩, fun y c e => ?_, e0.hok.fresh (Nat.le_refl _), fun y c e => ?_, fun q hq => absurd (show q ∈ ([] : List (Addr × Obj)) ++ [] from hq) (by simp), e0.hok.kept kp, ?_⟩
  · rcases (show Vis scope y from e3) with k | k | k
    · have ey : y = a := (L.own _ (PySem.mem_of_lookup k)).1 rfl
      subst ey
      have ej : j = i := nodup_ix hN e1 hi
      subst ej
      have hj : j < σ.length := by
        rw [I.len]
        exact (List.getElem?_eq_some_iff.mp hi).1
      rw [List.getElem?_set_self hj] at e2
      cases e2
      exact ⟨u, rv, .inl ⟨k, by simp⟩⟩
    · exact absurd rfl (L.own _
        (PySem.mem_of_lookup k)).2
    · have hji : i ≠ j := by
        intro z
        subst z
        cases hi.symm.trans e1
        rw [L.par] at k
        cases k
      rw [List.getElem?_set_ne hji] at e2
      obtain ⟨m, hn, hl⟩ := I.loc
      obtain ⟨w', r, q⟩ := hl j y z e1 e2 ((L.free _ (PySem.mem_of_lookup k) rfl).elim (fun k => .inr (.inl k)) fun k => .inr (.inr k))
      obtain ⟨c2, h2⟩ := found k
      refine ⟨w', r, .inr ⟨.inr
          k, c2, h2, ?_⟩⟩
      rcases q with ⟨k',
          _⟩ | ⟨_, c3, e', z⟩
      · have k' : X.env.scope.names.lookup
          y = some .local := k'
        rcases L.free _ (PySem.mem_of_lookup k) rfl with k2 | k2 <;> cases k'.symm.trans k2
      · rw [old h2] at e'
        cases e'
        exact cell (I.freeC y _ (old h2)) z
  · obtain ⟨w', z⟩ := I.cell y c (old e)
    exact ⟨w', cell (I.freeC y c (old e)) z⟩
  · obtain ⟨z, o, ho, _⟩ := I.cell y c (old e)
    exact un.free c o ho (I.freeC y c (old e)) (none' c)
  · rw [List.length_set]
    exact I.len
/-- n(m) in a def that got the lambda, Z that def's context, entered at s -/
theorem pe_act1 {CXg : CXT} {Eg : XK} {Ng : List Str} {qg : Str} {sg : Scope} {g f c' : Addr} {cdg pm ctv : Value} {params : Arguments} {body : Expr} {scope : Scope} {k i iz jz : Nat} {a n m : Str} {pn : List (Addr × Obj)} {xe xw : Value → Shared → Prop} {W : WX} {t : XK → TE} {p1 p2 p3 : Pos}
    (I : Inv X pins σ H s) (L : Lam1 X.env.scope scope a) (hNX : X.N.Nodup) (hiX : X.N[i]? = some a) (hf : s.heap.get? f = some (PySem.W.kla_obj "<lambda>" (X.env.qual ++ "<lambda>") params body scope (cloFrom X.env.cells scope.names []) pm c' ctv)) (hfn : H f = none) (hfr : f ∉ frs X.stack)
    (hbind : ∀ u : Value, bindArgs (PySem.W.kla_fn "<lambda>" (X.env.qual ++ "<lambda>") params body scope (cloFrom X.env.cells scope.names []) pm (.ref c') ctv) ⟨[u], []⟩ = pure [(a, u)])
    (tk : L2N.Takes (((cxOf CXg X.prog X.w X.K X.mg X.base Ng qg sg g cdg X.A X.stack s H Eg).wish xw).tr pn xe) W) (hr : Room (k + 1) (X.A.deeper (envOfC qg sg s.heap.objs.size g cdg)))
    (hbody : ∀ (A : Around) (outer : List Env) (s : Shared) (H : Hp) (E : XK), Room k (A.deeper (lamEnv X scope s.heap.objs.size f c')) → PE (lamC1 X A outer s H E scope f c') body (t E))
    (hN : Ng[iz]? = some n) (hv : Vis sg n) (hd : (n == ("__debug__" : Str)) = false) (hcd : (n == ("__classdict__" : Str)) = false) (hN2 : Ng[jz]? = some m) (hv2 : Vis sg m) (hd2 : (m == ("__debug__" : Str)) = false) (hcd2 : (m == ("__classdict__" : Str)) = false) :
    PE (((cxOf CXg X.prog X.w X.K X.mg X.base Ng qg sg g cdg X.A X.stack s H Eg).wish xw).tr pn xe) (.Call (.Name n p1) [.Name m p2] [] p3)
      (fun σZ HZ Q => σZ[iz]? = some (some (.ref f)) ∧ ∃ x, σZ[jz]? = some (some x) ∧ HZ c' = some (CodeO c' (X.env.qual ++ "<lambda>")) ∧ t (WE W σZ) (σ.set i (some x)) HZ Q) := by
  constructor
  rintro pz sZ σZ HZ Q IZ ⟨hs, x, hx, hc, ht⟩
  refine wpAny_Call_Name_kw (thn ((pe_var (pos := p1) (i := iz) hN hv hd hcd).run pz sZ σZ HZ (fun v H1 => v = .ref f ∧ H1 = HZ) IZ ⟨.ref f, hs, rfl, rfl⟩) ?_)
  rintro u sa ⟨v, H1, Ia, r1, rfl, rfl⟩
  obtain rfl : u =
      Value.ref f := r1
  have there : ∀ {s' : Shared}, Inv (((cxOf CXg X.prog X.w X.K X.mg X.base Ng qg sg g cdg X.A X.stack s H Eg).wish xw).tr pn xe) pz σZ H1 s' → s'.heap.get? f = some (PySem.W.kla_obj "<lambda>" (X.env.qual ++ "<lambda>") params body scope (cloFrom X.env.cells scope.names []) pm c' ctv) :=
    fun J => J.base.keep f _ hf hfn hfr (fun z => nomatch (show f ∈ ([] : List Addr) from z))
  refine PySem.W.callWith_F (first := []) ⟨_, _, _, _, there Ia⟩ ?_ (by rfl) (by rfl)
  have pa : PA (((cxOf CXg X.prog X.w X.K X.mg X.base Ng qg sg g cdg X.A X.stack s H Eg).wish xw).tr pn xe) [.Name m p2] (tCons (tVar jz) tNil) := pa_cons (pe_var (pos := p2) (i := jz) hN2 hv2 hd2 hcd2) pa_nil
  refine thn (pa.run p3 pz sa σZ H1 (fun vs H2 => vs = [x] ∧ H2 = H1) Ia ⟨x, hx, rfl, rfl⟩) ?_
  rintro us sb ⟨vs, H2, Ib, rb, rfl, rfl⟩
  obtain ⟨u, rfl, ru⟩ := rb.one
  have ob := there Ib
  refine ⟨⟨_, _, _, _, ob⟩, ?_⟩
  have un : Un (frs X.stack) [] H H2 s.heap sb.heap := Ib.base
  obtain ⟨⟨oc, vs, tt, hoc, hdc, hvc⟩, _, _⟩ := Ib.hok c' _ hc
  have rc : codeAny (model X.prog X.w) (X.A.deeper (envOfC qg sg s.heap.objs.size g cdg)) (.call (.ref f) ⟨[u], []⟩) (CR (L2N.CX X.prog X.w) (envOfC qg sg s.heap.objs.size g cdg :: X.stack) X.prog X.w H2 sb Q (WE W σZ)) sb := by
    refine PySem.W.kla_callFunE hr.depth ob rfl L.co L.gen rfl ⟨c', oc, vs, tt, rfl, hoc, hdc, hvc⟩ ?_
    rw [hbind]
    refine wpAny_pure (wpAny_newFunctionEnv (fun y hy => (L.own y hy).2) (fun y hy => ?_) (fun h₁ hns hsb => ⟨Ib.nolimit.fresh _ hsb, ?_⟩) L.kind)
    · obtain rfl : y = (a, u) := by simpa using hy
      exact L.par
    · show codeAny _ _ (.expr body (lamEnv X scope sb.heap.objs.size f c')) _ _
      have J := lam_go (E := WE W σZ) (f := f) (c' := c') (tk := sb.toks + [(a, u)].length) I L hNX hiX ru Ib.env0 hr.hd un hns fun b o e => hsb.extBut b o (Nat.ne_of_lt (Heap.lt_size e)) (Heap.get?_push_of_some _ e)
      refine PySem.W.kla_codeExpr (wpAny_mono ((hbody _ _ sb H2 (WE W σZ) (hr.deeper _)).run [] _ _ H2 Q J ht) ?_ fun e s' hq => hq)
      rintro v s' ⟨w', H', J', rv, q⟩
      exact ⟨w', H', J'.os, J'.bare,
          J'.base, J'.hok, rv, q⟩
  refine wpAny_call (codeAny_mono
      rc fun r s' hq => ?_)
  match r, hq with
  | .error e, hq => exact L2N.passAt tk σZ pz H2 sb e s' Ib hq
  | .ok (.ret u), hq => exact Ib.after hq
  | .ok .next, hq => exact hq.elim
  | .ok .brk, hq => exact hq.elim
  | .ok .cont, hq => exact hq.elim
end
end WoK
/-! WoT -/
namespace Wo
open PySem PySem.Spec PyProof.Rows L2 WoR WoK LamX
/-- what _law_words leans on -/
structure Wds (K : PySem.W.Frag) (mg : Str → Option Value) (P : Program) (w : World) (base : Heap) (COE g : Addr) (fd : FuncData) : Prop where
  F : Fun K "_law_words" "_law_words" sWords g fd
  gW : mg "_law_words" = some (.ref g)
  bW : Binds K fd ["_law_call", "_law_odds"] []
  gE : mg "OrderError" = some (.ref COE)
  nm : ∃ fN fdN, FnZ P w K mg base CX0 1 fN fdN ["_law_e"] (spName K mg) ∧ mg "_law_name" = some (.ref fN) ∧ PySem.W.keepIn K (.ref fN) = true ∧ Binds K fdN ["_law_e"] []
/-- the classes that are raised, what the law calls them -/
def Known (K : PySem.W.Frag) (mg : Str → Option Value) (COE : Addr) (xs : List V) (out : V → Option Addr) (lab : Addr → Str) : Prop := ∀ x ∈ xs, ∀ D, out x = some D → NameIs K mg D (lab D) ∧ PySem.W.exmOne K (.ref D) (.ref COE) = some true
/-- the answer -/
def Told (H : Hp) (xs : List V) (out : V → Option Addr) (lab : Addr → Str) (Q : VK) : Prop := ∀ p H', H p = none → Same H H' → H' p = some (.lst ((xs.map (wlab out lab)).map V.str)) → Q (.ref p) H'
def tLamW (K : PySem.W.Frag) (mg : Str → Option Value) (COE : Addr) (T : List (Addr × Str)) (q : Str) (i : Nat) (te : TE) (t : XK → TE) : TE := fun σ H Q => Tabs T H ∧ ∀ c' H1, ExtN H H1 → Tabs T H1 → H1 c' = some (CodeO c' q) → te σ H1 fun y H2 => H2 c' = some (CodeO c' q) ∧
  ∃ L xs out lab, y = .ref L ∧ SqL K H2 L xs ∧ xs.length ≤ 1000 ∧ Known K mg COE xs out lab ∧ CalOk (fun x H Q E => H c' = some (CodeO c' q) ∧ t E (σ.set i (some x)) H Q) H2 xs out ∧ Told H2 xs out lab Q
section
variable {X : Cx}
theorem pe_lamW {T : List (Addr × Str)} {COE g c P : Addr} {fd : FuncData} {params : Arguments} {body e2 : Expr} {scope : Scope} {t : XK → TE} {te : TE} {k i : Nat} {a : Str} {p lpos pos : Pos} (B : Wds X.K X.mg X.prog X.w X.base COE g fd) (hgl : Gl X "_law_words")
    (hs : X.stack = X.env :: X.outer) (hfm : X.env.frame = some X.env.locals) (TB : TabB X.base X.mg c P) (hcode : X.env.code = .ref c) (hmT : (P, X.env.qual ++ "<lambda>") ∈ T) (hu : ∀ p ∈ T, p.1 = P → p.2 = X.env.qual ++ "<lambda>") (hr : Room (k + 2) X.A) (hk : 1 ≤ k + 1)
    (L : Lam1 X.env.scope scope a) (hNX : X.N.Nodup) (hiX : X.N[i]? = some a) (hdef : defaultsOf params X.env = ([], []))
    (hbind : ∀ (q : Str) (cl : List (Str × Addr)) (pm cv ctv u : Value), bindArgs (PySem.W.kla_fn "<lambda>" q params body scope cl pm cv ctv) ⟨[u], []⟩ = pure [(a, u)])
    (hbody : ∀ (A : Around) (outer : List Env) (s : Shared) (H : Hp) (E : XK) (f c' : Addr), Room k (A.deeper (lamEnv X scope s.heap.objs.size f c')) → PE (lamC1 X A outer s H E scope f c') body (t E))
    (he : PE X e2 te) (h1 : starEach [.Lambda params body scope lpos, e2] X.env = (false, eval (.Lambda params body scope lpos) X.env) :: starEach [e2] X.env) (h2 : starEach [e2] X.env = (false, eval e2 X.env) :: starEach [] X.env) :
    PE X (.Call (.Name "_law_words" p) [.Lambda params body scope lpos, e2] [] pos) (tLamW X.K X.mg COE T (X.env.qual ++ "<lambda>") i te t) := by
  constructor
  rintro pins s σ H Q I ⟨hT, h⟩
  obtain ⟨fN, fdN, N, gN, kN, bN⟩ := B.nm
  refine wpAny_Call_Name_kw (ld_glob I hgl B.gW ?_ (by decide))
  refine PySem.W.callWith_K (h₀ := X.base) I.ok.mod.kin B.F.kp ?_ h1 (by rw [h2]; rfl)
  rw [h1]
  show wpAny _ _ (spliced ((false, eval (.Lambda params body scope lpos) X.env) :: backTo pos (starEach [e2] X.env))) _ _ s
  refine Calls.spliced_cons (lam_make2 I TB hcode hmT hu hT hdef (L.has I.ok) fun f c' pm ctv H1 s1 I1 eN T1 hf hfn hfr hco => ?_)
  have nL : f ≠ X.env.locals := fun z => hfr (by
    rw [hs]
    exact List.mem_filterMap.mpr ⟨X.env, List.mem_cons_self, by rw [hfm, z]⟩)
  have nF : f ∉ X.fs := fun z => hfr (by
    rw [hs]
    obtain ⟨e, he, q⟩ := List.mem_filterMap.mp z
    exact List.mem_filterMap.mpr ⟨e, List.mem_cons_of_mem _ he, q⟩)
  have I1' : Inv X (pins ++ [(f, PySem.W.kla_obj "<lambda>" (X.env.qual ++ "<lambda>") params body scope (cloFrom X.env.cells scope.names []) pm c' ctv)]) σ H1 s1 := I1.pins_of fun q hq => by
    rcases List.mem_append.mp hq with z | z
    · exact I1.pin q (List.mem_append_right _ z)
    · cases List.mem_singleton.mp z
      exact ⟨hf, hfn, nL, nF, fun v z => nomatch z⟩
  rw [h2]
  refine Calls.spliced_cons (thn (he.run _ s1 σ H1 _ I1' (h c' H1 eN T1 hco)) ?_)
  rintro u s2 ⟨y, H2, I2', ry, hc2, Lo, xs, out, lab, rfl, hL, hz, hK, hC, hQ⟩
  cases ry
  refine Calls.spliced_nil ⟨I2'.kIn, ?_⟩
  obtain ⟨hf2, hfn2, _⟩ := I2'.pin (f, _) (List.mem_append_right _ (List.mem_append_right _ (List.mem_singleton_self _)))
  have I2 := I2'.unpinned
  obtain ⟨oc, od, kV, doc, pm', an, cdv, ct, osl, hfd, lk, hcd⟩ := B.F.ex
  have bW := B.bW
  subst hfd
  have rc : codeAny (model X.prog X.w) X.A (.call (.ref g) ⟨[.ref f, .ref Lo], []⟩) (CR CX0 X.stack X.prog X.w H2 s2 Q E0) s2 := by
    refine run_ofS (N := wordsN) (ps := ["_law_call", "_law_odds"]) (us := [.ref f, .ref Lo]) (vs := [.ref f, .ref Lo]) lk hcd scWords hr I2.env0 (bW s2 [.ref f, .ref Lo] I2.kIn rfl) (.cons rfl (.cons rfl .nil)) rfl fun hr' => ?_
    obtain ⟨t', ht', hq'⟩ := words_body (g := g) (cdv := cdv) (A := X.A) (outer := X.stack) (s := s2) (E := E0) (fc := f) B.gE N gN kN bN (hr'.mono hk)
      (fun W pn xe p1 p2 p3 tk => weakE (pe_act1 (iz := 0) (jz := 3) I2 L hNX hiX hf2 hfn2 hfr (fun u => hbind _ _ _ _ _ u) tk hr' (fun A outer s H E hr2 => hbody A outer s H E f c' hr2) rfl (.inl rfl) (by decide) (by decide) rfl (.inl rfl) (by decide) (by decide)) fun σ H Q z => z) hK hL hz hC hQ
    exact ⟨t', ht'.nox, hq'⟩
  refine wpAny_call (codeAny_mono
      rc fun r s' hq => ?_)
  match r, hq with
  | .error e, hq => exact (show False from hq).elim
  | .ok (.ret u), hq => exact I2.after hq
  | .ok .next, hq => exact hq.elim
  | .ok .brk, hq => exact hq.elim
  | .ok .cont, hq => exact hq.elim
end
end Wo
/-! WoU -/
namespace Wo
open PySem PySem.Spec PyProof.Rows L2 WoR WoK
/-- n(m), n a local name that holds a def, what is raised wished for at the slots -/
theorem pe_callLS {X : Cx} {CX : CXT} {k i j : Nat} {f : Addr} {fd : FuncData} {ps : List Str} {sp : Sp} {E : L2.St → XK} {n m : Str} {p1 p2 p3 : Pos} (F : FnOk X.prog X.w X.K X.mg X.base CX k f fd ps sp) (hr : Room k X.A) (hN : X.N[i]? = some n) (hv : Vis X.env.scope n) (hk : PySem.W.keepIn X.K (.ref f) = true) (hb : Binds X.K fd ps []) (hx : ∀ σ, PassesAt CX X σ (E σ))
    (hN2 : X.N[j]? = some m) (hv2 : Vis X.env.scope m) (hd : (n == ("__debug__" : Str)) = false) (hcd : (n == ("__classdict__" : Str)) = false) (hd2 : (m == ("__debug__" : Str)) = false) (hcd2 : (m == ("__classdict__" : Str)) = false)
    (h1 : starEach [.Name m p2] X.env = (false, eval (.Name m p2) X.env) :: starEach [] X.env) :
    PE X (.Call (.Name n p1) [.Name m p2] [] p3) (fun σ H Q => σ[i]? = some (some (.ref f)) ∧ ∃ x, σ[j]? = some (some x) ∧ sp [x] H Q (E σ)) := by
  constructor
  rintro pins s σ H Q I ⟨hs, x, hx2, hq⟩
  refine wpAny_Call_Name_kw (thn ((pe_var (pos := p1) hN hv hd hcd).run pins s σ H (fun v H1 => v = .ref f ∧ H1 = H) I ⟨.ref f, hs, rfl, rfl⟩) ?_)
  rintro u s1 ⟨v, H1, I1, r1, rfl, rfl⟩
  cases r1
  have pa : PA X [.Name m p2] (tCons (tVar j) tNil) := pa_cons (pe_var (pos := p2) hN2 hv2 hd2 hcd2) pa_nil h1
  refine PySem.W.callWith_K (h₀ := X.base) I.ok.mod.kin hk (thn (pa.run p3 pins s1 σ H1 (fun vs H2 => vs = [x] ∧ H2 = H1) I1 ⟨x, hx2, rfl, rfl⟩) ?_) h1 (by rfl)
  rintro us s2 ⟨vs, H2, I2, r2, rfl, rfl⟩
  exact ⟨I2.kIn, run_fnSD (dvs := []) F hr hb .nil (hx σ) I2 r2 hq⟩
/-- _law_words with a def of the program -/
def spWords (P : Program) (w : World) (K : PySem.W.Frag) (mg : Str → Option Value) (base : Heap) (COE : Addr) (kk : Nat) : Sp := fun vs H Q _ => ∃ fc L, vs = [.ref fc, .ref L] ∧ ∃ (k' : Nat) (fd : FuncData) (pn : Str) (sp : Sp), FnOk P w K mg base (L2N.CX P w) k' fc fd [pn] sp ∧ k' ≤ kk ∧ PySem.W.keepIn K (.ref fc) = true ∧ Binds K fd [pn] [] ∧
  ∃ xs out lab, SqL K H L xs ∧ xs.length ≤ 1000 ∧ Known K mg COE xs out lab ∧ CalOk (fun x H Q E => sp [x] H Q E) H xs out ∧ Told H xs out lab Q
section
variable {P : Program} {w : World} {K : PySem.W.Frag}
    {mg : Str → Option Value} {base : Heap}
theorem ok_words {COE g : Addr} {fd : FuncData} {kk : Nat} (B : Wds K mg P w base COE g fd) (hkk : 1 ≤ kk) : FnOk P w K mg base CX0 (kk + 1) g fd ["_law_call", "_law_odds"] (spWords P w K mg base COE kk) := by
  obtain ⟨fN, fdN, N, gN, kN, bN⟩ := B.nm
  refine B.F.ok scWords (fun vs H Q E h => ?_) (fun cdv A outer s H vs Q E hr h => ?_)
  · obtain ⟨fc, L, rfl, _⟩ := h
    rfl
  · obtain ⟨fc, L, rfl, k', fd', pn, sp, F', hk', kF, bF, xs, out, lab, hL, hz, hK, hC, hQ⟩ := h
    exact words_body (g := g) (cdv := cdv) (E := E) B.gE N gN kN bN (hr.mono hkk)
      (fun W pn' xe p1 p2 p3 tk => pe_callLS (i := 0) (j := 3) (E := WE W) F' (hr.mono hk') rfl (.inl rfl) kF bF (fun σ => L2N.passAt tk σ) rfl (.inl rfl) (by decide) (by decide) (by decide) (by decide) (by rfl)) hK hL hz hC hQ
end
end Wo
/-! WoV -/
namespace Wo
open PySem PySem.Spec PyProof.Rows L2 WoR WoK
/-- what every order is -/
def ordB (xs : List V) : Bool := decide (0 < xs.length) && decide (xs.length ≤ 30) && xs.all (inI 0 (xs.length - 1)) && decide xs.Nodup
theorem ordB_of {xs : List V} (h : IsOrd xs) : ordB xs = true := by
  obtain ⟨ns, rfl, o⟩ := h
  have h1 : (tn ns).Nodup := by
    rw [tn_eq]
    exact List.pairwise_map.mpr (o.nd.imp fun h e => h (Int.ofNat.inj (V.int.inj e)))
  have h2 : (tn ns).all (inI 0 ((tn ns).length - 1)) = true := by
    rw [tn_len, tn_eq, List.all_map, List.all_eq_true]
    intro n hn
    have h1 := o.lt hn
    show (decide ((0 : Int) ≤ (n : Int)) && decide ((n : Int) ≤ (ns.length : Int) - 1)) = true
    rw [Bool.and_eq_true]
    exact ⟨decide_eq_true (by omega), decide_eq_true (by omega)⟩
  unfold ordB
  rw [h2, decide_eq_true h1, tn_len, decide_eq_true o.pos, decide_eq_true o.le]
  rfl
def G (H0 H : Hp) (acc : List V) : Prop := Same H0 H ∧ ∀ x ∈ acc, Okv H x ∧ ¬ OrdV H x
section
variable {H0 H H' : Hp} {acc xs : List V} {x : V} {p : Addr}
theorem bad_mono (h : Okv H x ∧ ¬ OrdV H x) (s : Same H H') : Okv H' x ∧ ¬ OrdV H' x := by
  refine ⟨h.1.same s, ?_⟩
  unfold OrdV
  rw [h.1.k.tupOf_same s]
  exact h.2
theorem G.mono (g : G H0 H acc) (s : Same H H') : G H0 H' acc := ⟨g.1.trans s, fun x hx => bad_mono (g.2 x hx) s⟩
theorem G.add (g : G H0 H acc) (h : Okv H x ∧ ¬ OrdV H x) : G H0 H (acc ++ [x]) := ⟨g.1, fun y hy => by
  rcases List.mem_append.mp hy with z | z
  · exact g.2 y z
  · rw [List.mem_singleton.mp
      z]
    exact h⟩
theorem bad_c (k : Kd H x) (t : tupOf H x = none) : Okv H x ∧ ¬ OrdV H x := by
  refine ⟨⟨k, fun xs e => ?_⟩, fun ⟨xs, e, _⟩ => ?_⟩ <;> rw [t] at e <;> cases e
theorem bad_t (e : At H p xs) (hl : xs.length ≤ 1000) (hk : ∀ y ∈ xs, Kd H y) (hb : ordB xs = false) : Okv H (.ref p) ∧ ¬ OrdV H (.ref p) := by
  refine ⟨⟨.tup e, fun ys z => ?_⟩, fun ⟨ys, z, o⟩ => ?_⟩
  · rw [tupOf_tup e] at z
    cases z
    exact ⟨hl, hk⟩
  · rw [tupOf_tup e] at z
    cases z
    rw [ordB_of o] at hb
    cases hb
theorem G.c (g : G H0 H acc) (k : Kd H x) (t : tupOf H x = none) : G H0 H (acc ++ [x]) := g.add (bad_c k t)
theorem G.l (g : G H0 H acc) (n : H p = none) : G H0 (upd H p (.lst xs)) (acc ++ [.ref p]) := (g.mono (same_new n)).c (.lst upd_same) (tupOf_lst upd_same)
theorem G.t (g : G H0 H acc) (n : H p = none) (hl : xs.length ≤ 1000) (hk : ∀ y ∈ xs, Kd H y) (hb : ordB xs = false) : G H0 (upd H p (.tup xs)) (acc ++ [.ref p]) :=
  (g.mono (same_new n)).add (bad_t (.of upd_same) hl (fun y hy => (hk y hy).same (same_new n)) hb)
end
section
variable {P : Program} {w : World} {K : PySem.W.Frag}
    {mg : Str → Option Value} {base : Heap}
theorem pl_c {v : V} {σ : L2.St} {H : Hp} {Q : VK} (h : Q v H) : tC v σ H Q := h
theorem pl_t0 {σ : L2.St} {H : Hp} {Q : VK} (k : ∀ p, H p = none → Q (.ref p) (upd H p (.tup []))) : tTup tNil σ H Q := ⟨Nat.zero_le _, k⟩
theorem pl_t1 {v : V} {σ : L2.St} {H : Hp} {Q : VK} (k : ∀ p, H p = none → Q (.ref p) (upd H p (.tup [v]))) : tTup (tCons (tC v) tNil) σ H Q := ⟨by show 1 ≤ sizeLine; decide, k⟩
theorem pl_t2 {v u : V} {σ : L2.St} {H : Hp} {Q : VK} (k : ∀ p, H p = none → Q (.ref p) (upd H p (.tup [v, u]))) : tTup (tCons (tC v) (tCons (tC u) tNil)) σ H Q := ⟨by show 2 ≤ sizeLine; decide, k⟩
theorem pl_l1 {v : V} {σ : L2.St} {H : Hp} {Q : VK} (k : ∀ p, H p = none → Q (.ref p) (upd H p (.lst [v]))) : tLst (tCons (tC v) tNil) σ H Q := ⟨by show 1 ≤ sizeLine; decide, k⟩
abbrev sBad : Stmt := topS 38
theorem scBad : FnScope ["_law_some"] [] (defScope sBad) := ⟨rfl, rfl, rfl, by decide +kernel, rfl, by decide +kernel, by decide +kernel⟩
def spBad : Sp := fun vs H Q _ => vs = [] ∧ ∀ L xs H', H L = none → Same H H' → H' L = some (.lst xs) → xs.length = 14 → (∀ x ∈ xs, Okv H' x ∧ ¬ OrdV H' x) → Q (.ref L) H'
theorem ok_bad {f : Addr} {fd : FuncData} (F : Fun K "_law_bad_orders" "_law_bad_orders" sBad f fd) (T : Bi mg) : FnOk P w K mg base CX0 1 f fd [] spBad := by
  refine F.ok scBad (fun vs H Q E h => ?_) (fun cdv A outer s H vs Q E hr h => ?_)
  · obtain ⟨rfl, _⟩ := h
    rfl
  · obtain ⟨rfl, q⟩ := h
    refine ⟨_, pss_cons (ps_set (i := 0) scBad.nd rfl (.inl rfl) (pe_lst (pa_cons pe_non (pa_cons (pe_tup pa_nil) (pa_cons (pe_lst (pa_cons pe_int pa_nil)) (pa_cons (pe_tup (pa_cons pe_int (pa_cons pe_int pa_nil))) (pa_cons (pe_tup (pa_cons pe_int pa_nil))
        (pa_cons (pe_tup (pa_cons pe_int (pa_cons pe_int pa_nil))) (pa_cons (pe_tup (pa_cons pe_int (pa_cons pe_bl pa_nil))) (pa_cons (pe_tup (pa_cons pe_int (pa_cons pe_non pa_nil))) (pa_cons pe_str (pa_cons (pe_tupRg rfl (by rfl) T.tuple (prg_1 (by rfl) T.range pe_int))
        (pa_cons (pe_tup (pa_cons (pe_tup (pa_cons pe_int pa_nil)) pa_nil)) pa_nil)))))))))))))
      (pss_one (ps_ret (pe_op op_catS (pv 0) (pe_lst (pa_cons (pe_tup (pa_cons pe_int (pa_cons pe_int pa_nil))) (pa_cons (pe_tup (pa_cons (pe_un un_neg pe_int) (pa_cons pe_int pa_nil))) (pa_cons pe_int pa_nil))))))), ?_⟩
    have g0 : G H H [] := ⟨Same.refl H, fun x hx => absurd hx (by simp)⟩
    have i2 : ∀ {H : Hp} (a b : Int), ∀ y ∈ [V.int a, V.int b], Kd H y := fun a b y hy => by
      rcases List.mem_cons.mp
          hy with rfl | hy
      · exact .int _
      · rw [List.mem_singleton.mp hy]
        exact .int _
    refine pl_seq (pl_asg (pl_lst (pl_cons (pl_c (pl_cons (pl_t0 fun p1 n1 => pl_cons (pl_l1 fun p2 n2 => pl_cons (pl_t2 fun p3 n3 => pl_cons (pl_t1 fun p4 n4 => pl_cons (pl_t2 fun p5 n5 => pl_cons (pl_t2 fun p6 n6 => pl_cons (pl_t2 fun p7 n7 => pl_cons (pl_c (pl_cons ?_))))))))))))))
    have g1 := g0.c (x := .non) .non rfl
    have g2 := g1.t (xs := []) n1 (by simp) (fun y hy => absurd hy (by simp)) rfl
    have g3 := g2.l (xs := [.int 0]) n2
    have g4 := g3.t (xs := [.int 0, .int 0]) n3 (by simp) (i2 0 0) (by decide +kernel)
    have g5 := g4.t (xs := [.int 1]) n4 (by simp) (fun y hy => by rw [List.mem_singleton.mp hy]; exact .int _) (by decide +kernel)
    have g6 := g5.t (xs := [.int 1, .int 2]) n5 (by simp) (i2 1 2) (by decide +kernel)
    have g7 := g6.t (xs := [.int 0, .bl true]) n6 (by simp) (fun y hy => by
      rcases List.mem_cons.mp
          hy with rfl | hy
      · exact .int _
      · rw [List.mem_singleton.mp hy]
        exact .bl _) (by decide +kernel)
    have g8 := g7.t (xs := [.int 0, .non]) n7 (by simp) (fun y hy => by
      rcases List.mem_cons.mp
          hy with rfl | hy
      · exact .int _
      · rw [List.mem_singleton.mp hy]
        exact .non) (by decide +kernel)
    have g9 := g8.c (x := .str "01") (.str _) rfl
    refine ⟨31, rfl, .of_le (by decide) (by decide) (by decide) (by decide), fun p8 n8 => pl_cons (pl_tup (pl_cons (pl_t1 fun p9 n9 => pl_nil ⟨by show 1 ≤ sizeLine; decide, fun p10 n10 => pl_nil ⟨by show 11 ≤ sizeLine; decide, fun l1 m1 => pl_name (pl_nx ?_)⟩⟩)))⟩
    have g10 := g9.t (xs := rgV 0 31) n8 (by rw [rgV_length]; decide) (fun y hy => by
      unfold rgV at hy
      obtain ⟨i, _, rfl⟩ := List.mem_map.mp hy
      exact .int _) (by decide +kernel)
    have g11 := (g10.mono (same_new (o := .tup [.int 0]) n9)).t (xs := [.ref p9]) n10 (by simp) (fun y hy => by
      rw [List.mem_singleton.mp hy]
      exact .tup (.of upd_same)) rfl
    refine pl_ret (pl_op (pl_var rfl (pl_lst (pl_cons (pl_t2 fun p11 n11 => pl_cons ?_)))))
    have g12 := (g11.mono (same_new (o := .lst _) m1)).t (xs := [.int 0, .int 2]) n11 (by simp) (i2 0 2) (by decide +kernel)
    refine pl_tup (pl_cons ⟨1, rfl, pl_cons (pl_c (pl_nil ⟨by show 2 ≤ sizeLine; decide, fun p12 n12 => pl_cons (pl_c (pl_nil ⟨by show 3 ≤ sizeLine; decide, fun l2 m2 => ?_⟩))⟩))⟩)
    have g13 := (g12.t (xs := [.int (-1), .int 0]) n12 (by simp) (i2 (-1) 0) (by decide +kernel)).c (x := .int 5) (.int _) rfl
    have g14 := g13.mono (same_new (o := .lst [.ref p11, .ref p12, .int 5]) m2)
    refine ⟨l1, l2, _, _, rfl, rfl, ll_of (same_new m2 _ _ (same_new n12 _ _ (same_new n11 _ _ upd_same))), ll_of upd_same, by show 11 + 3 ≤ 100000; decide, fun l3 m3 => ?_⟩
    refine q l3 _ _ (g14.1.free m3) (g14.1.trans (same_new m3)) upd_same rfl fun x hx => bad_mono (g14.2 x ?_) (same_new m3)
    simpa using hx
end
end Wo
/-! WoW -/
namespace Wo
open PySem PySem.Spec PyProof.Rows L2 WoR WoK LamX
abbrev lawN : List Str := ["_law_script", "_law_pot_here", "_law_many_here", "_law_one_here", "_law_other", "_law_third", "_law_bad", "_law_odd", "_law_call", "_law_odds"]
abbrev sLaw : Stmt := topS 40
theorem scLaw : FnScope lawN ["_law_script"] (defScope sLaw) := ⟨rfl, rfl, rfl, by decide +kernel, rfl, by decide +kernel, by decide +kernel⟩
/-- the law's own defs, and what they promise -/
structure Own (P : Program) (w : World) (K : PySem.W.Frag) (mg : Str → Option Value) (base : Heap) (CO CU CM COE : Addr) : Prop where
  pot : ∃ f fd, mg "_law_pot" = some (.ref f) ∧ PySem.W.keepIn K (.ref f) = true ∧ Binds K fd ["_law_script", "_law_turn"] [] ∧ FnOk P w K mg base CX0 1 f fd ["_law_script", "_law_turn"] (spPot K)
  many : ∃ f fd, mg "_law_many" = some (.ref f) ∧ PySem.W.keepIn K (.ref f) = true ∧ Binds K fd ["_law_pot_here"] [] ∧ FnOk P w K mg base CX0 3 f fd ["_law_pot_here"] spMany2
  ord : ∃ f fd, mg "_law_order" = some (.ref f) ∧ PySem.W.keepIn K (.ref f) = true ∧ Binds K fd ["_law_pot_here", "_law_many_here"] [] ∧ FnOk P w K mg base CX0 3 f fd ["_law_pot_here", "_law_many_here"] spOrd
  isO : ∃ f fd, mg "is_order" = some (.ref f) ∧ PySem.W.keepIn K (.ref f) = true ∧ Binds K fd ["value"] [] ∧ FnOk P w K mg base CX0 4 f fd ["value"] spIsOrder
  right : ∃ f fd, mg "_law_right" = some (.ref f) ∧ PySem.W.keepIn K (.ref f) = true ∧ Binds K fd ["_law_one_here", "_law_other"] [] ∧ FnOk P w K mg base CX0 8 f fd ["_law_one_here", "_law_other"] spRight
  bad : ∃ f fd, mg "_law_bad_orders" = some (.ref f) ∧ PySem.W.keepIn K (.ref f) = true ∧ Binds K fd [] [] ∧ FnOk P w K mg base CX0 1 f fd [] spBad
  words : ∃ g fd, Wds K mg P w base COE g fd
abbrev lawCx (P : Program) (w : World) (K : PySem.W.Frag) (mg : Str → Option Value) (base : Heap) (f : Addr) (cdv : Value) (A : Around) (outer : List Env) (s : Shared) (H : Hp) (E : XK) : Cx := (cxOf CX0 P w K mg base lawN "law" (defScope sLaw) f cdv A outer s H E).nox
abbrev lamQ : Str := (("law" : Str) ++ ".<locals>.") ++ "<lambda>"
def tLedN (CO CU : Addr) : XK → TE := fun E => tCall (spLed CO CU) [] E (tCons (tVar 7) (tCons (tC .non) tNil))
def tLedO (CO CU : Addr) : XK → TE := fun E => tCall (spLed CO CU) [] E (tCons (tVar 3) (tCons (tVar 7) tNil))
section
variable {P : Program} {w : World} {K : PySem.W.Frag}
    {mg : Str → Option Value} {base : Heap}
end
end Wo
/-! WoX -/
namespace Wo
open PySem PySem.Spec PyProof.Rows L2 WoR WoK LamX
/-- what stands as the law goes on -/
structure Lw (T : List (Addr × Str)) (H : Hp) (p a b c : Addr) (ns ms ks : List Nat) : Prop where
  pot : PotAt H p
  fa : Fz H a (tn ns)
  fb : Fz H b (tn ms)
  fc : Fz H c (tn ks)
  on : Ord ns
  om : Ord ms
  ok : Ord ks
  lm : ns.length = ms.length
  lk : ns.length = ks.length
  tabs : Tabs T H
section
variable {T : List (Addr × Str)} {H H' : Hp} {p a b c : Addr} {ns ms ks : List Nat}
theorem Lw.same (h : Lw T H p a b c ns ms ks) (s : Same H H') : Lw T H' p a b c ns ms ks := ⟨h.pot.same s, h.fa.s s, h.fb.s s, h.fc.s s, h.on, h.om, h.ok, h.lm, h.lk, h.tabs.ext s⟩
theorem Fz.ext {xs : List V} (h : Fz H a xs) (e : ExtN H H') : Fz H' a xs := by
  obtain ⟨o, h1, h2⟩ := h
  exact ⟨o, e _ _ h1 (fun ps z => by cases z), h2⟩
theorem Lw.ext (h : Lw T H p a b c ns ms ks) (e : ExtN H H') (t : Tabs T H') : Lw T H' p a b c ns ms ks := by
  obtain ⟨g, z, e1⟩ := h.pot
  exact ⟨⟨g, z, e _ _ e1 (fun ps z => by cases z)⟩, h.fa.ext e, h.fb.ext e, h.fc.ext e, h.on, h.om, h.ok, h.lm, h.lk, t⟩
theorem tabs_sb (t : Tabs T H) (sb : SameB p H H') (pa : PotAt H p) : Tabs T H' := by
  obtain ⟨g, z, e⟩ := pa
  intro q hq
  obtain ⟨ps, h1, h2, h3⟩ := t q hq
  refine ⟨ps, sb _ _ (fun y => ?_) h1, h2, fun pos cv hc => ?_⟩
  · rw [y, e] at h1
    cases h1
  · obtain ⟨d, e1, e2⟩ := h3 pos cv hc
    refine ⟨d, e1, sb _ _ (fun y => ?_) e2⟩
    rw [y, e] at e2
    unfold CodeO at e2
    cases e2
theorem Fz.sb {xs : List V} (h : Fz H a xs) (sb : SameB p H H') (pa : PotAt H p) : Fz H' a xs := by
  obtain ⟨g, z, e⟩ := pa
  obtain ⟨o, h1, h2⟩ := h
  refine ⟨o, sb _ _ (fun y => ?_) h1, h2⟩
  rw [y, e] at h1
  cases h1
end
section
variable {K : PySem.W.Frag} {T : List (Addr × Str)} {H : Hp} {L p a b c : Addr} {ns ms ks : List Nat} {scr : List Int} {rest : TS} {D : Ends} {CO CU CM : Addr} {y6 y7 y8 y9 : Option V}
abbrev stL (L p : Addr) (m : Nat) (a b c : Addr) (y6 y7 y8 y9 : Option V) : L2.St := [some (.ref L), some (.ref p), some (.int (m : Int)), some (.ref a), some (.ref b), some (.ref c), y6, y7, y8, y9]
theorem d1 (hS : SqL K H L (scr.map V.int)) (hl : scr.length ≤ 1000) (t : Tabs T H) (k : ∀ p H', PotAt H' p → Tabs T H' → rest D [some (.ref L), some (.ref p), none, none, none, none, none, none, none, none] H') :
    tSeq (tAsg (tCall (spPot K) [] E0 (tCons (tVar 0) (tCons (tC (.int 1)) tNil))) (gName 1)) rest D [some (.ref L), none, none, none, none, none, none, none, none, none] H :=
  pl_seq (pl_asg (pl_call (pl_cons (pl_var rfl (pl_cons (pl_c (pl_nil ⟨L, scr, 1, rfl, hS, hl, ⟨by decide, by decide⟩, fun p H' np s pa => pl_name (pl_nx (k p H' pa (t.ext s)))⟩)))))))
theorem d2 (pa : PotAt H p) (t : Tabs T H) (k : ∀ (m : Nat) H', 1 ≤ m → m ≤ 30 → PotAt H' p → Tabs T H' → rest D [some (.ref L), some (.ref p), some (.int (m : Int)), none, none, none, none, none, none, none] H') :
    tSeq (tAsg (tCall spMany2 [] E0 (tCons (tVar 1) tNil)) (gName 2)) rest D [some (.ref L), some (.ref p), none, none, none, none, none, none, none, none] H :=
  pl_seq (pl_asg (pl_call1 rfl ⟨p, rfl, pa, fun m H' h1 h2 sb pa' => pl_name (pl_nx (k m H' h1 h2 pa' (tabs_sb t sb pa)))⟩))
theorem d3 {m : Nat} (h1 : 1 ≤ m) (h2 : m ≤ 30) (pa : PotAt H p) (t : Tabs T H) (k : ∀ (a b : Addr) (ns ms : List Nat) H', ns.length = m → ms.length = m → Ord ns → Ord ms → Fz H' a (tn ns) → Fz H' b (tn ms) → PotAt H' p → Tabs T H' →
      rest D [some (.ref L), some (.ref p), some (.int (m : Int)), some (.ref a), some (.ref b), none, none, none, none, none] H') :
    tSeq (tAsg (tTup (tCons (tCall spOrd [] E0 (tCons (tVar 1) (tCons (tVar 2) tNil))) (tCons (tCall spOrd [] E0 (tCons (tVar 1) (tCons (tVar 2) tNil))) tNil))) (gTup K 2 (gCons (gName 3) (gCons (gName 4) gNil)))) rest D
      [some (.ref L), some (.ref p), some (.int (m : Int)), none, none, none, none, none, none, none] H := by
  refine pl_seq (pl_asg (pl_tup (pl_cons (pl_call2 rfl rfl ⟨p, m, rfl, pa, h1, h2, fun a ns H1 el on na sb pa1 fa => ?_⟩))))
  refine pl_cons (pl_call2 rfl rfl ⟨p, m, rfl, pa1, h1, h2, fun b ms H2 el2 om nb sb2 pa2 fb => pl_nil ⟨by show 2 ≤ sizeLine; decide, fun u nu => ?_⟩⟩)
  have sn := same_new (o := .tup [V.ref a, V.ref b]) nu
  exact ⟨u, _, rfl, tl_of (.of upd_same), rfl, _, _, rfl, _, _, rfl, rfl, k a b ns ms _ el el2 on om ((fa.sb sb2 pa1).s sn) (fb.s sn) (pa2.same sn) ((tabs_sb (tabs_sb t sb pa) sb2 pa1).ext sn)⟩
theorem d4 {m : Nat} (h1 : 1 ≤ m) (h2 : m ≤ 30) (el : ns.length = m) (el2 : ms.length = m) (on : Ord ns) (om : Ord ms) (fa : Fz H a (tn ns)) (fb : Fz H b (tn ms)) (pa : PotAt H p) (t : Tabs T H) (k : ∀ (c : Addr) (ks : List Nat) H', Lw T H' p a b c ns ms ks → rest D (stL L p m a b c none none none none) H') :
    tSeq (tAsg (tCall spOrd [] E0 (tCons (tVar 1) (tCons (tVar 2) tNil))) (gName 5)) rest D [some (.ref L), some (.ref p), some (.int (m : Int)), some (.ref a), some (.ref b), none, none, none, none, none] H :=
  pl_seq (pl_asg (pl_call2 rfl rfl ⟨p, m, rfl, pa, h1, h2, fun c ks H1 el3 ok nc sb pa1 fc => pl_name (pl_nx (k c ks H1 ⟨pa1, fa.sb sb pa, fb.sb sb pa, fc, on, om, ok, by omega, by omega, tabs_sb t sb pa⟩))⟩))
theorem e5 (R : Lw T H p a b c ns ms ks) (k : ∀ H', Lw T H' p a b c ns ms ks → rest D (stL L p ns.length a b c y6 y7 y8 y9) H') :
    tSeq (tIfS (tOr (tTest (tOp rNotB (tCall spIsOrder [] E0 (tCons (tVar 3) tNil)) (tC (.bl true)))) (tNot (tB (tCall spRight [] E0 (tCons (tVar 3) (tCons (tVar 4) tNil)))))) tBad tNext) rest D (stL L p ns.length a b c y6 y7 y8 y9) H := by
  refine pl_seq (pl_if (pl_or (pl_test (pl_op (pl_call1 rfl ⟨_, rfl, okv_ord R.on R.fa.at', fun t H1 s1 ht => pl_c ?_⟩)))))
  have e := ht.mpr (ordV_of R.fa.at' R.on)
  subst e
  refine ⟨true, true, rfl, rfl, _, rfl, iteF ?_⟩
  have R1 := R.same s1
  exact pl_call2 rfl rfl ⟨a, b, ns, ms, rfl, R1.fa, R1.fb.at', R1.on, R1.om, R1.lm, fun H2 s2 => ⟨true, rfl, iteF (k H2 (R1.same s2))⟩⟩
theorem e6 (R : Lw T H p a b c ns ms ks) (k : ∀ H', Lw T H' p a b c ns ms ks → rest D (stL L p ns.length a b c y6 y7 y8 y9) H') :
    tSeq (tIfS (tTest (tOp (rNeD K) (tCall (spLed CO CU) [] E0 (tCons (tCall (spLed CO CU) [] E0 (tCons (tVar 3) (tCons (tVar 4) tNil))) (tCons (tVar 5) tNil)))
      (tCall (spLed CO CU) [] E0 (tCons (tVar 3) (tCons (tCall (spLed CO CU) [] E0 (tCons (tVar 4) (tCons (tVar 5) tNil))) tNil))))) tBad tNext) rest D (stL L p ns.length a b c y6 y7 y8 y9) H := by
  have ol := led_ord R.on R.om R.lm
  have o2 := led_ord R.om R.ok (R.lm.symm.trans R.lk)
  have e1 : (ledN ns ms).length = ms.length := led_len _ _
  have e2 : (ledN ms ks).length = ks.length := led_len _ _
  have := R.lm
  have := R.lk
  refine pl_seq (pl_if (pl_test (pl_op (pl_call (pl_cons (pl_call2 rfl rfl (go_led R.fa.at' R.fb.at' R.on R.om R.lm fun x H1 nx s1 ex => ?_)))))))
  refine pl_cons (pl_var rfl (pl_nil (go_led ex (R.fc.at'.s s1) ol R.ok (by omega) fun y H2 ny s2 ey => ?_)))
  have R2 := (R.same s1).same s2
  refine pl_call (pl_cons (pl_var rfl (pl_cons (pl_call2 rfl rfl (go_led R2.fb.at' R2.fc.at' R2.om R2.ok (by omega) fun z H3 nz s3 ez => pl_nil ?_)))))
  refine go_led (R2.fa.at'.s s3) ez R2.on o2 (by omega) fun u H4 nu s4 eu => ne_t (tl_of ((ey.s s3).s s4)) (tl_of eu) (led_led R.on R.om R.ok R.lm (by omega)) (iteF ?_)
  exact k H4 ((R2.same s3).same s4)
end
end Wo
/-! WoY -/
namespace Wo
open PySem PySem.Spec PyProof.Rows L2 WoR WoK LamX
section
variable {H H' : Hp} {x : V} {xs : List V} {l : Addr}
/-- the orders that are none -/
def Bd (H : Hp) (l : Addr) (xs : List V) : Prop := H l = some (.lst xs) ∧ xs.length = 14 ∧ ∀ x ∈ xs, Okv H x ∧ ¬ OrdV H x
theorem Bd.same (h : Bd H l xs) (s : Same H H') : Bd H' l xs := ⟨s _ _ h.1, h.2.1, fun x hx => bad_mono (h.2.2 x hx) s⟩
theorem At.ext {a : Addr} (h : At H a xs) (e : ExtN H H') : At H' a xs := by
  rcases h with q | ⟨o, q⟩
  · exact .inl (e _ _ q (fun ps z => by cases z))
  · exact .inr ⟨o, e _ _ q (fun ps z => by cases z)⟩
theorem Kd.ext (k : Kd H x) (e : ExtN H H') : Kd H' x := by
  cases k with
  | non => exact .non
  | bl b => exact .bl b
  | int i => exact .int i
  | str y => exact .str y
  | tup q => exact .tup (q.ext e)
  | lst q => exact .lst (e _ _ q (fun ps z => by cases z))
theorem Kd.tupE (k : Kd H x) (e : ExtN H H') : tupOf H' x = tupOf H x := by
  cases k with
  | tup q => rw [tupOf_tup q, tupOf_tup (q.ext e)]
  | lst q => rw [tupOf_lst q, tupOf_lst (e _ _ q (fun ps z => by cases z))]
  | _ => rfl
theorem bad_ext (h : Okv H x ∧ ¬ OrdV H x) (e : ExtN H H') : Okv H' x ∧ ¬ OrdV H' x := by
  refine ⟨⟨h.1.k.ext e, fun ys z => ?_⟩, ?_⟩
  · rw [h.1.k.tupE e] at z
    exact ⟨(h.1.t ys z).1, fun y hy => ((h.1.t ys z).2 y hy).ext e⟩
  · unfold OrdV
    rw [h.1.k.tupE e]
    exact h.2
theorem Bd.ext (h : Bd H l xs) (e : ExtN H H') : Bd H' l xs := ⟨e _ _ h.1 (fun ps z => by cases z), h.2.1, fun x hx => bad_ext (h.2.2 x hx) e⟩
theorem cal_one {CO : Addr} {g : List Nat → List Nat} (hb : ∀ x ∈ xs, Okv H x ∧ ¬ OrdV H x) : CalOk (fun x H Q E => spOne CO g [x] H Q E) H xs (fun _ => some CO) := by
  intro x hx H' s Q E q1 q2
  have h := bad_mono (hb x hx) s
  exact ⟨x, rfl, h.1, fun a ns ex ea o => absurd (by rw [ex]; exact ordV_of ea o) h.2, fun _ H2 s2 => q2 CO rfl H2 s2⟩
theorem cal_mk {CM : Addr} {g : Nat → List Nat} (hb : ∀ x ∈ xs, Kd H x ∧ inI 1 30 x = false) : CalOk (fun x H Q E => spMk CM g [x] H Q E) H xs (fun _ => some CM) := by
  intro x hx H' s Q E q1 q2
  obtain ⟨hk, hi⟩ := hb x hx
  refine ⟨x, rfl, hk.same s, fun n e h1 h2 => ?_, fun _ => q2 CM rfl H' (Same.refl _)⟩
  rw [e] at hi
  have : inI 1 30 (.int (n : Int)) = true := by
    show (decide ((1 : Int) ≤ (n : Int)) && decide ((n : Int) ≤ 30)) = true
    rw [Bool.and_eq_true]
    exact ⟨decide_eq_true (by omega), decide_eq_true (by omega)⟩
  rw [this] at hi
  cases hi
theorem wlab_all {D : Addr} {lab : Addr → Str} {n : Nat} (h : xs.length = n) : xs.map (wlab (fun _ => some D) lab) = List.replicate n (lab D) := by
  subst h
  exact List.map_const' ..
end
section
variable {K : PySem.W.Frag} {T : List (Addr × Str)} {H : Hp} {L p a b c l : Addr} {ns ms ks : List Nat} {xs : List V} {rest : TS} {D : Ends} {CO CU CM : Addr} {y6 y7 y8 y9 : Option V}
theorem dpAll_str : ∀ ys : List Str, DpAll K H (ys.map V.str) (ys.map PyData.str)
  | [] => .nil
  | x :: ys => .cons (.str x) (dpAll_str ys)
/-- x != y, both lists of the same texts -/
theorem ne_s {H : Hp} {p q : Addr} {ys : List Str} {Q : Bool → Hp → Prop} (h1 : SqL K H p (ys.map V.str)) (h2 : SqL K H q (ys.map V.str)) (sh : SeqAt.shaped (.list (ys.map PyData.str)) = true) (ev : PyData.eqv (.list (ys.map PyData.str)) (.list (ys.map PyData.str)) = true) (k : Q false H) :
    rNeD K (.ref p) (.ref q) H fun x H' => ∃ b, x = .bl b ∧ Q b H' := by
  refine ⟨_, _, .lst h1 (dpAll_str ys), .lst h2 (dpAll_str ys), sh, sh, _, rfl, ?_⟩
  rw [ev]
  exact k
theorem r_tupRg {n : Nat} {H : Hp} {σ : L2.St} {Q : VK} {i : Nat} (h : σ[i]? = some (some (.int (n : Int)))) (hn : n ≤ 100000) (k : ∀ r H', H r = none → Same H H' → At H' r (tn (List.range n)) → Q (.ref r) H') : tTupRg (tRg1 (tVar i)) σ H Q := by
  refine ⟨_, h, _, rfl, .of_le (by omega) (by omega) (by omega) (by omega), fun r nr => ?_⟩
  rw [rgV_ci]
  exact k r _ nr (same_new nr) (.of upd_same)
theorem e7 (R : Lw T H p a b c ns ms ks) (k : ∀ H', Lw T H' p a b c ns ms ks → rest D (stL L p ns.length a b c y6 y7 y8 y9) H') :
    tSeq (tIfS (tOr (tTest (tOp (rNeD K) (tCall (spMk CM List.range) [] E0 (tCons (tVar 2) tNil)) (tTupRg (tRg1 (tVar 2)))))
      (tTest (tOp (rNeD K) (tCall (spMk CM fun n => (List.range n).reverse) [] E0 (tCons (tVar 2) tNil)) (tRevT K (tTupRg (tRg1 (tVar 2))))))) tBad tNext) rest D (stL L p ns.length a b c y6 y7 y8 y9) H := by
  have h0 := R.on.pos
  have h30 := R.on.le
  refine pl_seq (pl_if (pl_or (pl_test (pl_op (pl_call1 rfl (go_mk (by omega) (by omega) fun x H1 nx s1 ex => ?_))))))
  refine r_tupRg rfl (by omega) fun y H2 ny s2 ey => ne_t (tl_of (ex.s s2)) (tl_of ey) rfl (iteF ?_)
  refine pl_test (pl_op (pl_call1 rfl (go_mk (by omega) (by omega) fun z H3 nz s3 ez => ?_)))
  refine r_tupRg rfl (by omega) fun u H4 nu s4 eu => ⟨u, _, rfl, tl_of eu, fun v nv => ?_⟩
  have s5 := same_new (o := .tup (tn (List.range ns.length)).reverse) nv
  have ev : At (upd H4 v (.tup (tn (List.range ns.length)).reverse)) v (tn (List.range ns.length).reverse) := by
    refine .of ?_
    rw [upd_same, tn_eq, tn_eq, List.map_reverse]
  exact ne_t (tl_of ((ez.s s4).s s5)) (tl_of ev) rfl (iteF (k _ ((((R.same s1).same s2).same s3).same (s4.trans s5))))
theorem e8 (R : Lw T H p a b c ns ms ks) (k : ∀ l xs H', Lw T H' p a b c ns ms ks → Bd H' l xs → rest D (stL L p ns.length a b c (some (.ref l)) y7 y8 y9) H') :
    tSeq (tAsg (tCall spBad [] E0 tNil) (gName 6)) rest D (stL L p ns.length a b c y6 y7 y8 y9) H :=
  pl_seq (pl_asg (pl_call (pl_nil ⟨rfl, fun l xs H' nl s e hl hb => pl_name (pl_nx (k l xs H' (R.same s) ⟨e, hl, hb⟩))⟩)))
theorem e9 (R : Lw T H p a b c ns ms ks) (B : Bd H l xs) (k : ∀ H', Lw T H' p a b c ns ms ks → Bd H' l xs → rest D (stL L p ns.length a b c (some (.ref l)) y7 y8 y9) H') :
    tSeq (tIfS (tTest (tOp (rNeD K) (tLc (iList K (tVar 6)) (gName 7) (tTest (tOp rNotB (tCall spIsOrder [] E0 (tCons (tVar 7) tNil)) (tC (.bl false)))) (tVar 7) [7]) (tLst tNil))) tBad tNext) rest D (stL L p ns.length a b c (some (.ref l)) y7 y8 y9) H := by
  refine pl_seq (pl_if (pl_test (pl_op ?_)))
  refine lc_L (a := l) (fun R r => ⟨_, rfl, r⟩) (ll_of B.1) (by rw [B.2.1]; decide) (fun x => rfl) (fun _ => false) (fun y => y) (fun y hy H1 s1 Z r => ?_) (fun y hy h => Bool.noConfusion h) fun Dl H2 nD s2 eD => ?_
  · have h := bad_mono (B.2.2 y hy) s1
    refine pl_test (pl_op (pl_call1 rfl ⟨y, rfl, h.1, fun t H3 s3 ht => pl_c ?_⟩))
    cases t with
    | true => exact absurd (ht.mp rfl) h.2
    | false => exact ⟨false, false, rfl, rfl, _, rfl, r H3 s3⟩
  · have e0 : pick (fun _ => false) (fun y => y) xs = tn [] := by
      unfold pick
      rw [List.filter_eq_nil_iff.mpr (fun _ _ => Bool.false_ne_true)]
      rfl
    rw [e0] at eD
    refine pl_lst (pl_nil ⟨Nat.zero_le _, fun q nq => ?_⟩)
    have s3 := same_new (o := .lst []) nq
    refine ne_l (a := []) (b := []) (ll_of (s3 _ _ eD)) (ll_of upd_same) rfl (iteF (k _ ((R.same s2).same s3) ((B.same s2).same s3)))
theorem rp14 {i : Nat} {σ : L2.St} {s : Str} {Q : VK} (h : σ[i]? = some (some (.ref l))) (hl : H l = some (.lst xs)) (h14 : xs.length = 14) (k : ∀ q H', Same H H' → H' q = some (.lst (List.replicate 14 (V.str s))) → Q (.ref q) H') :
    tOp rRep (tLst (tCons (tC (.str s)) tNil)) (tCB (Evl.rLenS K) (tCons (tVar i) tNil)) σ H Q := by
  refine pl_op (pl_l1 fun q nq => ⟨_, h, l, xs, rfl, .inl (ll_of (same_new nq _ _ hl)), ?_⟩)
  rw [h14]
  exact ⟨q, 14, _, rfl, rfl, upd_same, by decide, by decide, by show 1 * 14 ≤ sizeLine; rw [sizeLine_eq]; decide, fun r nr => k r _ ((same_new nq).trans (same_new nr)) upd_same⟩
end
end Wo
/-! WoZa -/
namespace Wo
open PySem PySem.Spec PyProof.Rows L2 WoR WoK LamX
section
variable {P : Program} {w : World} {K : PySem.W.Frag} {mg : Str → Option Value} {base : Heap} {T : List (Addr × Str)} {H : Hp} {L p a b c l : Addr} {ns ms ks : List Nat} {xs : List V} {rest : TS} {D : Ends} {CO CU CM COE : Addr} {y6 y7 y8 y9 : Option V}
theorem pl_forT {a : Addr} {xs : List V} {tl : TE} {g : TG} {tb : TS} {D : Ends} {σ : L2.St} {H H1 : Hp} (ht : ∀ R : VK, R (.ref a) H1 → tl σ H R) (Pv : Nat → L2.St → Hp → Prop) (h0 : Pv 0 σ H1) (hl : ∀ i σ H, Pv i σ H → SqT K H a xs)
    (hs : ∀ i x σ H, xs[i]? = some x → Pv i σ H → g x σ H fun σ2 H2 => tb { nx := Pv (i + 1), ct := Pv (i + 1), bk := D.nx, rt := D.rt } σ2 H2) (hd : ∀ σ H, Pv xs.length σ H → D.nx σ H) : tFor (iTup K tl) g tb D σ H :=
  ht _ ⟨a, rfl, ⟨xs, hl 0 σ H1 h0⟩, for_tup (D := D) Pv h0 (fun i σ H _ p => hl i σ H p) hs hd⟩
theorem pl_forC {vs : List V} {ta : TA} {g : TG} {tb : TS} {D : Ends} {σ : L2.St} {H : Hp} (hta : ∀ R : List V → Hp → Prop, R vs H → ta σ H R) (hz : vs.length ≤ sizeLine) (h : ∀ u, H u = none → tFor (iTup K (fun _ H Q => Q (.ref u) H)) g tb D σ (upd H u (.tup vs))) : tFor (iTup K (tTup ta)) g tb D σ H :=
  hta _ ⟨hz, fun u nu => h u nu⟩
/-- a def of the program that raises the class C where it is called with what G tells -/
def Cee (P : Program) (w : World) (K : PySem.W.Frag) (mg : Str → Option Value) (base : Heap) (C : Addr) (Gx : Hp → V → Prop) (fc : Addr) : Prop := ∃ (k' : Nat) (fd : FuncData) (pn : Str) (sp : Sp), FnOk P w K mg base (L2N.CX P w) k' fc fd [pn] sp ∧ k' ≤ 7 ∧ PySem.W.keepIn K (.ref fc) = true ∧ Binds K fd [pn] [] ∧
  ∀ (H : Hp) (xs : List V), (∀ x ∈ xs, Gx H x) → CalOk (fun x H Q E => sp [x] H Q E) H xs (fun _ => some C)
theorem cmp14 {i : Nat} {σ : L2.St} {q C : Addr} {lab : Addr → Str} {R : Bool → Hp → Prop} (h : σ[i]? = some (some (.ref l))) (B : Bd H l xs) (hlab : lab C = "order") (eq : H q = some (.lst ((xs.map (wlab (fun _ => some C) lab)).map V.str))) (k : ∀ H', Same H H' → R false H') :
    tOp rRep (tLst (tCons (tC (.str "order")) tNil)) (tCB (Evl.rLenS K) (tCons (tVar i) tNil)) σ H fun y H2 => rNeD K (.ref q) y H2 fun x H' => ∃ b, x = .bl b ∧ R b H' := by
  rw [wlab_all B.2.1, hlab] at eq
  refine rp14 h B.1 B.2.1 fun r H2 s2 er => ne_s (ys := List.replicate 14 "order") (ll_of (s2 _ _ eq)) (ll_of er) (by decide +kernel) (by decide +kernel) (k H2 s2)
theorem f10 {fO fA fV : Addr} {lab : Addr → Str} (c0 : ∀ fc ∈ [V.ref fO, V.ref fA, V.ref fV], ∃ f, fc = .ref f ∧ Cee P w K mg base CO (fun H x => Okv H x ∧ ¬ OrdV H x) f) (hK : NameIs K mg CO (lab CO) ∧ PySem.W.exmOne K (.ref CO) (.ref COE) = some true) (hlab : lab CO = "order")
    (R : Lw T H p a b c ns ms ks) (B : Bd H l xs) (k : ∀ y8 H', Lw T H' p a b c ns ms ks → Bd H' l xs → rest D (stL L p ns.length a b c (some (.ref l)) y7 y8 y9) H') :
    tSeq (tFor (iTup K (tTup (tCons (tC (.ref fO)) (tCons (tC (.ref fA)) (tCons (tC (.ref fV)) tNil))))) (gName 8)
      (tIfS (tTest (tOp (rNeD K) (tCall (spWords P w K mg base COE 7) [] E0 (tCons (tVar 8) (tCons (tVar 6) tNil))) (tOp rRep (tLst (tCons (tC (.str "order")) tNil)) (tCB (Evl.rLenS K) (tCons (tVar 6) tNil))))) tBad tNext)) rest D
      (stL L p ns.length a b c (some (.ref l)) y7 y8 y9) H := by
  refine pl_seq (pl_forC (vs := [V.ref fO, V.ref fA, V.ref fV]) (fun R r => r) (by show 3 ≤ sizeLine; decide) fun u nu => ?_)
  have s0 := same_new (o := .tup [V.ref fO, V.ref fA, V.ref fV]) nu
  refine pl_forT (a := u) (xs := [V.ref fO, V.ref fA, V.ref fV]) (fun R r => r) (fun i σ H' => ∃ z8, σ = stL L p ns.length a b c (some (.ref l)) y7 z8 y9 ∧ Lw T H' p a b c ns ms ks ∧ Bd H' l xs ∧ At H' u [V.ref fO, V.ref fA, V.ref fV])
    ⟨y8, rfl, R.same s0, B.same s0, .of upd_same⟩ (fun i σ H ⟨_, _, _, _, e⟩ => tl_of e) ?_ ?_
  · rintro i x σ H1 hx ⟨z8, rfl, R1, B1, eu⟩
    obtain ⟨fc, rfl, k', fd, pn, sp, F', hk', kF, bF, hC⟩ := c0 x (List.mem_of_getElem? hx)
    refine pl_name (pl_if (pl_test (pl_op (pl_call2 rfl rfl ⟨fc, l, rfl, k', fd, pn, sp, F', hk', kF, bF, xs, fun _ => some CO, lab, ll_of B1.1, by rw [B1.2.1]; decide, fun y hy D e => ?_, hC H1 xs B1.2.2, fun q H2 nq s2 eq => ?_⟩))))
    · cases e
      exact hK
    · exact cmp14 rfl (B1.same s2) hlab eq fun H3 s3 => iteF ⟨_, rfl, (R1.same s2).same s3, (B1.same s2).same s3, (eu.s s2).s s3⟩
  · rintro σ H1 ⟨z8, rfl, R1, B1, _⟩
    exact k z8 H1 R1 B1
theorem okv_non : Okv H .non := ⟨.non, fun xs h => by cases h⟩
theorem g11 {q : Str} {lab : Addr → Str} (hK : NameIs K mg CO (lab CO) ∧ PySem.W.exmOne K (.ref CO) (.ref COE) = some true) (hlab : lab CO = "order")
    (R : Lw T H p a b c ns ms ks) (B : Bd H l xs) (k : ∀ H', Lw T H' p a b c ns ms ks → Bd H' l xs → rest D (stL L p ns.length a b c (some (.ref l)) y7 y8 y9) H') :
    tSeq (tIfS (tTest (tOp (rNeD K) (tLamW K mg COE T q 7 (tVar 6) (tLedN CO CU)) (tOp rRep (tLst (tCons (tC (.str "order")) tNil)) (tCB (Evl.rLenS K) (tCons (tVar 6) tNil))))) tBad tNext) rest D (stL L p ns.length a b c (some (.ref l)) y7 y8 y9) H := by
  refine pl_seq (pl_if (pl_test (pl_op ⟨R.tabs, fun c' H1 eN t1 hc => ?_⟩)))
  have R1 := R.ext eN t1
  have B1 := B.ext eN
  refine ⟨_, rfl, hc, l, xs, fun _ => some CO, lab, rfl, ll_of B1.1, by rw [B1.2.1]; decide, fun y hy D e => ?_, fun y hy H2 s2 Q E q1 q2 => ?_, fun r H2 nr s2 er => ?_⟩
  · cases e
    exact hK
  · have h := bad_mono (B1.2.2 y hy) s2
    refine ⟨s2 _ _ hc, pl_call (pl_cons (pl_var rfl (pl_cons (pl_c (pl_nil ⟨y, .non, rfl, h.1, okv_non, fun a b ns ms _ z => (by cases z), fun _ H3 s3 => q2 CO rfl H3 s3, fun z => absurd z h.2, fun z => absurd z h.2⟩)))))⟩
  · exact cmp14 rfl (B1.same s2) hlab er fun H3 s3 => iteF (k H3 ((R1.same s2).same s3) ((B1.same s2).same s3))
theorem g12 {q : Str} {lab : Addr → Str} (hK : NameIs K mg CO (lab CO) ∧ PySem.W.exmOne K (.ref CO) (.ref COE) = some true) (hlab : lab CO = "order")
    (R : Lw T H p a b c ns ms ks) (B : Bd H l xs) (k : ∀ H', Lw T H' p a b c ns ms ks → Bd H' l xs → rest D (stL L p ns.length a b c (some (.ref l)) y7 y8 y9) H') :
    tSeq (tIfS (tTest (tOp (rNeD K) (tLamW K mg COE T q 7 (tVar 6) (tLedO CO CU)) (tOp rRep (tLst (tCons (tC (.str "order")) tNil)) (tCB (Evl.rLenS K) (tCons (tVar 6) tNil))))) tBad tNext) rest D (stL L p ns.length a b c (some (.ref l)) y7 y8 y9) H := by
  refine pl_seq (pl_if (pl_test (pl_op ⟨R.tabs, fun c' H1 eN t1 hc => ?_⟩)))
  have R1 := R.ext eN t1
  have B1 := B.ext eN
  refine ⟨_, rfl, hc, l, xs, fun _ => some CO, lab, rfl, ll_of B1.1, by rw [B1.2.1]; decide, fun y hy D e => ?_, fun y hy H2 s2 Q E q1 q2 => ?_, fun r H2 nr s2 er => ?_⟩
  · cases e
    exact hK
  · have h := bad_mono (B1.2.2 y hy) s2
    have fa := (R1.same s2).fa.at'
    refine ⟨s2 _ _ hc, pl_call2 rfl rfl ⟨.ref a, y, rfl, okv_ord R1.on fa, h.1, fun a' b' ns' ms' _ z _ e2 _ o2 => absurd (by rw [z]; exact ordV_of e2 o2) h.2, fun z => absurd (ordV_of fa R1.on) z, fun _ _ H3 s3 => q2 CO rfl H3 s3, fun _ z => absurd z h.2⟩⟩
  · exact cmp14 rfl (B1.same s2) hlab er fun H3 s3 => iteF (k H3 ((R1.same s2).same s3) ((B1.same s2).same s3))
end
end Wo
/-! WoZb -/
namespace Wo
open PySem PySem.Spec PyProof.Rows L2 WoR WoK LamX
section
variable {P : Program} {w : World} {K : PySem.W.Frag} {mg : Str → Option Value} {base : Heap} {T : List (Addr × Str)} {H : Hp} {L p a b c l : Addr} {ns ms ks : List Nat} {xs : List V} {rest : TS} {D : Ends} {CO CU CM COE : Addr} {y6 y7 y8 y9 : Option V}
theorem code_sb {H H' : Hp} {p c : Addr} {q : Str} (h : H c = some (CodeO c q)) (sb : SameB p H H') (pa : PotAt H p) : H' c = some (CodeO c q) := by
  obtain ⟨g, z, e⟩ := pa
  refine sb _ _ (fun y => ?_) h
  rw [y, e] at h
  unfold CodeO at h
  cases h
theorem lenOf_at {H : Hp} {a : Addr} {ns : List Nat} (e : At H a (tn ns)) : lenOf H (.ref a) = ns.length := lenOf_tn e
theorem g13 {q : Str} {lab : Addr → Str} (hK : NameIs K mg CU (lab CU) ∧ PySem.W.exmOne K (.ref CU) (.ref COE) = some true) (hlab : lab CU = "unlike")
    (R : Lw T H p a b c ns ms ks) (k : ∀ H', rest D (stL L p ns.length a b c y6 y7 y8 y9) H') :
    tSeq (tIfS (tTest (tOp (rNeD K) (tLamW K mg COE T q 7 (tLst (tCons (tCall spOrd [] E0 (tCons (tVar 1) (tCons (tOp (rI0 fun i j => .int (i + j)) (tOp (rI (fun _ j => 0 < j) fun i j => .int (i % j)) (tVar 2) (tC (.int 30))) (tC (.int 1))) tNil))) tNil)) (tLedO CO CU))
      (tLst (tCons (tC (.str "unlike")) tNil)))) tBad tNext) rest D (stL L p ns.length a b c y6 y7 y8 y9) H := by
  have h0 := R.on.pos
  have h30 := R.on.le
  refine pl_seq (pl_if (pl_test (pl_op ⟨R.tabs, fun c' H1 eN t1 hc => ?_⟩)))
  have R1 := R.ext eN t1
  have em : ((ns.length : Nat) : Int) % 30 + 1 = ((ns.length % 30 + 1 : Nat) : Int) := by omega
  refine pl_lst (pl_cons (pl_call (pl_cons (pl_var rfl (pl_cons (pl_op (pl_op (pl_var rfl ⟨_, 30, rfl, rfl, by show (0 : Int) < 30; decide, ⟨_, 1, rfl, rfl, pl_nil ?_⟩⟩))))))))
  refine ⟨p, ns.length % 30 + 1, by rw [← em]; rfl, R1.pot, by omega, by omega, fun d os H2 eo oo nd sb pa fd => pl_nil ⟨by show 1 ≤ sizeLine; decide, fun r nr => ?_⟩⟩
  have sn := same_new (o := .lst [V.ref d]) nr
  have hc2 := sn _ _ (code_sb hc sb R1.pot)
  have fa := ((R1.fa.sb sb R1.pot).s sn).at'
  have fd2 := (fd.s sn).at'
  refine ⟨hc2, r, [.ref d], fun _ => some CU, lab, rfl, ll_of upd_same, by show 1 ≤ 1000; decide, fun y hy D e => ?_, fun y hy H3 s3 Q E q1 q2 => ?_, fun u H3 nu s3 eu => ?_⟩
  · cases e
    exact hK
  · rw [List.mem_singleton.mp hy] at q2 ⊢
    have fa3 := fa.s s3
    have fd3 := fd2.s s3
    have ne : ns.length ≠ os.length := by omega
    refine ⟨s3 _ _ hc2, pl_call2 rfl rfl ⟨.ref a, .ref d, rfl, okv_ord R1.on fa3, okv_ord oo fd3, fun a' b' ns' ms' z1 z2 e1 e2 _ _ el => ?_, fun z => absurd (ordV_of fa3 R1.on) z, fun _ z => absurd (ordV_of fd3 oo) z, fun _ _ _ H4 s4 => q2 CU rfl H4 s4⟩⟩
    cases z1
    cases z2
    cases go_one.tn_inj (fa3.inj e1)
    cases go_one.tn_inj (fd3.inj e2)
    exact absurd el ne
  · rw [wlab_all (n := 1) rfl, hlab] at eu
    exact pl_l1 fun v nv => ne_s (ys := ["unlike"]) (ll_of (same_new nv _ _ eu)) (ll_of upd_same) (by decide +kernel) (by decide +kernel) (iteF (k _))
abbrev odds6 : List V := [.non, .int 0, .int 31, .bl true, .str "3", .int (-1)]
theorem e14 (k : ∀ q H', H' q = some (.lst odds6) → rest D (stL L p ns.length a b c y6 y7 y8 (some (.ref q))) H') :
    tSeq (tAsg (tLst (tCons (tC .non) (tCons (tC (.int 0)) (tCons (tC (.int 31)) (tCons (tC (.bl true)) (tCons (tC (.str "3")) (tCons (tUn (rU fun i => .int (-i)) (tC (.int 1))) tNil))))))) (gName 9)) rest D (stL L p ns.length a b c y6 y7 y8 y9) H :=
  pl_seq (pl_asg (pl_lst (pl_cons (pl_c (pl_cons (pl_c (pl_cons (pl_c (pl_cons (pl_c (pl_cons (pl_c (pl_cons ⟨1, rfl, pl_nil ⟨by show 6 ≤ sizeLine; decide, fun q nq => pl_name (pl_nx (k q _ upd_same))⟩⟩)))))))))))))
theorem f15 {fN fZ q : Addr} {lab : Addr → Str} (c0 : ∀ fc ∈ [V.ref fN, V.ref fZ], ∃ f, fc = .ref f ∧ Cee P w K mg base CM (fun H x => Kd H x ∧ inI 1 30 x = false) f) (hK : NameIs K mg CM (lab CM) ∧ PySem.W.exmOne K (.ref CM) (.ref COE) = some true) (hlab : lab CM = "many")
    (hq : H q = some (.lst odds6)) (k : ∀ y8 H', rest D (stL L p ns.length a b c y6 y7 y8 (some (.ref q))) H') :
    tSeq (tFor (iTup K (tTup (tCons (tC (.ref fN)) (tCons (tC (.ref fZ)) tNil)))) (gName 8)
      (tIfS (tTest (tOp (rNeD K) (tCall (spWords P w K mg base COE 7) [] E0 (tCons (tVar 8) (tCons (tVar 9) tNil))) (tOp rRep (tLst (tCons (tC (.str "many")) tNil)) (tC (.int 6))))) tBad tNext)) rest D
      (stL L p ns.length a b c y6 y7 y8 (some (.ref q))) H := by
  refine pl_seq (pl_forC (vs := [V.ref fN, V.ref fZ]) (fun R r => r) (by show 2 ≤ sizeLine; decide) fun u nu => ?_)
  have s0 := same_new (o := .tup [V.ref fN, V.ref fZ]) nu
  refine pl_forT (a := u) (xs := [V.ref fN, V.ref fZ]) (fun R r => r) (fun i σ H' => ∃ z8, σ = stL L p ns.length a b c y6 y7 z8 (some (.ref q)) ∧ H' q = some (.lst odds6) ∧ At H' u [V.ref fN, V.ref fZ])
    ⟨y8, rfl, s0 _ _ hq, .of upd_same⟩ (fun i σ H ⟨_, _, _, e⟩ => tl_of e) ?_ ?_
  · rintro i x σ H1 hx ⟨z8, rfl, eq1, eu⟩
    obtain ⟨fc, rfl, k', fd, pn, sp, F', hk', kF, bF, hC⟩ := c0 x (List.mem_of_getElem? hx)
    have good : ∀ x ∈ odds6, Kd H1 x ∧ inI 1 30 x = false := by
      intro x hx
      simp only [odds6, List.mem_cons, List.not_mem_nil, or_false] at hx
      rcases hx with rfl | rfl | rfl | rfl | rfl | rfl
      · exact ⟨.non, rfl⟩
      · exact ⟨.int _, rfl⟩
      · exact ⟨.int _, rfl⟩
      · exact ⟨.bl _, rfl⟩
      · exact ⟨.str _, rfl⟩
      · exact ⟨.int _, rfl⟩
    refine pl_name (pl_if (pl_test (pl_op (pl_call2 rfl rfl ⟨fc, q, rfl, k', fd, pn, sp, F', hk', kF, bF, odds6, fun _ => some CM, lab, ll_of eq1, by decide, fun y hy D e => ?_, hC H1 odds6 good, fun r H2 nr s2 er => ?_⟩))))
    · cases e
      exact hK
    · rw [wlab_all (n := 6) rfl, hlab] at er
      refine pl_op (pl_l1 fun v nv => ⟨v, 6, _, rfl, rfl, upd_same, by decide, by decide, by show 1 * 6 ≤ sizeLine; rw [sizeLine_eq]; decide, fun z nz => ?_⟩)
      have s3 := (same_new (o := .lst [V.str "many"]) nv).trans (same_new (o := .lst (List.replicate 6 (V.str "many"))) nz)
      exact ne_s (ys := List.replicate 6 "many") (ll_of (s3 _ _ er)) (ll_of upd_same) (by decide +kernel) (by decide +kernel) (iteF ⟨_, rfl, s3 _ _ (s2 _ _ eq1), (eu.s s2).s s3⟩)
  · rintro σ H1 ⟨z8, rfl, eq1, _⟩
    exact k z8 H1
theorem pl_t3 {v0 v1 v2 : V} {σ : L2.St} {H : Hp} {Q : VK} (k : ∀ p, H p = none → Q (.ref p) (upd H p (.tup [v0, v1, v2]))) : tTup (tCons (tC v0) (tCons (tC v1) (tCons (tC v2) tNil))) σ H Q := ⟨by show 3 ≤ sizeLine; decide, k⟩
theorem pl_t5 {v0 v1 v2 v3 v4 : V} {σ : L2.St} {H : Hp} {Q : VK} (k : ∀ p, H p = none → Q (.ref p) (upd H p (.tup [v0, v1, v2, v3, v4]))) : tTup (tCons (tC v0) (tCons (tC v1) (tCons (tC v2) (tCons (tC v3) (tCons (tC v4) tNil))))) σ H Q := ⟨by show 5 ≤ sizeLine; decide, k⟩
theorem o5 : Ord [3, 0, 4, 1, 2] := ⟨by decide, by decide, by decide⟩
theorem o3 : Ord [2, 0, 1] := ⟨by decide, by decide, by decide⟩
theorem o1 : Ord [0] := ⟨by decide, by decide, by decide⟩
theorem e16 {σ : L2.St} (k : ∀ H', rest D σ H') :
    tSeq (tIfS (tOr (tTest (tOp (rNeD K) (tCall (spOne CO opp) [] E0 (tCons (tTup (tCons (tC (.int 3)) (tCons (tC (.int 0)) (tCons (tC (.int 4)) (tCons (tC (.int 1)) (tCons (tC (.int 2)) tNil)))))) tNil)) (tTup (tCons (tC (.int 1)) (tCons (tC (.int 3)) (tCons (tC (.int 4)) (tCons (tC (.int 0)) (tCons (tC (.int 2)) tNil))))))))
      (tTest (tOp (rNeD K) (tCall (spLed CO CU) [] E0 (tCons (tTup (tCons (tC (.int 2)) (tCons (tC (.int 0)) (tCons (tC (.int 1)) tNil)))) (tCons (tTup (tCons (tC (.int 2)) (tCons (tC (.int 0)) (tCons (tC (.int 1)) tNil)))) tNil))) (tTup (tCons (tC (.int 1)) (tCons (tC (.int 2)) (tCons (tC (.int 0)) tNil))))))) tBad tNext) rest D σ H := by
  refine pl_seq (pl_if (pl_or (pl_test (pl_op (pl_call (pl_cons (pl_t5 fun x nx => pl_nil ?_)))))))
  have ex : At (upd H x (.tup [.int 3, .int 0, .int 4, .int 1, .int 2])) x (tn [3, 0, 4, 1, 2]) := .of upd_same
  refine go_one ex o5 fun y H1 ny s1 ey => pl_t5 fun z nz => ne_t (a := opp [3, 0, 4, 1, 2]) (b := [1, 3, 4, 0, 2]) (tl_of (ey.s (same_new nz))) (tl_of (.of upd_same)) (by decide) (iteF ?_)
  refine pl_test (pl_op (pl_call (pl_cons (pl_t3 fun u nu => pl_cons (pl_t3 fun v nv => pl_nil ?_)))))
  have eu := (At.of (xs := tn [2, 0, 1]) (upd_same (a := u))).s (same_new (o := .tup [.int 2, .int 0, .int 1]) nv)
  refine go_led (ns := [2, 0, 1]) (ms := [2, 0, 1]) eu (.of upd_same) o3 o3 rfl fun r H2 nr s2 er => pl_t3 fun t nt => ne_t (a := ledN [2, 0, 1] [2, 0, 1]) (b := [1, 2, 0]) (tl_of (er.s (same_new nt))) (tl_of (.of upd_same)) (by decide) (iteF (k _))
theorem e17 {σ : L2.St} (k : ∀ H', D.rt (.bl true) H') :
    tRet (tAndV (tOp (rEqD K) (tCall (spOne CO overN) [] E0 (tCons (tTup (tCons (tC (.int 3)) (tCons (tC (.int 0)) (tCons (tC (.int 4)) (tCons (tC (.int 1)) (tCons (tC (.int 2)) tNil)))))) tNil)) (tTup (tCons (tC (.int 1)) (tCons (tC (.int 4)) (tCons (tC (.int 0)) (tCons (tC (.int 3)) (tCons (tC (.int 2)) tNil)))))))
      (tOp rIsB (tCall spIsOrder [] E0 (tCons (tTup (tCons (tC (.int 0)) tNil)) tNil)) (tC (.bl true)))) D σ H := by
  refine pl_ret (pl_op (pl_call (pl_cons (pl_t5 fun x nx => pl_nil ?_))))
  have ex : At (upd H x (.tup [.int 3, .int 0, .int 4, .int 1, .int 2])) x (tn [3, 0, 4, 1, 2]) := .of upd_same
  refine go_one ex o5 fun y H1 ny s1 ey => pl_t5 fun z nz => eq_t (a := overN [3, 0, 4, 1, 2]) (b := [1, 4, 0, 3, 2]) (tl_of (ey.s (same_new nz))) (tl_of (.of upd_same)) (by decide) ⟨true, rfl, iteT ?_⟩
  refine pl_op (pl_call (pl_cons (pl_t1 fun u nu => pl_nil ⟨_, rfl, okv_ord (ns := [0]) o1 (.of upd_same), fun t H2 s2 ht => pl_c ?_⟩)))
  have e := ht.mpr (ordV_of (ns := [0]) (.of upd_same) o1)
  subst e
  exact ⟨true, true, rfl, rfl, k H2⟩
end
end Wo
/-! WoZc -/
namespace Wo
open PySem PySem.Spec PyProof.Rows L2 WoR WoK LamX
section
variable {P : Program} {w : World} {K : PySem.W.Frag}
    {mg : Str → Option Value} {base : Heap}
theorem law_body {f c Pt CO CU CM COE L : Addr} {scr : List Int} {lab : Addr → Str} {A : Around} {outer : List Env} {s : Shared} {H : Hp} {Q : VK} {E : XK} (T : Bi mg) (Dp' : Defs P w K mg base CO CU CM) (O : Own P w K mg base CO CU CM COE) (TB : TabB base mg c Pt) (hr : Room 9 (A.deeper (envOfC "law" (defScope sLaw) s.heap.objs.size f (.ref c))))
    (nO : NameIs K mg CO (lab CO) ∧ PySem.W.exmOne K (.ref CO) (.ref COE) = some true) (nU : NameIs K mg CU (lab CU) ∧ PySem.W.exmOne K (.ref CU) (.ref COE) = some true) (nM : NameIs K mg CM (lab CM) ∧ PySem.W.exmOne K (.ref CM) (.ref COE) = some true)
    (lO : lab CO = "order") (lU : lab CU = "unlike") (lM : lab CM = "many") (hS : SqL K H L (scr.map V.int)) (hl : scr.length ≤ 1000) (tabs : Tabs [(Pt, lamQ)] H) (q : ∀ H', Q (.bl true) H') :
    ∃ t, PSs (lawCx P w K mg base f (.ref c) A outer s H E) (defBody sLaw) t ∧ t { nx := fun _ H' => Q .non H', rt := Q } (L2.start lawN [V.ref L]) H := by
  obtain ⟨fP, fdP, gP, kP, bP, GP⟩ := O.pot
  obtain ⟨fM, fdM, gM, kM, bM, GM⟩ := O.many
  obtain ⟨fD, fdD, gD, kD, bD, GD⟩ := O.ord
  obtain ⟨fI, fdI, gI, kI, bI, GI⟩ := O.isO
  obtain ⟨fR, fdR, gR, kR, bR, GR⟩ := O.right
  obtain ⟨fB, fdB, gB, kB, bB, GB⟩ := O.bad
  obtain ⟨fW, fdW, WD⟩ := O.words
  have GW := ok_words (kk := 7) WD (by decide)
  obtain ⟨fO, fdO, gO, kO, bO, GO⟩ := Dp'.op
  obtain ⟨fA, fdA, gA, kA, bA, GA⟩ := Dp'.about
  obtain ⟨fV, fdV, gV, kV, bV, GV⟩ := Dp'.over
  obtain ⟨fL, fdL, gL, kL, bL, GL⟩ := Dp'.led
  obtain ⟨fN, fdN, gN, kN, bN, GN⟩ := Dp'.plain
  obtain ⟨fZ, fdZ, gZ, kZ, bZ, GZ⟩ := Dp'.last
  have r1 := hr.mono (show 1 ≤ 9 by decide)
  have r3 := hr.mono (show 3 ≤ 9 by decide)
  have r4 := hr.mono (show 4 ≤ 9 by decide)
  have r6 := hr.mono (show 6 ≤ 9 by decide)
  have r7 := hr.mono (show 7 ≤ 9 by decide)
  have r8 := hr.mono (show 8 ≤ 9 by decide)
  refine ⟨_, pss_cons (ps_set (i := 1) scLaw.nd rfl (.inl rfl) (pe_call GP r1 (by rfl) gP kP bP .nil pass0 (pa_cons (pv 0) (pa_cons pe_int pa_nil))))
    (pss_cons (ps_set (i := 2) scLaw.nd rfl (.inl rfl) (pe_call GM r3 (by rfl) gM kM bM .nil pass0 (pa_cons (pv 1) pa_nil)))
    (pss_cons (ps_asg (pe_tup (pa_cons (pe_call GD r3 (by rfl) gD kD bD .nil pass0 (pa_cons (pv 1) (pa_cons (pv 2) pa_nil))) (pa_cons (pe_call GD r3 (by rfl) gD kD bD .nil pass0 (pa_cons (pv 1) (pa_cons (pv 2) pa_nil))) pa_nil)))
      (pg_tup (n := 2) rfl (pgs_cons (pg_name (i := 3) scLaw.nd rfl (.inr rfl)) (pgs_cons (pg_name (i := 4) scLaw.nd rfl (.inl rfl)) pgs_nil))))
    (pss_cons (ps_set (i := 5) scLaw.nd rfl (.inl rfl) (pe_call GD r3 (by rfl) gD kD bD .nil pass0 (pa_cons (pv 1) (pa_cons (pv 2) pa_nil))))
    (pss_cons (ps_if (PW.pt (pw_or (pt_cmpR op_notBl (pe_call GI r4 (by rfl) gI kI bI .nil pass0 (pa_cons (pv 3) pa_nil)) pe_bl (nomark _)) (pw_or1 (pt_not (pt_val (pe_call GR r8 (by rfl) gR kR bR .nil pass0 (pa_cons (pv 3) (pa_cons (pv 4) pa_nil)))))))) (pss_one (ps_ret pe_bl)) pss_nil)
    (pss_cons (ps_if (pt_cmpR (op_neD hr.units) (pe_call GL r7 (by rfl) gL kL bL .nil passN (pa_cons (pe_call GL r7 (by rfl) gL kL bL .nil passN (pa_cons (pv 3) (pa_cons (pv 4) pa_nil))) (pa_cons (pv 5) pa_nil)))
        (pe_call GL r7 (by rfl) gL kL bL .nil passN (pa_cons (pv 3) (pa_cons (pe_call GL r7 (by rfl) gL kL bL .nil passN (pa_cons (pv 4) (pa_cons (pv 5) pa_nil))) pa_nil))) (nomark _)) (pss_one (ps_ret pe_bl)) pss_nil)
    (pss_cons (ps_if (PW.pt (pw_or (pt_cmpR (op_neD hr.units) (pe_call GN r4 (by rfl) gN kN bN .nil passN (pa_cons (pv 2) pa_nil)) (pe_tupRg rfl (by rfl) T.tuple (prg_1 (by rfl) T.range (pv 2))) (nomark _))
        (pw_or1 (pt_cmpR (op_neD hr.units) (pe_call GZ r4 (by rfl) gZ kZ bZ .nil passN (pa_cons (pv 2) pa_nil)) (pe_revT (pe_tupRg rfl (by rfl) T.tuple (prg_1 (by rfl) T.range (pv 2)))) (nomark _))))) (pss_one (ps_ret pe_bl)) pss_nil)
    (pss_cons (ps_set (i := 6) scLaw.nd rfl (.inl rfl) (pe_call0 GB r1 (by rfl) gB kB bB .nil pass0))
    (pss_cons (ps_if (pt_cmpR (op_neD hr.units) (pe_lc (own := [("_law_odd", 7)]) (g := gName 7) rfl scLaw.nd (pi_list (pv 6)) (blkOk_by (N := lawN) (sc := defScope sLaw) (by decide +kernel)) (fun _ _ _ _ _ => pg_name (i := 7) scLaw.nd rfl (Or.inl rfl))
        (tt := tTest (tOp rNotB (tCall spIsOrder [] E0 (tCons (tVar 7) tNil)) (tC (.bl false)))) (te := tVar 7)
        (fun _ _ _ _ _ => pts_one (pt_cmpR op_notBl (pe_call GI r4 (by rfl) gI kI bI .nil pass0 (pa_cons (pv 7) pa_nil)) pe_bl (nomark _))) (fun _ _ _ _ _ => pv 7)) (pe_lst pa_nil) (nomark _)) (pss_one (ps_ret pe_bl)) pss_nil)
    (pss_cons (ps_for PassesOwn.never rfl (pi_tup (pe_tup (pa_cons (pe_glob (v := .ref fO) (by rfl) gO rfl) (pa_cons (pe_glob (v := .ref fA) (by rfl) gA rfl) (pa_cons (pe_glob (v := .ref fV) (by rfl) gV rfl) pa_nil))))) (pg_name (i := 8) scLaw.nd rfl (.inl rfl))
        (pss_one (ps_if (pt_cmpR (op_neD hr.units) (pe_call GW r8 (by rfl) WD.gW WD.F.kp WD.bW .nil pass0 (pa_cons (pv 8) (pa_cons (pv 6) pa_nil))) (pe_op op_rep (pe_lst (pa_cons pe_str pa_nil)) (pe_callB call_len_seq (by rfl) T.len PySem.boot_len (pa_cons (pv 6) pa_nil))) (nomark _)) (pss_one (ps_ret pe_bl)) pss_nil)))
    (pss_cons (ps_if (pt_cmpR (op_neD hr.units) (pe_lamW (T := [(Pt, lamQ)]) (i := 7) (a := "_law_odd") (k := 7) (t := tLedN CO CU) WD (by rfl) rfl rfl TB rfl (List.mem_singleton_self _) (fun p hp _ => by rw [List.mem_singleton.mp hp]; rfl) hr (by decide) (lam1_by (by rfl)) scLaw.nd rfl (by rfl) (fun _ _ _ _ _ _ => rfl)
        (fun A outer s H E f c' hr2 => pe_call GL hr2 (by rfl) gL kL bL .nil (passX (L2N.takes_of rfl rfl rfl rfl)) (pa_cons (pv 7) (pa_cons pe_non pa_nil))) (pv 6) (by rfl) (by rfl)) (pe_op op_rep (pe_lst (pa_cons pe_str pa_nil)) (pe_callB call_len_seq (by rfl) T.len PySem.boot_len (pa_cons (pv 6) pa_nil))) (nomark _)) (pss_one (ps_ret pe_bl)) pss_nil)
    (pss_cons (ps_if (pt_cmpR (op_neD hr.units) (pe_lamW (T := [(Pt, lamQ)]) (i := 7) (a := "_law_odd") (k := 7) (t := tLedO CO CU) WD (by rfl) rfl rfl TB rfl (List.mem_singleton_self _) (fun p hp _ => by rw [List.mem_singleton.mp hp]; rfl) hr (by decide) (lam1_by (by rfl)) scLaw.nd rfl (by rfl) (fun _ _ _ _ _ _ => rfl)
        (fun A outer s H E f c' hr2 => pe_call GL hr2 (by rfl) gL kL bL .nil (passX (L2N.takes_of rfl rfl rfl rfl)) (pa_cons (pv 3) (pa_cons (pv 7) pa_nil))) (pv 6) (by rfl) (by rfl)) (pe_op op_rep (pe_lst (pa_cons pe_str pa_nil)) (pe_callB call_len_seq (by rfl) T.len PySem.boot_len (pa_cons (pv 6) pa_nil))) (nomark _)) (pss_one (ps_ret pe_bl)) pss_nil)
    (pss_cons (ps_if (pt_cmpR (op_neD hr.units) (pe_lamW (T := [(Pt, lamQ)]) (i := 7) (a := "_law_odd") (k := 7) (t := tLedO CO CU) WD (by rfl) rfl rfl TB rfl (List.mem_singleton_self _) (fun p hp _ => by rw [List.mem_singleton.mp hp]; rfl) hr (by decide) (lam1_by (by rfl)) scLaw.nd rfl (by rfl) (fun _ _ _ _ _ _ => rfl)
        (fun A outer s H E f c' hr2 => pe_call GL hr2 (by rfl) gL kL bL .nil (passX (L2N.takes_of rfl rfl rfl rfl)) (pa_cons (pv 3) (pa_cons (pv 7) pa_nil)))
        (pe_lst (pa_cons (pe_call GD r3 (by rfl) gD kD bD .nil pass0 (pa_cons (pv 1) (pa_cons (pe_op op_add (pe_op op_mod (pv 2) pe_int) pe_int) pa_nil))) pa_nil)) (by rfl) (by rfl)) (pe_lst (pa_cons pe_str pa_nil)) (nomark _)) (pss_one (ps_ret pe_bl)) pss_nil)
    (pss_cons (ps_set (i := 9) scLaw.nd rfl (.inl rfl) (pe_lst (pa_cons pe_non (pa_cons pe_int (pa_cons pe_int (pa_cons pe_bl (pa_cons pe_str (pa_cons (pe_un un_neg pe_int) pa_nil))))))))
    (pss_cons (ps_for PassesOwn.never rfl (pi_tup (pe_tup (pa_cons (pe_glob (v := .ref fN) (by rfl) gN rfl) (pa_cons (pe_glob (v := .ref fZ) (by rfl) gZ rfl) pa_nil)))) (pg_name (i := 8) scLaw.nd rfl (.inl rfl))
        (pss_one (ps_if (pt_cmpR (op_neD hr.units) (pe_call GW r8 (by rfl) WD.gW WD.F.kp WD.bW .nil pass0 (pa_cons (pv 8) (pa_cons (pv 9) pa_nil))) (pe_op op_rep (pe_lst (pa_cons pe_str pa_nil)) pe_int) (nomark _)) (pss_one (ps_ret pe_bl)) pss_nil)))
    (pss_cons (ps_if (PW.pt (pw_or (pt_cmpR (op_neD hr.units) (pe_call GO r6 (by rfl) gO kO bO .nil passN (pa_cons (pe_tup (pa_cons pe_int (pa_cons pe_int (pa_cons pe_int (pa_cons pe_int (pa_cons pe_int pa_nil)))))) pa_nil)) (pe_tup (pa_cons pe_int (pa_cons pe_int (pa_cons pe_int (pa_cons pe_int (pa_cons pe_int pa_nil)))))) (nomark _))
        (pw_or1 (pt_cmpR (op_neD hr.units) (pe_call GL r7 (by rfl) gL kL bL .nil passN (pa_cons (pe_tup (pa_cons pe_int (pa_cons pe_int (pa_cons pe_int pa_nil)))) (pa_cons (pe_tup (pa_cons pe_int (pa_cons pe_int (pa_cons pe_int pa_nil)))) pa_nil))) (pe_tup (pa_cons pe_int (pa_cons pe_int (pa_cons pe_int pa_nil)))) (nomark _))))) (pss_one (ps_ret pe_bl)) pss_nil)
    (pss_one (ps_ret (pe_and (pe_cmpR (op_eqD hr.units) (pe_call GV r6 (by rfl) gV kV bV .nil passN (pa_cons (pe_tup (pa_cons pe_int (pa_cons pe_int (pa_cons pe_int (pa_cons pe_int (pa_cons pe_int pa_nil)))))) pa_nil)) (pe_tup (pa_cons pe_int (pa_cons pe_int (pa_cons pe_int (pa_cons pe_int (pa_cons pe_int pa_nil)))))) (nomark _))
      (pe_one (pe_cmpR op_isBl (pe_call GI r4 (by rfl) gI kI bI .nil pass0 (pa_cons (pe_tup (pa_cons pe_int pa_nil)) pa_nil)) pe_bl (nomark _))))))))))))))))))))), ?_⟩
  refine d1 hS hl tabs fun p H1 pa t1 => ?_
  refine d2 pa t1 fun m H2 m1 m2 pa2 t2 => ?_
  refine d3 m1 m2 pa2 t2 fun a b ns ms H3 en em on om fa fb pa3 t3 => ?_
  refine d4 m1 m2 en em on om fa fb pa3 t3 fun c3 ks H4 R4 => ?_
  subst en
  refine e5 R4 fun H5 R5 => ?_
  refine e6 R5 fun H6 R6 => ?_
  refine e7 R6 fun H7 R7 => ?_
  refine e8 R7 fun l xs H8 R8 B8 => ?_
  refine e9 R8 B8 fun H9 R9 B9 => ?_
  refine f10 (lab := lab) (fun fc hfc => ?_) nO lO R9 B9 fun y8 H10 R10 B10 => ?_
  · simp only [List.mem_cons, List.not_mem_nil, or_false] at hfc
    rcases hfc with rfl | rfl | rfl
    · exact ⟨fO, rfl, 6, fdO, "order", _, GO, by decide, kO, bO, fun H xs h => cal_one h⟩
    · exact ⟨fA, rfl, 6, fdA, "order", _, GA, by decide, kA, bA, fun H xs h => cal_one h⟩
    · exact ⟨fV, rfl, 6, fdV, "order", _, GV, by decide, kV, bV, fun H xs h => cal_one h⟩
  refine g11 (lab := lab) nO lO R10 B10 fun H11 R11 B11 => ?_
  refine g12 (lab := lab) nO lO R11 B11 fun H12 R12 B12 => ?_
  refine g13 (lab := lab) nU lU R12 fun H13 => ?_
  refine e14 fun q9 H14 e9 => ?_
  refine f15 (lab := lab) (fun fc hfc => ?_) nM lM e9 fun y8' H15 => ?_
  · simp only [List.mem_cons, List.not_mem_nil, or_false] at hfc
    rcases hfc with rfl | rfl
    · exact ⟨fN, rfl, 4, fdN, "many", _, GN, by decide, kN, bN, fun H xs h => cal_mk h⟩
    · exact ⟨fZ, rfl, 4, fdZ, "many", _, GZ, by decide, kZ, bZ, fun H xs h => cal_mk h⟩
  refine e16 fun H16 => ?_
  exact e17 fun H17 => q H17
end
end Wo
/-! WoZd -/
namespace Wo
open PySem PySem.Spec PyProof.Rows L2 WoR WoK LamX
def spLaw (K : PySem.W.Frag) (Pt : Addr) : Sp := fun vs H Q _ => ∃ (L : Addr) (scr : List Int), vs = [.ref L] ∧ SqL K H L (scr.map V.int) ∧ scr.length ≤ 1000 ∧ Tabs [(Pt, lamQ)] H ∧ ∀ H', Q (.bl true) H'
theorem kit_self {K : PySem.W.Frag} {D : Addr} : PySem.W.kitOne K (.ref D) (.ref D) = some true := if_pos (beq_self_eq_true _)
theorem kit_no {K : PySem.W.Frag} {D C : Addr} {b : Bool} (n : D ≠ C) (i : PySem.W.isClsIn K C = true) (t : PySem.W.typeIn K (.ref C) = some (.type "type")) (s : PySem.W.subIn K (.ref D) (.ref C) = some b) : PySem.W.kitOne K (.ref D) (.ref C) = some b := by
  have i' : (PySem.W.clsIn K C).isSome = true := i
  have g : ((PySem.W.clsIn K C).isSome && PySem.W.typeIn K (.ref C) == some (.type "type")) = true := by
    rw [i', t]
    rfl
  refine (if_neg fun z => n (Value.ref.inj (beq_iff_eq.mp z))).trans ?_
  show (if ((PySem.W.clsIn K C).isSome && PySem.W.typeIn K (.ref C) == some (.type "type")) = true then PySem.W.subIn K (.ref D) (.ref C) else none) = some b
  rw [if_pos g]
  exact s
theorem exm_by {K : PySem.W.Frag} {D C : Addr} {b : Bool} (h : PySem.W.subIn K (.ref C) (.type "BaseException") = some true) (i : PySem.W.isClsIn K C = true) (t : PySem.W.typeIn K (.ref C) = some (.type "type")) (s : PySem.W.subIn K (.ref D) (.ref C) = some b) : PySem.W.exmOne K (.ref D) (.ref C) = some b := by
  have i' : (PySem.W.clsIn K C).isSome = true := i
  have g : ((PySem.W.clsIn K C).isSome && PySem.W.typeIn K (.ref C) == some (.type "type")) = true := by
    rw [i', t]
    rfl
  have e : (PySem.W.subIn K (.ref C) (.type "BaseException") == some true) = true := by
    rw [h]
    rfl
  refine (if_pos e).trans ?_
  show (if ((PySem.W.clsIn K C).isSome && PySem.W.typeIn K (.ref C) == some (.type "type")) = true then PySem.W.subIn K (.ref D) (.ref C) else none) = some b
  rw [if_pos g]
  exact s
def labOf (CO CM : Addr) : Addr → Str := fun D => if D = CO then "order" else if D = CM then "many" else "unlike"

theorem all_mk {l : PySem.W.OpenLaw} {w : World} {K : PySem.W.Frag} {h : Heap} {mg : Str → Option Value} {fa : Addr} (X : K.In h) (G : h.Ns mainGlobals mg) (hfa : mg "law" = some (.ref fa)) (OT : OwnTab K fa h)
    {f1 f2 f3 f4 f5 f6 f7 f8 f9 f10 f11 f12 f13 f14 f15 f16 f17 f18 f19 f20 f21 f22 f23 f24 fa0 c Pt : Addr}
    {C0 C1 C2 C3 C4 C5 C6 C7 C8 C9 CA : Addr}
    {od1 an1 : Option Addr} {sl1 : Array (Option Value)} {oc1 kV1 dc1 pm1 cd1 ct1 : Value}
    {od2 an2 : Option Addr} {sl2 : Array (Option Value)} {oc2 kV2 dc2 pm2 cd2 ct2 : Value}
    {od3 an3 : Option Addr} {sl3 : Array (Option Value)} {oc3 kV3 dc3 pm3 cd3 ct3 : Value}
    {od4 an4 : Option Addr} {sl4 : Array (Option Value)} {oc4 kV4 dc4 pm4 cd4 ct4 : Value}
    {od5 an5 : Option Addr} {sl5 : Array (Option Value)} {oc5 kV5 dc5 pm5 cd5 ct5 : Value}
    {od6 an6 : Option Addr} {sl6 : Array (Option Value)} {oc6 kV6 dc6 pm6 cd6 ct6 : Value}
    {od7 an7 : Option Addr} {sl7 : Array (Option Value)} {oc7 kV7 dc7 pm7 cd7 ct7 : Value}
    {od8 an8 : Option Addr} {sl8 : Array (Option Value)} {oc8 kV8 dc8 pm8 cd8 ct8 : Value}
    {od9 an9 : Option Addr} {sl9 : Array (Option Value)} {oc9 kV9 dc9 pm9 cd9 ct9 : Value}
    {od10 an10 : Option Addr} {sl10 : Array (Option Value)} {oc10 kV10 dc10 pm10 cd10 ct10 : Value}
    {od11 an11 : Option Addr} {sl11 : Array (Option Value)} {oc11 kV11 dc11 pm11 cd11 ct11 : Value}
    {od12 an12 : Option Addr} {sl12 : Array (Option Value)} {oc12 kV12 dc12 pm12 cd12 ct12 : Value}
    {od13 an13 : Option Addr} {sl13 : Array (Option Value)} {oc13 kV13 dc13 pm13 cd13 ct13 : Value}
    {od14 an14 : Option Addr} {sl14 : Array (Option Value)} {oc14 kV14 dc14 pm14 cd14 ct14 : Value}
    {od15 an15 : Option Addr} {sl15 : Array (Option Value)} {oc15 kV15 dc15 pm15 cd15 ct15 : Value}
    {od16 an16 : Option Addr} {sl16 : Array (Option Value)} {oc16 kV16 dc16 pm16 cd16 ct16 : Value}
    {od17 an17 : Option Addr} {sl17 : Array (Option Value)} {oc17 kV17 dc17 pm17 cd17 ct17 : Value}
    {od18 an18 : Option Addr} {sl18 : Array (Option Value)} {oc18 kV18 dc18 pm18 cd18 ct18 : Value}
    {od19 an19 : Option Addr} {sl19 : Array (Option Value)} {oc19 kV19 dc19 pm19 cd19 ct19 : Value}
    {od20 an20 : Option Addr} {sl20 : Array (Option Value)} {oc20 kV20 dc20 pm20 cd20 ct20 : Value}
    {od21 an21 : Option Addr} {sl21 : Array (Option Value)} {oc21 kV21 dc21 pm21 cd21 ct21 : Value}
    {od22 an22 : Option Addr} {sl22 : Array (Option Value)} {oc22 kV22 dc22 pm22 cd22 ct22 : Value}
    {od23 an23 : Option Addr} {sl23 : Array (Option Value)} {oc23 kV23 dc23 pm23 cd23 ct23 : Value}
    {od24 an24 : Option Addr} {sl24 : Array (Option Value)} {oc24 kV24 dc24 pm24 cd24 ct24 : Value}
    {odL anL : Option Addr} {slL : Array (Option Value)} {ocL kVL dcL pmL ctL : Value} {cdd : Option Addr} {cvs : Array Value} {csl : Array (Option Value)} {tN : Tok} {cfi : Str} {ctf : Tok} {cfl : Int} {ctg : Tok} {cin : Bool} {ctx : Int} {ctt : Tok}
    (a1 : PySem.W.nsIn K mainGlobals "is_integer" = some (some (.ref f1)))
    (l1 : K.lookup f1 = some ⟨oc1, od1, .func (PySem.W.fnOf "is_integer" "is_integer" (defArgs sInt) (defBody sInt) (defScope sInt) .none kV1 dc1 pm1 an1 cd1 ct1), sl1⟩)
    (c1 : PySem.W.codeIn K cd1 "is_integer" = true)
    (k1 : PySem.W.keepIn K (.ref f1) = true)
    (a2 : PySem.W.nsIn K mainGlobals "is_within" = some (some (.ref f2)))
    (l2 : K.lookup f2 = some ⟨oc2, od2, .func (PySem.W.fnOf "is_within" "is_within" (defArgs sWithin) (defBody sWithin) (defScope sWithin) .none kV2 dc2 pm2 an2 cd2 ct2), sl2⟩)
    (c2 : PySem.W.codeIn K cd2 "is_within" = true)
    (k2 : PySem.W.keepIn K (.ref f2) = true)
    (a3 : PySem.W.nsIn K mainGlobals "are_within" = some (some (.ref f3)))
    (l3 : K.lookup f3 = some ⟨oc3, od3, .func (PySem.W.fnOf "are_within" "are_within" (defArgs sAre) (defBody sAre) (defScope sAre) .none kV3 dc3 pm3 an3 cd3 ct3), sl3⟩)
    (c3 : PySem.W.codeIn K cd3 "are_within" = true)
    (k3 : PySem.W.keepIn K (.ref f3) = true)
    (a4 : PySem.W.nsIn K mainGlobals "is_order" = some (some (.ref f4)))
    (l4 : K.lookup f4 = some ⟨oc4, od4, .func (PySem.W.fnOf "is_order" "is_order" (defArgs sIsOrder) (defBody sIsOrder) (defScope sIsOrder) .none kV4 dc4 pm4 an4 cd4 ct4), sl4⟩)
    (c4 : PySem.W.codeIn K cd4 "is_order" = true)
    (k4 : PySem.W.keepIn K (.ref f4) = true)
    (a5 : PySem.W.nsIn K mainGlobals "check_order" = some (some (.ref f5)))
    (l5 : K.lookup f5 = some ⟨oc5, od5, .func (PySem.W.fnOf "check_order" "check_order" (defArgs sChk) (defBody sChk) (defScope sChk) .none kV5 dc5 pm5 an5 cd5 ct5), sl5⟩)
    (c5 : PySem.W.codeIn K cd5 "check_order" = true)
    (k5 : PySem.W.keepIn K (.ref f5) = true)
    (a6 : PySem.W.nsIn K mainGlobals "check_orders" = some (some (.ref f6)))
    (l6 : K.lookup f6 = some ⟨oc6, od6, .func (PySem.W.fnOf "check_orders" "check_orders" (defArgs sChks) (defBody sChks) (defScope sChks) .none kV6 dc6 pm6 an6 cd6 ct6), sl6⟩)
    (c6 : PySem.W.codeIn K cd6 "check_orders" = true)
    (k6 : PySem.W.keepIn K (.ref f6) = true)
    (a7 : PySem.W.nsIn K mainGlobals "check_many" = some (some (.ref f7)))
    (l7 : K.lookup f7 = some ⟨oc7, od7, .func (PySem.W.fnOf "check_many" "check_many" (defArgs sMany) (defBody sMany) (defScope sMany) .none kV7 dc7 pm7 an7 cd7 ct7), sl7⟩)
    (c7 : PySem.W.codeIn K cd7 "check_many" = true)
    (k7 : PySem.W.keepIn K (.ref f7) = true)
    (a8 : PySem.W.nsIn K mainGlobals "plain_order" = some (some (.ref f8)))
    (l8 : K.lookup f8 = some ⟨oc8, od8, .func (PySem.W.fnOf "plain_order" "plain_order" (defArgs sPlain) (defBody sPlain) (defScope sPlain) .none kV8 dc8 pm8 an8 cd8 ct8), sl8⟩)
    (c8 : PySem.W.codeIn K cd8 "plain_order" = true)
    (k8 : PySem.W.keepIn K (.ref f8) = true)
    (a9 : PySem.W.nsIn K mainGlobals "last_order" = some (some (.ref f9)))
    (l9 : K.lookup f9 = some ⟨oc9, od9, .func (PySem.W.fnOf "last_order" "last_order" (defArgs sLast) (defBody sLast) (defScope sLast) .none kV9 dc9 pm9 an9 cd9 ct9), sl9⟩)
    (c9 : PySem.W.codeIn K cd9 "last_order" = true)
    (k9 : PySem.W.keepIn K (.ref f9) = true)
    (a10 : PySem.W.nsIn K mainGlobals "opposite" = some (some (.ref f10)))
    (l10 : K.lookup f10 = some ⟨oc10, od10, .func (PySem.W.fnOf "opposite" "opposite" (defArgs sOp) (defBody sOp) (defScope sOp) .none kV10 dc10 pm10 an10 cd10 ct10), sl10⟩)
    (c10 : PySem.W.codeIn K cd10 "opposite" = true)
    (k10 : PySem.W.keepIn K (.ref f10) = true)
    (a11 : PySem.W.nsIn K mainGlobals "opposite_in" = some (some (.ref f11)))
    (l11 : K.lookup f11 = some ⟨oc11, od11, .func (PySem.W.fnOf "opposite_in" "opposite_in" (defArgs sOpIn) (defBody sOpIn) (defScope sOpIn) .none kV11 dc11 pm11 an11 cd11 ct11), sl11⟩)
    (c11 : PySem.W.codeIn K cd11 "opposite_in" = true)
    (k11 : PySem.W.keepIn K (.ref f11) = true)
    (a12 : PySem.W.nsIn K mainGlobals "led" = some (some (.ref f12)))
    (l12 : K.lookup f12 = some ⟨oc12, od12, .func (PySem.W.fnOf "led" "led" (defArgs sLed) (defBody sLed) (defScope sLed) .none kV12 dc12 pm12 an12 cd12 ct12), sl12⟩)
    (c12 : PySem.W.codeIn K cd12 "led" = true)
    (k12 : PySem.W.keepIn K (.ref f12) = true)
    (a13 : PySem.W.nsIn K mainGlobals "turned_about" = some (some (.ref f13)))
    (l13 : K.lookup f13 = some ⟨oc13, od13, .func (PySem.W.fnOf "turned_about" "turned_about" (defArgs sAbout) (defBody sAbout) (defScope sAbout) .none kV13 dc13 pm13 an13 cd13 ct13), sl13⟩)
    (c13 : PySem.W.codeIn K cd13 "turned_about" = true)
    (k13 : PySem.W.keepIn K (.ref f13) = true)
    (a14 : PySem.W.nsIn K mainGlobals "turned_over" = some (some (.ref f14)))
    (l14 : K.lookup f14 = some ⟨oc14, od14, .func (PySem.W.fnOf "turned_over" "turned_over" (defArgs sOver) (defBody sOver) (defScope sOver) .none kV14 dc14 pm14 an14 cd14 ct14), sl14⟩)
    (c14 : PySem.W.codeIn K cd14 "turned_over" = true)
    (k14 : PySem.W.keepIn K (.ref f14) = true)
    (a15 : PySem.W.nsIn K mainGlobals "_law_pot" = some (some (.ref f15)))
    (l15 : K.lookup f15 = some ⟨oc15, od15, .func (PySem.W.fnOf "_law_pot" "_law_pot" (defArgs sPot) (defBody sPot) (defScope sPot) .none kV15 dc15 pm15 an15 cd15 ct15), sl15⟩)
    (c15 : PySem.W.codeIn K cd15 "_law_pot" = true)
    (k15 : PySem.W.keepIn K (.ref f15) = true)
    (a16 : PySem.W.nsIn K mainGlobals "_law_dip" = some (some (.ref f16)))
    (l16 : K.lookup f16 = some ⟨oc16, od16, .func (PySem.W.fnOf "_law_dip" "_law_dip" (defArgs sDip) (defBody sDip) (defScope sDip) .none kV16 dc16 pm16 an16 cd16 ct16), sl16⟩)
    (c16 : PySem.W.codeIn K cd16 "_law_dip" = true)
    (k16 : PySem.W.keepIn K (.ref f16) = true)
    (a17 : PySem.W.nsIn K mainGlobals "_law_one" = some (some (.ref f17)))
    (l17 : K.lookup f17 = some ⟨oc17, od17, .func (PySem.W.fnOf "_law_one" "_law_one" (defArgs sOne) (defBody sOne) (defScope sOne) .none kV17 dc17 pm17 an17 cd17 ct17), sl17⟩)
    (c17 : PySem.W.codeIn K cd17 "_law_one" = true)
    (k17 : PySem.W.keepIn K (.ref f17) = true)
    (a18 : PySem.W.nsIn K mainGlobals "_law_order" = some (some (.ref f18)))
    (l18 : K.lookup f18 = some ⟨oc18, od18, .func (PySem.W.fnOf "_law_order" "_law_order" (defArgs sOrd) (defBody sOrd) (defScope sOrd) .none kV18 dc18 pm18 an18 cd18 ct18), sl18⟩)
    (c18 : PySem.W.codeIn K cd18 "_law_order" = true)
    (k18 : PySem.W.keepIn K (.ref f18) = true)
    (a19 : PySem.W.nsIn K mainGlobals "_law_many" = some (some (.ref f19)))
    (l19 : K.lookup f19 = some ⟨oc19, od19, .func (PySem.W.fnOf "_law_many" "_law_many" (defArgs sMany2) (defBody sMany2) (defScope sMany2) .none kV19 dc19 pm19 an19 cd19 ct19), sl19⟩)
    (c19 : PySem.W.codeIn K cd19 "_law_many" = true)
    (k19 : PySem.W.keepIn K (.ref f19) = true)
    (a20 : PySem.W.nsIn K mainGlobals "_law_name" = some (some (.ref f20)))
    (l20 : K.lookup f20 = some ⟨oc20, od20, .func (PySem.W.fnOf "_law_name" "_law_name" (defArgs sName) (defBody sName) (defScope sName) .none kV20 dc20 pm20 an20 cd20 ct20), sl20⟩)
    (c20 : PySem.W.codeIn K cd20 "_law_name" = true)
    (k20 : PySem.W.keepIn K (.ref f20) = true)
    (a21 : PySem.W.nsIn K mainGlobals "_law_words" = some (some (.ref f21)))
    (l21 : K.lookup f21 = some ⟨oc21, od21, .func (PySem.W.fnOf "_law_words" "_law_words" (defArgs sWords) (defBody sWords) (defScope sWords) .none kV21 dc21 pm21 an21 cd21 ct21), sl21⟩)
    (c21 : PySem.W.codeIn K cd21 "_law_words" = true)
    (k21 : PySem.W.keepIn K (.ref f21) = true)
    (a22 : PySem.W.nsIn K mainGlobals "_law_bad_orders" = some (some (.ref f22)))
    (l22 : K.lookup f22 = some ⟨oc22, od22, .func (PySem.W.fnOf "_law_bad_orders" "_law_bad_orders" (defArgs sBad) (defBody sBad) (defScope sBad) .none kV22 dc22 pm22 an22 cd22 ct22), sl22⟩)
    (c22 : PySem.W.codeIn K cd22 "_law_bad_orders" = true)
    (k22 : PySem.W.keepIn K (.ref f22) = true)
    (a23 : PySem.W.nsIn K mainGlobals "_law_right" = some (some (.ref f23)))
    (l23 : K.lookup f23 = some ⟨oc23, od23, .func (PySem.W.fnOf "_law_right" "_law_right" (defArgs sRight) (defBody sRight) (defScope sRight) .none kV23 dc23 pm23 an23 cd23 ct23), sl23⟩)
    (c23 : PySem.W.codeIn K cd23 "_law_right" = true)
    (k23 : PySem.W.keepIn K (.ref f23) = true)
    (a24 : PySem.W.nsIn K mainGlobals "led_in" = some (some (.ref f24)))
    (l24 : K.lookup f24 = some ⟨oc24, od24, .func (PySem.W.fnOf "led_in" "led_in" (defArgs sLedIn) (defBody sLedIn) (defScope sLedIn) .none kV24 dc24 pm24 an24 cd24 ct24), sl24⟩)
    (c24 : PySem.W.codeIn K cd24 "led_in" = true)
    (k24 : PySem.W.keepIn K (.ref f24) = true)
    (aL : PySem.W.nsIn K mainGlobals "law" = some (some (.ref fa0)))
    (lL : K.lookup fa0 = some ⟨ocL, odL, .func (PySem.W.fnOf "law" "law" (defArgs sLaw) (defBody sLaw) (defScope sLaw) .none kVL dcL pmL anL (.ref c) ctL), slL⟩)
    (cL : PySem.W.codeIn K (.ref c) "law" = true)
    (lc : K.lookup c = some ⟨.type "code", cdd, .fields cvs, csl⟩)
    (lv : cvs[11]? = some (.ref Pt))
    (lp : K.lookup Pt = none)
    (v11 : cvs.getD 11 .none = .ref Pt)
    (v18 : cvs.getD 18 .none = .str cfi ctf)
    (v7 : cvs.getD 7 .none = .int cfl ctg)
    (v9 : cvs.getD 9 .none = .bool cin)
    (v10 : cvs.getD 10 .none = .int ctx ctt)
    (ncp : c ≠ Pt)
    (aN : PySem.W.nsIn K mainGlobals "MOST_THINGS" = some (some (.int 30 tN)))
    (z0 : PySem.W.nsIn K mainGlobals "isinstance" = some none)
    (z1 : PySem.W.nsIn K mainGlobals "int" = some none)
    (z2 : PySem.W.nsIn K mainGlobals "bool" = some none)
    (z3 : PySem.W.nsIn K mainGlobals "tuple" = some none)
    (z4 : PySem.W.nsIn K mainGlobals "all" = some none)
    (z5 : PySem.W.nsIn K mainGlobals "len" = some none)
    (z6 : PySem.W.nsIn K mainGlobals "sorted" = some none)
    (z7 : PySem.W.nsIn K mainGlobals "list" = some none)
    (z8 : PySem.W.nsIn K mainGlobals "range" = some none)
    (z9 : PySem.W.nsIn K mainGlobals "reversed" = some none)
    (z10 : PySem.W.nsIn K mainGlobals "enumerate" = some none)
    (z11 : PySem.W.nsIn K mainGlobals "abs" = some none)
    (z12 : PySem.W.nsIn K mainGlobals "zip" = some none)
    (q0 : PySem.W.nsIn K mainGlobals "OrderError" = some (some (.ref C0)))
    (q1 : PySem.W.nsIn K mainGlobals "InvalidOrder" = some (some (.ref C1)))
    (q2 : PySem.W.nsIn K mainGlobals "InvalidMany" = some (some (.ref C2)))
    (q3 : PySem.W.nsIn K mainGlobals "InvalidExchange" = some (some (.ref C3)))
    (q4 : PySem.W.nsIn K mainGlobals "InvalidRow" = some (some (.ref C4)))
    (q5 : PySem.W.nsIn K mainGlobals "InvalidPairs" = some (some (.ref C5)))
    (q6 : PySem.W.nsIn K mainGlobals "InvalidCode" = some (some (.ref C6)))
    (q7 : PySem.W.nsIn K mainGlobals "InvalidNumber" = some (some (.ref C7)))
    (q8 : PySem.W.nsIn K mainGlobals "InvalidRings" = some (some (.ref C8)))
    (q9 : PySem.W.nsIn K mainGlobals "Unlike" = some (some (.ref C9)))
    (qA : PySem.W.nsIn K mainGlobals "TooMany" = some (some (.ref CA)))
    (hn : PySem.W.specialIn K (.builtin "object.__class__") "__get__" = some (some (.builtin "getset_descriptor.__get__")))
    (ht : PySem.W.takesIn K (.builtin "object.__class__") = some true)
    (sb0 : PySem.W.subIn K (.ref C0) (.type "BaseException") = some true)
    (ic0 : PySem.W.isClsIn K C0 = true)
    (ty0 : PySem.W.typeIn K (.ref C0) = some (.type "type"))
    (ic1 : PySem.W.isClsIn K C1 = true)
    (ty1 : PySem.W.typeIn K (.ref C1) = some (.type "type"))
    (ic2 : PySem.W.isClsIn K C2 = true)
    (ty2 : PySem.W.typeIn K (.ref C2) = some (.type "type"))
    (ic3 : PySem.W.isClsIn K C3 = true)
    (ty3 : PySem.W.typeIn K (.ref C3) = some (.type "type"))
    (ic4 : PySem.W.isClsIn K C4 = true)
    (ty4 : PySem.W.typeIn K (.ref C4) = some (.type "type"))
    (ic5 : PySem.W.isClsIn K C5 = true)
    (ty5 : PySem.W.typeIn K (.ref C5) = some (.type "type"))
    (ic6 : PySem.W.isClsIn K C6 = true)
    (ty6 : PySem.W.typeIn K (.ref C6) = some (.type "type"))
    (ic7 : PySem.W.isClsIn K C7 = true)
    (ty7 : PySem.W.typeIn K (.ref C7) = some (.type "type"))
    (ic8 : PySem.W.isClsIn K C8 = true)
    (ty8 : PySem.W.typeIn K (.ref C8) = some (.type "type"))
    (ic9 : PySem.W.isClsIn K C9 = true)
    (ty9 : PySem.W.typeIn K (.ref C9) = some (.type "type"))
    (icA : PySem.W.isClsIn K CA = true)
    (tyA : PySem.W.typeIn K (.ref CA) = some (.type "type"))
    (x1 : PySem.W.excIn K C1 [.type "ValueError", .type "Exception", .type "BaseException", .type "object"] "ValueError.__new__" = true)
    (kp1 : PySem.W.keepIn K (.ref C1) = true)
    (sb1 : PySem.W.subIn K (.ref C1) (.type "BaseException") = some true)
    (hg1 : PySem.W.findIn K (.ref C1) "__getattribute__" = some (some (.builtin "BaseException.__getattribute__")))
    (hk1 : PySem.W.findIn K (.ref C1) "__getattr__" = some none)
    (hd1 : PySem.W.hasDictIn K C1 = true)
    (ha1 : PySem.W.findIn K (.ref C1) "__class__" = some (some (.builtin "object.__class__")))
    (hm1 : PySem.W.mroIn K C1 (.type "object") = some true)
    (s10 : PySem.W.subIn K (.ref C1) (.ref C0) = some true)
    (s12 : PySem.W.subIn K (.ref C1) (.ref C2) = some false)
    (n12 : C1 ≠ C2)
    (s13 : PySem.W.subIn K (.ref C1) (.ref C3) = some false)
    (n13 : C1 ≠ C3)
    (s14 : PySem.W.subIn K (.ref C1) (.ref C4) = some false)
    (n14 : C1 ≠ C4)
    (s15 : PySem.W.subIn K (.ref C1) (.ref C5) = some false)
    (n15 : C1 ≠ C5)
    (s16 : PySem.W.subIn K (.ref C1) (.ref C6) = some false)
    (n16 : C1 ≠ C6)
    (s17 : PySem.W.subIn K (.ref C1) (.ref C7) = some false)
    (n17 : C1 ≠ C7)
    (s18 : PySem.W.subIn K (.ref C1) (.ref C8) = some false)
    (n18 : C1 ≠ C8)
    (s19 : PySem.W.subIn K (.ref C1) (.ref C9) = some false)
    (n19 : C1 ≠ C9)
    (s1A : PySem.W.subIn K (.ref C1) (.ref CA) = some false)
    (n1A : C1 ≠ CA)
    (x2 : PySem.W.excIn K C2 [.type "ValueError", .type "Exception", .type "BaseException", .type "object"] "ValueError.__new__" = true)
    (kp2 : PySem.W.keepIn K (.ref C2) = true)
    (sb2 : PySem.W.subIn K (.ref C2) (.type "BaseException") = some true)
    (hg2 : PySem.W.findIn K (.ref C2) "__getattribute__" = some (some (.builtin "BaseException.__getattribute__")))
    (hk2 : PySem.W.findIn K (.ref C2) "__getattr__" = some none)
    (hd2 : PySem.W.hasDictIn K C2 = true)
    (ha2 : PySem.W.findIn K (.ref C2) "__class__" = some (some (.builtin "object.__class__")))
    (hm2 : PySem.W.mroIn K C2 (.type "object") = some true)
    (s20 : PySem.W.subIn K (.ref C2) (.ref C0) = some true)
    (s21 : PySem.W.subIn K (.ref C2) (.ref C1) = some false)
    (n21 : C2 ≠ C1)
    (s23 : PySem.W.subIn K (.ref C2) (.ref C3) = some false)
    (n23 : C2 ≠ C3)
    (s24 : PySem.W.subIn K (.ref C2) (.ref C4) = some false)
    (n24 : C2 ≠ C4)
    (s25 : PySem.W.subIn K (.ref C2) (.ref C5) = some false)
    (n25 : C2 ≠ C5)
    (s26 : PySem.W.subIn K (.ref C2) (.ref C6) = some false)
    (n26 : C2 ≠ C6)
    (s27 : PySem.W.subIn K (.ref C2) (.ref C7) = some false)
    (n27 : C2 ≠ C7)
    (s28 : PySem.W.subIn K (.ref C2) (.ref C8) = some false)
    (n28 : C2 ≠ C8)
    (s29 : PySem.W.subIn K (.ref C2) (.ref C9) = some false)
    (n29 : C2 ≠ C9)
    (s2A : PySem.W.subIn K (.ref C2) (.ref CA) = some false)
    (n2A : C2 ≠ CA)
    (x9 : PySem.W.excIn K C9 [.type "ValueError", .type "Exception", .type "BaseException", .type "object"] "ValueError.__new__" = true)
    (kp9 : PySem.W.keepIn K (.ref C9) = true)
    (sb9 : PySem.W.subIn K (.ref C9) (.type "BaseException") = some true)
    (hg9 : PySem.W.findIn K (.ref C9) "__getattribute__" = some (some (.builtin "BaseException.__getattribute__")))
    (hk9 : PySem.W.findIn K (.ref C9) "__getattr__" = some none)
    (hd9 : PySem.W.hasDictIn K C9 = true)
    (ha9 : PySem.W.findIn K (.ref C9) "__class__" = some (some (.builtin "object.__class__")))
    (hm9 : PySem.W.mroIn K C9 (.type "object") = some true)
    (s90 : PySem.W.subIn K (.ref C9) (.ref C0) = some true)
    (s91 : PySem.W.subIn K (.ref C9) (.ref C1) = some false)
    (n91 : C9 ≠ C1)
    (s92 : PySem.W.subIn K (.ref C9) (.ref C2) = some false)
    (n92 : C9 ≠ C2)
    (s93 : PySem.W.subIn K (.ref C9) (.ref C3) = some false)
    (n93 : C9 ≠ C3)
    (s94 : PySem.W.subIn K (.ref C9) (.ref C4) = some false)
    (n94 : C9 ≠ C4)
    (s95 : PySem.W.subIn K (.ref C9) (.ref C5) = some false)
    (n95 : C9 ≠ C5)
    (s96 : PySem.W.subIn K (.ref C9) (.ref C6) = some false)
    (n96 : C9 ≠ C6)
    (s97 : PySem.W.subIn K (.ref C9) (.ref C7) = some false)
    (n97 : C9 ≠ C7)
    (s98 : PySem.W.subIn K (.ref C9) (.ref C8) = some false)
    (n98 : C9 ≠ C8)
    (s9A : PySem.W.subIn K (.ref C9) (.ref CA) = some false)
    (n9A : C9 ≠ CA)
    (d12 : C1 ≠ C2)
    (d19 : C1 ≠ C9)
    (d29 : C2 ≠ C9)
    : LawAtS l w K CX0 10 63 "_law_script" mg fa h := by
  have e := hfa.symm.trans (PySem.W.mg_of X G aL)
  cases e
  have T : Bi mg := ⟨PySem.W.mg_none_of X G z0, PySem.W.mg_none_of X G z1, PySem.W.mg_none_of X G z2, PySem.W.mg_none_of X G z3, PySem.W.mg_none_of X G z4, PySem.W.mg_none_of X G z5, PySem.W.mg_none_of X G z6, PySem.W.mg_none_of X G z7, PySem.W.mg_none_of X G z8, PySem.W.mg_none_of X G z9, PySem.W.mg_none_of X G z10, PySem.W.mg_none_of X G z11, PySem.W.mg_none_of X G z12⟩
  have F1 := fun_mk (st := sInt) l1 c1 k1
  have b1 := F1.binds (ps := ["value"]) fun _ _ _ _ _ _ us hl => match us, hl with | [_], _ => rfl
  have g1 := PySem.W.mg_of X G a1
  have F2 := fun_mk (st := sWithin) l2 c2 k2
  have b2 := F2.binds (ps := ["value", "low", "high"]) fun _ _ _ _ _ _ us hl => match us, hl with | [_, _, _], _ => rfl
  have g2 := PySem.W.mg_of X G a2
  have F3 := fun_mk (st := sAre) l3 c3 k3
  have b3 := F3.binds (ps := ["value", "low", "high"]) fun _ _ _ _ _ _ us hl => match us, hl with | [_, _, _], _ => rfl
  have g3 := PySem.W.mg_of X G a3
  have F4 := fun_mk (st := sIsOrder) l4 c4 k4
  have b4 := F4.binds (ps := ["value"]) fun _ _ _ _ _ _ us hl => match us, hl with | [_], _ => rfl
  have g4 := PySem.W.mg_of X G a4
  have F5 := fun_mk (st := sChk) l5 c5 k5
  have b5 := F5.binds (ps := ["value"]) fun _ _ _ _ _ _ us hl => match us, hl with | [_], _ => rfl
  have g5 := PySem.W.mg_of X G a5
  have F6 := fun_mk (st := sChks) l6 c6 k6
  have b6 := F6.binds (ps := ["one", "other"]) fun _ _ _ _ _ _ us hl => match us, hl with | [_, _], _ => rfl
  have g6 := PySem.W.mg_of X G a6
  have F7 := fun_mk (st := sMany) l7 c7 k7
  have b7 := F7.binds (ps := ["value"]) fun _ _ _ _ _ _ us hl => match us, hl with | [_], _ => rfl
  have g7 := PySem.W.mg_of X G a7
  have F8 := fun_mk (st := sPlain) l8 c8 k8
  have b8 := F8.binds (ps := ["many"]) fun _ _ _ _ _ _ us hl => match us, hl with | [_], _ => rfl
  have g8 := PySem.W.mg_of X G a8
  have F9 := fun_mk (st := sLast) l9 c9 k9
  have b9 := F9.binds (ps := ["many"]) fun _ _ _ _ _ _ us hl => match us, hl with | [_], _ => rfl
  have g9 := PySem.W.mg_of X G a9
  have F10 := fun_mk (st := sOp) l10 c10 k10
  have b10 := F10.binds (ps := ["order"]) fun _ _ _ _ _ _ us hl => match us, hl with | [_], _ => rfl
  have g10 := PySem.W.mg_of X G a10
  have F11 := fun_mk (st := sOpIn) l11 c11 k11
  have b11 := F11.binds (ps := ["order"]) fun _ _ _ _ _ _ us hl => match us, hl with | [_], _ => rfl
  have g11 := PySem.W.mg_of X G a11
  have F12 := fun_mk (st := sLed) l12 c12 k12
  have b12 := F12.binds (ps := ["one", "other"]) fun _ _ _ _ _ _ us hl => match us, hl with | [_, _], _ => rfl
  have g12 := PySem.W.mg_of X G a12
  have F13 := fun_mk (st := sAbout) l13 c13 k13
  have b13 := F13.binds (ps := ["order"]) fun _ _ _ _ _ _ us hl => match us, hl with | [_], _ => rfl
  have g13 := PySem.W.mg_of X G a13
  have F14 := fun_mk (st := sOver) l14 c14 k14
  have b14 := F14.binds (ps := ["order"]) fun _ _ _ _ _ _ us hl => match us, hl with | [_], _ => rfl
  have g14 := PySem.W.mg_of X G a14
  have F15 := fun_mk (st := sPot) l15 c15 k15
  have b15 := F15.binds (ps := ["_law_script", "_law_turn"]) fun _ _ _ _ _ _ us hl => match us, hl with | [_, _], _ => rfl
  have g15 := PySem.W.mg_of X G a15
  have F16 := fun_mk (st := sDip) l16 c16 k16
  have b16 := F16.binds (ps := ["_law_pot_here", "_law_many_here"]) fun _ _ _ _ _ _ us hl => match us, hl with | [_, _], _ => rfl
  have g16 := PySem.W.mg_of X G a16
  have F17 := fun_mk (st := sOne) l17 c17 k17
  have b17 := F17.binds (ps := ["_law_pot_here", "_law_some"]) fun _ _ _ _ _ _ us hl => match us, hl with | [_, _], _ => rfl
  have g17 := PySem.W.mg_of X G a17
  have F18 := fun_mk (st := sOrd) l18 c18 k18
  have b18 := F18.binds (ps := ["_law_pot_here", "_law_many_here"]) fun _ _ _ _ _ _ us hl => match us, hl with | [_, _], _ => rfl
  have g18 := PySem.W.mg_of X G a18
  have F19 := fun_mk (st := sMany2) l19 c19 k19
  have b19 := F19.binds (ps := ["_law_pot_here"]) fun _ _ _ _ _ _ us hl => match us, hl with | [_], _ => rfl
  have g19 := PySem.W.mg_of X G a19
  have F20 := fun_mk (st := sName) l20 c20 k20
  have b20 := F20.binds (ps := ["_law_e"]) fun _ _ _ _ _ _ us hl => match us, hl with | [_], _ => rfl
  have g20 := PySem.W.mg_of X G a20
  have F21 := fun_mk (st := sWords) l21 c21 k21
  have b21 := F21.binds (ps := ["_law_call", "_law_odds"]) fun _ _ _ _ _ _ us hl => match us, hl with | [_, _], _ => rfl
  have g21 := PySem.W.mg_of X G a21
  have F22 := fun_mk (st := sBad) l22 c22 k22
  have b22 := F22.binds (ps := []) fun _ _ _ _ _ _ us hl => match us, hl with | [], _ => rfl
  have g22 := PySem.W.mg_of X G a22
  have F23 := fun_mk (st := sRight) l23 c23 k23
  have b23 := F23.binds (ps := ["_law_one_here", "_law_other"]) fun _ _ _ _ _ _ us hl => match us, hl with | [_, _], _ => rfl
  have g23 := PySem.W.mg_of X G a23
  have F24 := fun_mk (st := sLedIn) l24 c24 k24
  have b24 := F24.binds (ps := ["one", "other"]) fun _ _ _ _ _ _ us hl => match us, hl with | [_, _], _ => rfl
  have g24 := PySem.W.mg_of X G a24
  have gN := PySem.W.mg_of X G aN
  have E1 : Er K mg "InvalidOrder" C1 := ⟨PySem.W.mg_of X G q1, x1, kp1, sb1, ty1⟩
  have X1 : ExcC K C1 := ⟨hg1, hk1, sb1, hd1, ha1, hn, ht, hm1⟩
  have B1 : Bits K mg C1 true false false false false false false false false false := ⟨⟨C1, PySem.W.mg_of X G q1, kit_self⟩, ⟨C2, PySem.W.mg_of X G q2, kit_no n12 ic2 ty2 s12⟩, ⟨C3, PySem.W.mg_of X G q3, kit_no n13 ic3 ty3 s13⟩, ⟨C4, PySem.W.mg_of X G q4, kit_no n14 ic4 ty4 s14⟩, ⟨C5, PySem.W.mg_of X G q5, kit_no n15 ic5 ty5 s15⟩, ⟨C6, PySem.W.mg_of X G q6, kit_no n16 ic6 ty6 s16⟩, ⟨C7, PySem.W.mg_of X G q7, kit_no n17 ic7 ty7 s17⟩, ⟨C8, PySem.W.mg_of X G q8, kit_no n18 ic8 ty8 s18⟩, ⟨C9, PySem.W.mg_of X G q9, kit_no n19 ic9 ty9 s19⟩, ⟨CA, PySem.W.mg_of X G qA, kit_no n1A icA tyA s1A⟩⟩
  have N1 : NameIs K mg C1 "order" := ⟨X1, _, _, _, _, _, _, _, _, _, _, B1, by decide +kernel⟩
  have E2 : Er K mg "InvalidMany" C2 := ⟨PySem.W.mg_of X G q2, x2, kp2, sb2, ty2⟩
  have X2 : ExcC K C2 := ⟨hg2, hk2, sb2, hd2, ha2, hn, ht, hm2⟩
  have B2 : Bits K mg C2 false true false false false false false false false false := ⟨⟨C1, PySem.W.mg_of X G q1, kit_no n21 ic1 ty1 s21⟩, ⟨C2, PySem.W.mg_of X G q2, kit_self⟩, ⟨C3, PySem.W.mg_of X G q3, kit_no n23 ic3 ty3 s23⟩, ⟨C4, PySem.W.mg_of X G q4, kit_no n24 ic4 ty4 s24⟩, ⟨C5, PySem.W.mg_of X G q5, kit_no n25 ic5 ty5 s25⟩, ⟨C6, PySem.W.mg_of X G q6, kit_no n26 ic6 ty6 s26⟩, ⟨C7, PySem.W.mg_of X G q7, kit_no n27 ic7 ty7 s27⟩, ⟨C8, PySem.W.mg_of X G q8, kit_no n28 ic8 ty8 s28⟩, ⟨C9, PySem.W.mg_of X G q9, kit_no n29 ic9 ty9 s29⟩, ⟨CA, PySem.W.mg_of X G qA, kit_no n2A icA tyA s2A⟩⟩
  have N2 : NameIs K mg C2 "many" := ⟨X2, _, _, _, _, _, _, _, _, _, _, B2, by decide +kernel⟩
  have E9 : Er K mg "Unlike" C9 := ⟨PySem.W.mg_of X G q9, x9, kp9, sb9, ty9⟩
  have X9 : ExcC K C9 := ⟨hg9, hk9, sb9, hd9, ha9, hn, ht, hm9⟩
  have B9 : Bits K mg C9 false false false false false false false false true false := ⟨⟨C1, PySem.W.mg_of X G q1, kit_no n91 ic1 ty1 s91⟩, ⟨C2, PySem.W.mg_of X G q2, kit_no n92 ic2 ty2 s92⟩, ⟨C3, PySem.W.mg_of X G q3, kit_no n93 ic3 ty3 s93⟩, ⟨C4, PySem.W.mg_of X G q4, kit_no n94 ic4 ty4 s94⟩, ⟨C5, PySem.W.mg_of X G q5, kit_no n95 ic5 ty5 s95⟩, ⟨C6, PySem.W.mg_of X G q6, kit_no n96 ic6 ty6 s96⟩, ⟨C7, PySem.W.mg_of X G q7, kit_no n97 ic7 ty7 s97⟩, ⟨C8, PySem.W.mg_of X G q8, kit_no n98 ic8 ty8 s98⟩, ⟨C9, PySem.W.mg_of X G q9, kit_self⟩, ⟨CA, PySem.W.mg_of X G qA, kit_no n9A icA tyA s9A⟩⟩
  have N9 : NameIs K mg C9 "unlike" := ⟨X9, _, _, _, _, _, _, _, _, _, _, B9, by decide +kernel⟩
  have ex1 : PySem.W.exmOne K (.ref C1) (.ref C0) = some true := exm_by sb0 ic0 ty0 s10
  have ex2 : PySem.W.exmOne K (.ref C2) (.ref C0) = some true := exm_by sb0 ic0 ty0 s20
  have ex9 : PySem.W.exmOne K (.ref C9) (.ref C0) = some true := exm_by sb0 ic0 ty0 s90
  have l1 : labOf C1 C2 C1 = "order" := if_pos rfl
  have l2 : labOf C1 C2 C2 = "many" := (if_neg (Ne.symm d12)).trans (if_pos rfl)
  have l9 : labOf C1 C2 C9 = "unlike" := (if_neg (Ne.symm d19)).trans (if_neg (Ne.symm d29))
  refine ⟨PySem.W.fnOf "law" "law" (defArgs sLaw) (defBody sLaw) (defScope sLaw) .none kVL dcL pmL anL (.ref c) ctL, [(c, Pt)], spLaw K Pt, ?_, ?_, ?_, fun s v => .of_eq rfl, ?_, ?_⟩
  · intro p hp
    rw [List.mem_singleton.mp hp]
    exact OT c Pt _ _ _ _ _ _ lL rfl rfl lc lv
  · intro p hp
    rw [List.mem_singleton.mp hp]
    exact lp
  · intro p hp
    rw [List.mem_singleton.mp hp]
    exact ⟨_, cvs, cfi, ctf, cfl, ctg, cin, ctx, ctt, X _ _ lc, rfl, rfl, lv, v11, v18, v7, v9, v10, ncp⟩
  · intro H a ns hl _ hT hS
    refine ⟨a, ns, rfl, hS, Nat.le_trans hl (by decide), fun p hp => ?_, fun _ => rfl⟩
    rw [List.mem_singleton.mp hp]
    exact TabS.nil (hT (c, Pt) (List.mem_singleton_self _))
  · intro base _ _ hTB
    have TB := hTB (c, Pt) (List.mem_singleton_self _)
    have G2 : FnOk l.prog w K mg base CX0 2 f2 _ ["value", "low", "high"] spWithin := ok_within F2 T F1 b1 g1
    have G3 : FnOk l.prog w K mg base CX0 3 f3 _ ["value", "low", "high"] spAre := ok_are (fI := f1) (fdI := PySem.W.fnOf "is_integer" "is_integer" (defArgs sInt) (defBody sInt) (defScope sInt) .none kV1 dc1 pm1 an1 cd1 ct1) F3 T F2 b2 g2 G2
    have G4 : FnOk l.prog w K mg base CX0 4 f4 _ ["value"] spIsOrder := ok_isOrder F4 T F3 b3 g3 gN G3
    have G5 : FnOk l.prog w K mg base (L2N.CX l.prog w) 5 f5 _ ["value"] (spChk C1) := ok_chk F5 F4 b4 g4 G4 E1
    have G6 : FnOk l.prog w K mg base (L2N.CX l.prog w) 6 f6 _ ["one", "other"] (spChks C1 C9) := ok_chks F6 T F5 b5 g5 G5 E9
    have G7 : FnOk l.prog w K mg base (L2N.CX l.prog w) 3 f7 _ ["value"] (spMany C2) := ok_many F7 F2 b2 g2 G2 gN E2
    have G8 : FnOk l.prog w K mg base (L2N.CX l.prog w) 4 f8 _ ["many"] (spMk C2 List.range) := ok_plain F8 T F7 b7 g7 G7
    have G9 : FnOk l.prog w K mg base (L2N.CX l.prog w) 4 f9 _ ["many"] (spMk C2 fun n => (List.range n).reverse) := ok_last F9 T F7 b7 g7 G7
    have G11 : FnOk l.prog w K mg base CX0 1 f11 _ ["order"] (spIn opp) := ok_opIn F11 T
    have G10 : FnOk l.prog w K mg base (L2N.CX l.prog w) 6 f10 _ ["order"] (spOne C1 opp) := ok_op F10 F5 b5 g5 G5 F11 b11 g11 G11
    have G24 : FnOk l.prog w K mg base CX0 1 f24 _ ["one", "other"] spLedIn := ok_ledIn F24 T
    have G12 : FnOk l.prog w K mg base (L2N.CX l.prog w) 7 f12 _ ["one", "other"] (spLed C1 C9) := ok_led F12 F6 b6 g6 G6 F24 b24 g24 G24
    have G13 : FnOk l.prog w K mg base (L2N.CX l.prog w) 6 f13 _ ["order"] (spOne C1 List.reverse) := ok_about F13 F5 b5 g5 G5
    have G14 : FnOk l.prog w K mg base (L2N.CX l.prog w) 6 f14 _ ["order"] (spOne C1 overN) := ok_over F14 T F5 b5 g5 G5
    have DD : Defs l.prog w K mg base C1 C9 C2 := ⟨⟨_, _, g10, k10, b10, G10⟩, ⟨_, _, g13, k13, b13, G13⟩, ⟨_, _, g14, k14, b14, G14⟩, ⟨_, _, g12, k12, b12, G12⟩, ⟨_, _, g8, k8, b8, G8⟩, ⟨_, _, g9, k9, b9, G9⟩⟩
    have G15 : FnOk l.prog w K mg base CX0 1 f15 _ ["_law_script", "_law_turn"] (spPot K) := ok_pot F15 T
    have G17 : FnOk l.prog w K mg base CX0 2 f17 _ ["_law_pot_here", "_law_some"] spOneOf := ok_one F17 T F16 b16 g16
    have G18 : FnOk l.prog w K mg base CX0 3 f18 _ ["_law_pot_here", "_law_many_here"] spOrd := ok_ord F18 T F17 b17 g17 G17
    have G19 : FnOk l.prog w K mg base CX0 3 f19 _ ["_law_pot_here"] spMany2 := ok_many2 F19 F17 b17 g17 G17
    have G20 : FnZ l.prog w K mg base CX0 1 f20 _ ["_law_e"] (spName K mg) := ok_name F20 T
    have WD : Wds K mg l.prog w base C0 f21 _ := ⟨F21, g21, b21, PySem.W.mg_of X G q0, ⟨_, _, G20, g20, k20, b20⟩⟩
    have G22 : FnOk l.prog w K mg base CX0 1 f22 _ [] spBad := ok_bad F22 T
    have G23 : FnOk l.prog w K mg base CX0 8 f23 _ ["_law_one_here", "_law_other"] spRight := ok_right F23 T DD
    have OO : Own l.prog w K mg base C1 C9 C2 C0 := ⟨⟨_, _, g15, k15, b15, G15⟩, ⟨_, _, g19, k19, b19, G19⟩, ⟨_, _, g18, k18, b18, G18⟩, ⟨_, _, g4, k4, b4, G4⟩, ⟨_, _, g23, k23, b23, G23⟩, ⟨_, _, g22, k22, b22, G22⟩, ⟨_, _, WD⟩⟩
    refine fn_of (N := lawN) lL cL scLaw (fun vs H Q E h => ?_) fun A outer s H vs Q E hr h => ?_
    · obtain ⟨L, scr, rfl, _⟩ := h
      rfl
    · obtain ⟨L, scr, rfl, hS, hl, hT, q⟩ := h
      obtain ⟨t, ht, hq⟩ := law_body (lab := labOf C1 C2) (f := fa) (c := c) (E := E) (A := A) (outer := outer) (s := s) T DD OO TB hr ⟨l1.symm ▸ N1, ex1⟩ ⟨l9.symm ▸ N9, ex9⟩ ⟨l2.symm ▸ N2, ex2⟩ l1 l9 l2 hS hl hT q
      exact ⟨t, ht.nox, hq⟩
end Wo
/-! WoZe -/
open PySem PyProof.Rows PySem.W
set_option maxHeartbeats 0 in
theorem PySem.Challenge.cw_wiredorders_k00_orders_and_what_comes_of_holds : PySem.Challenge.rw_wiredorders_k00_orders_and_what_comes_of.Holds := by
  w_on
  o_law
  k_head
  (case hw => w_witness2)
  k_fill
  refine LamX.walk_ofOwn (l := PySem.Challenge.rw_wiredorders_k00_orders_and_what_comes_of) (n := 63) (k := 10) (x := "_law_script") (CX := fun _ => L2.CX0) rfl (by decide) rfl ⟨rfl, by decide, by decide⟩ (by first | rfl | decide +kernel) (fun w h Y => PySem.W.km_in_of Y) ?F (fun _ _ _ _ _ h => h)
  case F =>
    intro w mg fa h Y KX G hmg OT
    refine' Wo.all_mk KX G hmg OT ?a1 ?l1 ?c1 ?k1 ?a2 ?l2 ?c2 ?k2 ?a3 ?l3 ?c3 ?k3 ?a4 ?l4 ?c4 ?k4 ?a5 ?l5 ?c5 ?k5 ?a6 ?l6 ?c6 ?k6 ?a7 ?l7 ?c7 ?k7 ?a8 ?l8 ?c8 ?k8 ?a9 ?l9 ?c9 ?k9 ?a10 ?l10 ?c10 ?k10 ?a11 ?l11 ?c11 ?k11 ?a12 ?l12 ?c12 ?k12 ?a13 ?l13 ?c13 ?k13 ?a14 ?l14 ?c14 ?k14 ?a15 ?l15 ?c15 ?k15 ?a16 ?l16 ?c16 ?k16 ?a17 ?l17 ?c17 ?k17 ?a18 ?l18 ?c18 ?k18 ?a19 ?l19 ?c19 ?k19 ?a20 ?l20 ?c20 ?k20 ?a21 ?l21 ?c21 ?k21 ?a22 ?l22 ?c22 ?k22 ?a23 ?l23 ?c23 ?k23 ?a24 ?l24 ?c24 ?k24 ?aL ?lL ?cL ?lc ?lv ?lp ?v11 ?v18 ?v7 ?v9 ?v10 ?ncp ?aN ?z0 ?z1 ?z2 ?z3 ?z4 ?z5 ?z6 ?z7 ?z8 ?z9 ?z10 ?z11 ?z12 ?q0 ?q1 ?q2 ?q3 ?q4 ?q5 ?q6 ?q7 ?q8 ?q9 ?qA ?hn ?ht ?sb0 ?ic0 ?ty0 ?ic1 ?ty1 ?ic2 ?ty2 ?ic3 ?ty3 ?ic4 ?ty4 ?ic5 ?ty5 ?ic6 ?ty6 ?ic7 ?ty7 ?ic8 ?ty8 ?ic9 ?ty9 ?icA ?tyA ?x1 ?kp1 ?sb1 ?hg1 ?hk1 ?hd1 ?ha1 ?hm1 ?s10 ?s12 ?n12 ?s13 ?n13 ?s14 ?n14 ?s15 ?n15 ?s16 ?n16 ?s17 ?n17 ?s18 ?n18 ?s19 ?n19 ?s1A ?n1A ?x2 ?kp2 ?sb2 ?hg2 ?hk2 ?hd2 ?ha2 ?hm2 ?s20 ?s21 ?n21 ?s23 ?n23 ?s24 ?n24 ?s25 ?n25 ?s26 ?n26 ?s27 ?n27 ?s28 ?n28 ?s29 ?n29 ?s2A ?n2A ?x9 ?kp9 ?sb9 ?hg9 ?hk9 ?hd9 ?ha9 ?hm9 ?s90 ?s91 ?n91 ?s92 ?n92 ?s93 ?n93 ?s94 ?n94 ?s95 ?n95 ?s96 ?n96 ?s97 ?n97 ?s98 ?n98 ?s9A ?n9A ?d12 ?d19 ?d29
    (case a1 => k_is)
    (case l1 => k_is)
    (case c1 => k_is)
    (case k1 => k_is)
    (case a2 => k_is)
    (case l2 => k_is)
    (case c2 => k_is)
    (case k2 => k_is)
    (case a3 => k_is)
    (case l3 => k_is)
    (case c3 => k_is)
    (case k3 => k_is)
    (case a4 => k_is)
    (case l4 => k_is)
    (case c4 => k_is)
    (case k4 => k_is)
    (case a5 => k_is)
    (case l5 => k_is)
    (case c5 => k_is)
    (case k5 => k_is)
    (case a6 => k_is)
    (case l6 => k_is)
    (case c6 => k_is)
    (case k6 => k_is)
    (case a7 => k_is)
    (case l7 => k_is)
    (case c7 => k_is)
    (case k7 => k_is)
    (case a8 => k_is)
    (case l8 => k_is)
    (case c8 => k_is)
    (case k8 => k_is)
    (case a9 => k_is)
    (case l9 => k_is)
    (case c9 => k_is)
    (case k9 => k_is)
    (case a10 => k_is)
    (case l10 => k_is)
    (case c10 => k_is)
    (case k10 => k_is)
    (case a11 => k_is)
    (case l11 => k_is)
    (case c11 => k_is)
    (case k11 => k_is)
    (case a12 => k_is)
    (case l12 => k_is)
    (case c12 => k_is)
    (case k12 => k_is)
    (case a13 => k_is)
    (case l13 => k_is)
    (case c13 => k_is)
    (case k13 => k_is)
    (case a14 => k_is)
    (case l14 => k_is)
    (case c14 => k_is)
    (case k14 => k_is)
    (case a15 => k_is)
    (case l15 => k_is)
    (case c15 => k_is)
    (case k15 => k_is)
    (case a16 => k_is)
    (case l16 => k_is)
    (case c16 => k_is)
    (case k16 => k_is)
    (case a17 => k_is)
    (case l17 => k_is)
    (case c17 => k_is)
    (case k17 => k_is)
    (case a18 => k_is)
    (case l18 => k_is)
    (case c18 => k_is)
    (case k18 => k_is)
    (case a19 => k_is)
    (case l19 => k_is)
    (case c19 => k_is)
    (case k19 => k_is)
    (case a20 => k_is)
    (case l20 => k_is)
    (case c20 => k_is)
    (case k20 => k_is)
    (case a21 => k_is)
    (case l21 => k_is)
    (case c21 => k_is)
    (case k21 => k_is)
    (case a22 => k_is)
    (case l22 => k_is)
    (case c22 => k_is)
    (case k22 => k_is)
    (case a23 => k_is)
    (case l23 => k_is)
    (case c23 => k_is)
    (case k23 => k_is)
    (case a24 => k_is)
    (case l24 => k_is)
    (case c24 => k_is)
    (case k24 => k_is)
    (case aL => k_is)
    (case lL => k_is)
    (case cL => k_is)
    (case lc => k_is)
    (case lv => first | rfl | k_is)
    (case lp => first | rfl | k_is)
    (case v11 => first | rfl | k_is)
    (case v18 => first | rfl | k_is)
    (case v7 => first | rfl | k_is)
    (case v9 => first | rfl | k_is)
    (case v10 => first | rfl | k_is)
    (case ncp => decide)
    (case aN => k_is)
    (case z0 => k_is)
    (case z1 => k_is)
    (case z2 => k_is)
    (case z3 => k_is)
    (case z4 => k_is)
    (case z5 => k_is)
    (case z6 => k_is)
    (case z7 => k_is)
    (case z8 => k_is)
    (case z9 => k_is)
    (case z10 => k_is)
    (case z11 => k_is)
    (case z12 => k_is)
    (case q0 => k_is)
    (case q1 => k_is)
    (case q2 => k_is)
    (case q3 => k_is)
    (case q4 => k_is)
    (case q5 => k_is)
    (case q6 => k_is)
    (case q7 => k_is)
    (case q8 => k_is)
    (case q9 => k_is)
    (case qA => k_is)
    (case hn => k_is)
    (case ht => k_is)
    (case sb0 => k_is)
    (case ic0 => k_is)
    (case ty0 => k_is)
    (case ic1 => k_is)
    (case ty1 => k_is)
    (case ic2 => k_is)
    (case ty2 => k_is)
    (case ic3 => k_is)
    (case ty3 => k_is)
    (case ic4 => k_is)
    (case ty4 => k_is)
    (case ic5 => k_is)
    (case ty5 => k_is)
    (case ic6 => k_is)
    (case ty6 => k_is)
    (case ic7 => k_is)
    (case ty7 => k_is)
    (case ic8 => k_is)
    (case ty8 => k_is)
    (case ic9 => k_is)
    (case ty9 => k_is)
    (case icA => k_is)
    (case tyA => k_is)
    (case x1 => k_exc)
    (case kp1 => k_is)
    (case sb1 => k_is)
    (case hg1 => k_is)
    (case hk1 => k_is)
    (case hd1 => k_is)
    (case ha1 => k_is)
    (case hm1 => k_is)
    (case s10 => k_is)
    (case s12 => k_is)
    (case n12 => decide)
    (case s13 => k_is)
    (case n13 => decide)
    (case s14 => k_is)
    (case n14 => decide)
    (case s15 => k_is)
    (case n15 => decide)
    (case s16 => k_is)
    (case n16 => decide)
    (case s17 => k_is)
    (case n17 => decide)
    (case s18 => k_is)
    (case n18 => decide)
    (case s19 => k_is)
    (case n19 => decide)
    (case s1A => k_is)
    (case n1A => decide)
    (case x2 => k_exc)
    (case kp2 => k_is)
    (case sb2 => k_is)
    (case hg2 => k_is)
    (case hk2 => k_is)
    (case hd2 => k_is)
    (case ha2 => k_is)
    (case hm2 => k_is)
    (case s20 => k_is)
    (case s21 => k_is)
    (case n21 => decide)
    (case s23 => k_is)
    (case n23 => decide)
    (case s24 => k_is)
    (case n24 => decide)
    (case s25 => k_is)
    (case n25 => decide)
    (case s26 => k_is)
    (case n26 => decide)
    (case s27 => k_is)
    (case n27 => decide)
    (case s28 => k_is)
    (case n28 => decide)
    (case s29 => k_is)
    (case n29 => decide)
    (case s2A => k_is)
    (case n2A => decide)
    (case x9 => k_exc)
    (case kp9 => k_is)
    (case sb9 => k_is)
    (case hg9 => k_is)
    (case hk9 => k_is)
    (case hd9 => k_is)
    (case ha9 => k_is)
    (case hm9 => k_is)
    (case s90 => k_is)
    (case s91 => k_is)
    (case n91 => decide)
    (case s92 => k_is)
    (case n92 => decide)
    (case s93 => k_is)
    (case n93 => decide)
    (case s94 => k_is)
    (case n94 => decide)
    (case s95 => k_is)
    (case n95 => decide)
    (case s96 => k_is)
    (case n96 => decide)
    (case s97 => k_is)
    (case n97 => decide)
    (case s98 => k_is)
    (case n98 => decide)
    (case s9A => k_is)
    (case n9A => decide)
    (case d12 => decide)
    (case d19 => decide)
    (case d29 => decide)
