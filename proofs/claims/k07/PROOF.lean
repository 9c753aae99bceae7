import PyProof.Rows.All
import Wide.All
import OpenK.AllK
import Wide.FinOn
import HandS.Base
import HandS.Call
import HandS.List
import HandS.Comp
import HandS.Dict
import HandS.More
import HandS.Words
import HandS.Strs
import HandS.TupAny
import KE.DataFind
import KE.Datum
import KE.GoesMore
import KE.GoesComp
import HandS.ForMost
import HandS.IsInst
import HandS.Wide
import HandS.Style
import HandS.Walk
import HandS.Evl
import PyProof.Rows.SetFrom
import PyProof.GenCompT
import PyProof.TupleOfGen
import HandS.AnyAll
import HandS.GenOver
import PyProof.Rows.Chain
import PyProof.FactsAll.subtypes_4
import HandS.Text
import HandS.Rev
import HandS.EndTab
import HandS.HeadWalk
import HandS.HeadHook4
import HandS.Head2
import HandS.HeadEnd
import PySem.Challenge.RW_laidontop_k07_whole_numbers_tell_the_rea
set_option Elab.async false
set_option linter.all false
set_option maxRecDepth 100000
set_option maxHeartbeats 4000000
/-! Rules for what this text needs beside the hand layer's: a text taken out of a list, a tuple of texts sorted, a dict of a constant over tuple keys, methods of tuples. -/
namespace Lt
open PySem PySem.Spec PyProof.Rows L2

theorem erase_map {a b : Type} (f : a → b) : ∀ (l : List a) (j : Nat), (l.map f).eraseIdx j = (l.eraseIdx j).map f
  | [], j => by simp
  | x :: r, 0 => by simp
  | x :: r, j + 1 => by simp [erase_map f r j]
theorem txts_data {K : PySem.W.Frag} {H : Hp} : ∀ ss : List Str, DpAll K H (ss.map V.str) (ss.map PySem.W.Datum.toD)
  | [] => .nil
  | x :: r => .cons (.str x) (txts_data r)
section
variable {X : Cx}
def rRemS : V → List V → Hp → VK → Prop := fun x xs H Q => ∃ (l : Addr) (ss : List Str) (z : Str) (j : Nat),
  x = .ref l ∧ xs = [.str z] ∧ H l = some (.lst (ss.map V.str)) ∧ ss[j]? = some z ∧ (∀ m : Nat, m < j → ss[m]? ≠ some z) ∧
  Q .non (upd H l (.lst ((ss.eraseIdx j).map V.str)))
/-- xs.remove(y), texts: the first place of y goes -/
theorem mt_removeS (hu : X.A.units + 1 < cLine) : MtM X "list.remove" rRemS := by
  rintro pins s σ H _ _ v us Q inv relx relxs ⟨l, ss, z, j, rfl, rfl, hH, hj, hno, q⟩
  cases relx
  obtain ⟨_, rfl, t, rfl⟩ := relxs.one
  obtain ⟨hz, its, n, vals, hl, ho⟩ := inv.lstM hH
  have isl : s.heap.IsList l its.toArray := ⟨_, ho, rfl, n, rfl⟩
  obtain ⟨as, rds⟩ := Dp.readsAll inv (ss.map PySem.W.Datum.toD) (ss.map V.str) its (txts_data ss) vals
  have gone := vals.eraseIdx j
  rw [erase_map] at gone
  rw [List.length_map] at hz hl
  refine PySem.W.remove_list_datum (xs := ss) (x := z) isl ⟨as, by simpa using rds⟩ ⟨_, Reads.str z t⟩ (show X.A.units + 1 + 0 < cLine from hu) hj hno (by rw [List.size_toArray]; omega)
    ⟨.non, _, inv.lset (its' := its.eraseIdx j) (t' := s.toks) hH ho (by simp) gone ?_, rfl, q⟩
  have le := List.length_eraseIdx_le ss j
  rw [List.length_map]
  omega
/-- sorted(t), t a tuple of fewer than 64 texts -/
def rSortedT (K : PySem.W.Frag) : List V → Hp → VK → Prop := fun vs H Q => ∃ (a : Addr) (xs : List Str), vs = [V.ref a] ∧ SqT K H a (xs.map V.str) ∧ xs.length < 64 ∧
  ∀ (ys : List Str) (p : Addr), ys.Perm xs → sortedS ys = true → H p = none →
    Q (.ref p) (upd H p (.lst (ys.map V.str)))
theorem cr_sortedT : CallR X (.builtin "sorted") (rSortedT X.K) := by
  rintro pins s σ H _ us Q inv rel ⟨a, xs, rfl, sq, few, q⟩
  rw [Vals.ref1 rel]
  obtain ⟨its, vals, ⟨o, ho, hc, n, hd⟩, _⟩ := inv.tuple sq
  have len : its.length = xs.length := by rw [← vals.length, List.length_map]
  have txt : StrsAre its xs := vals.strs
  have fits : its.length ≤ sizeLine := Nat.le_trans (Nat.le_of_lt (len ▸ few)) (by decide)
  refine Calls.call_function_entry kind_sorted plain_sorted entry_sorted (args_sorted1 _) (wpAny_bind (m := checkCount "sorted" 1 1 _) (wpAny_pure
    (wpAny_bind (wpAny_collect_seq a (.inr rfl) ho hc hd (fun h1 kept => ?_) (by rw [List.size_toArray]; exact fits)))))
  have back : its.toArray.toList = its := by simp
  rw [back]
  refine wpAny_bind (wpAny_newList ?_ fits)
  have lst : (h1.push (seqObj "list" its.toArray 0)).get? h1.objs.size = some (seqObj "list" its.toArray 0) := Heap.get?_push_size _ rfl
  have inv1 : Inv X pins σ H { s with heap := h1 } := inv.kept (t' := s.toks) kept
  show wpAny _ _ _ _ _ { s with heap := h1.push (seqObj "list" its.toArray 0) }
  refine wpAny_bind (wpAny_holding (wpAny_call_entry slot_list_sort ⟨_, lst, rfl⟩ entry_list_sort (list_sort_treeK strKind_oneLt (s := { s with heap := h1.push (seqObj "list" its.toArray 0) }) lst txt.keysOf
    (fun v1 v2 rest e => keyKind_strs (by rw [← e]; exact txt)) (len ▸ few) fun st perm ord => ⟨_, rfl, ?_⟩) (args_list_sort _)))
  obtain ⟨ys, are, permS, ordS⟩ := sorted_out_str txt perm ord
  obtain ⟨ep, at1⟩ := sortedHeap_at (vs := its) (out := (arrOf st).map (·.2)) lst
  have lys : (ys.map V.str).length ≤ sizeLine := by
    rw [List.length_map, permS.length_eq]
    exact small64 few
  refine wpAny_pure ⟨_, rfl, .ref h1.objs.size, _, inv1.laid (t' := s.toks) (fun b u e => ?_) (Nat.le_refl _) (show ObjOk X.prog X.w _ _ _ (.lst (ys.map V.str)) from ⟨lys, _, ep, vals_of_strs are, by rw [Array.toArray_toList]; exact at1⟩), rfl,
    q ys _ permS ordS (inv1.hok.fresh (Nat.le_refl _))⟩
  have lt : b < h1.objs.size := Heap.lt_size e
  rw [sortedHeap_old (Nat.ne_of_lt lt) (by rw [size_push']; exact Nat.lt_succ_of_lt lt)]
  exact Heap.get?_push_of_some _ e
end
/-! ### {x: c for x in rows}, the rows tuples of ints and texts: over the library's DictComp_goes -/
def consts (c : Int) (ks : List (List Key)) : List (List Key × V) := ks.foldl (fun acc k => putK acc k (.int c)) []
theorem consts_snoc (c : Int) (ks : List (List Key)) (k : List Key) : consts c (ks ++ [k]) = putK (consts c ks) k (.int c) := by
  unfold consts
  rw [List.foldl_append]
  rfl
theorem consts_len (c : Int) (ks : List (List Key)) : (consts c ks).length ≤ ks.length := by
  have key : ∀ (ks : List (List Key)) (acc : List (List Key × V)), (ks.foldl (fun acc k => putK acc k (V.int c)) acc).length ≤ acc.length + ks.length := by
    intro ks
    induction ks with
    | nil => intro acc; exact Nat.le_refl _
    | cons k r ih =>
      intro acc
      have z := ih (putK acc k (.int c))
      have z2 := length_putK acc k (V.int c)
      rw [List.foldl_cons, List.length_cons]
      omega
  have z := key ks []
  rw [List.length_nil, Nat.zero_add] at z
  exact z
theorem consts_val (c : Int) (ks : List (List Key)) : ∀ k ∈ ks, valV (consts c ks) k = some (.int c) := by
  have key : ∀ (ks : List (List Key)) (acc : List (List Key × V)) (k : List Key), (k ∈ ks ∨ valV acc k = some (V.int c)) → valV (ks.foldl (fun acc k => putK acc k (V.int c)) acc) k = some (V.int c) := by
    intro ks
    induction ks with
    | nil =>
      intro acc k h
      rcases h with h | h
      · cases h
      · exact h
    | cons x r ih =>
      intro acc k h
      rw [List.foldl_cons]
      refine ih _ k ?_
      rw [valV_put]
      by_cases e : k = x
      · exact .inr (if_pos e)
      · rw [if_neg e]
        rcases h with h | h
        · exact .inl ((List.mem_cons.mp h).resolve_left e)
        · exact .inr h
  exact fun k hk => key ks [] k (.inl hk)
theorem keys_all {H : Hp} : ∀ {ls : List (List Key × V)} {ms : List (List Key × Addr × Value)}, KT H ls ms → ∀ z ∈ ms, H z.2.1 = some (.tup (z.1.map kV))
  | _, _, .nil, z, hz => by cases hz
  | _, _, .cons h t, z, hz => by
    rcases List.mem_cons.mp hz with rfl | hz
    · rw [← h.1]
      exact h.2.1
    · exact keys_all t z hz
/-- a dict's entries as they stand at D -/
def Raw (P : Program) (w : World) (h : Heap) (D : Addr) (xs : List (List Key × Addr × Value)) : Prop :=
  ∃ o es ep, h.get? D = some o ∧ o.ExactDict ∧ o.data = .dict es ep ∧ es.toList = xs.map (entryOfKey (tupleKind (mixKind P w))) ∧ (xs.map (·.1)).Nodup
theorem Raw.at {P : Program} {w : World} {h h' : Heap} {D : Addr} {xs : List (List Key × Addr × Value)} (r : Raw P w h D xs) (k : ∀ o, h.get? D = some o → h'.get? D = some o) : Raw P w h' D xs := by
  obtain ⟨o, es, ep, a1, a2⟩ := r
  exact ⟨o, es, ep, k o a1, a2⟩
theorem Raw.dict {P : Program} {w : World} {h h0 : Heap} {H : Hp} {D : Addr} {ls : List (List Key × V)} {xs : List (List Key × Addr × Value)} (r : Raw P w h D xs) (ok : HOk P w H h0) (kp : ∀ b o, h0.get? b = some o → h.get? b = some o) (kt : KT H ls xs) :
    h.DictOfH (tupleKind (mixKind P w)) D xs := by
  obtain ⟨o, es, ep, a1, a2, a3, a4, a5⟩ := r
  refine ⟨o, es, ep, a1, a2, a3, a4, fun z hz => ?_, a5⟩
  obtain ⟨ob, its, n, b1, b2⟩ := key_of ok (keys_all kt z hz)
  exact ⟨ob, its, n, kp _ ob b1, b2⟩
theorem below {b N C : Nat} (hb : b < N) (hC : N + 1 ≤ C) : b ≠ C ∧ b ≠ N := by omega
section
variable {X : Cx}
def tDcK (K : PySem.W.Frag) (c : Int) (te : TE) : TE := fun σ H Q => te σ H fun v H1 => ∃ (l : Addr) (ts : List Addr) (ks : List (List Key)), v = .ref l ∧ SqL K H1 l (ts.map V.ref) ∧ ts.length = ks.length ∧
  (∀ (i : Nat) (t : Addr) (k : List Key), ts[i]? = some t → ks[i]? = some k → H1 t = some (.tup (k.map kV))) ∧ ks.length ≤ 1000 ∧ ∀ D, H1 D = none → Q (.ref D) (upd H1 D (.dT (consts c ks)))
theorem pe_dcK {x : Str} {c : Int} {jc : Nat} {px pk pc pos : Pos} {iter : Expr} {scope : Scope} {te : TE} (hu : X.A.units + 1 < cLine) (hcalm : X.calm = true) (he : PE X iter te)
    (names : scope.names.all (fun y => y.2 == .local) = true) (uniq : ∀ y ∈ scope.names, y.2 = .local → scope.names.lookup y.1 = some .local) (hx : scope.names.lookup x = some .local) (hkind : scope.kind = .function)
    (hdb : (x == ("__debug__" : Str)) = false := by decide) (hs : ∀ x, foldedSetIterable iter X.env x = pure x := by intro _; rfl) :
    PE X (.DictComp (.Name x pk) (.Constant (.int c) jc pc) [⟨.Name x px, iter, [], 0⟩] scope pos) (tDcK X.K c te) := by
  refine ⟨fun pins s σ H Q inv h => ?_⟩
  have loc : ∀ y ∈ scope.names, y.2 = .local := fun y hy => by simpa using List.all_eq_true.mp names y hy
  have calm := inv.ok.hd hcalm
  refine DictComp_goes (closure_ok fun y hy e => by rw [loc y hy] at e; cases e) (fun y hy e => by rw [loc y hy] at e; cases e) hkind uniq
    (thn (he.run pins s σ H _ inv h) fun xv s1 ⟨v, H1, inv1, rel, l, ts, ks, ev, sq, len, keys, small, q⟩ => ?_) hs
  subst ev
  cases rel
  obtain ⟨its, vals, pl, _⟩ := inv1.list sq
  have hlt : (l : Nat) < s1.heap.objs.size := by
    obtain ⟨o, ho, _⟩ := pl.isList
    exact Heap.lt_size ho
  refine wpAny_pyIter_list pl.isList ⟨_, _, _, _, _, _, rfl, Goes.list calm s1.heap.objs.size l (Nat.ne_of_lt hlt) its.toArray, ⟨⟨_, Heap.get?_push_size _ rfl, rfl, rfl⟩, pl.isList.push _⟩, fun D C s3 begins empty => ?_⟩
  obtain ⟨⟨h3, tk3, rfl⟩, old, newD, newC, ne, ns0⟩ := begins
  have gC : (s1.heap.objs.size + 1 : Nat) ≤ C := by
    have z : (s1.heap.push { cls := .type "list_iterator", data := .fields #[.ref l, .int 0 0] }).objs.size ≤ C := newC
    rwa [Heap.size_push] at z
  have gD : (s1.heap.objs.size + 1 : Nat) ≤ D := by
    have z : (s1.heap.push { cls := .type "list_iterator", data := .fields #[.ref l, .int 0 0] }).objs.size ≤ D := newD
    rwa [Heap.size_push] at z
  have gD' : s1.heap.objs.size ≤ D := Nat.le_trans (Nat.le_succ _) gD
  have freeD : H1 D = none := inv1.hok.fresh gD'
  have kx : ∀ cl, (compEnvC scope cl C X.env).kindOf x = some .local := fun cl => lookup_relabel_local hx
  have plain : ∀ cl, ((compEnvC scope cl C X.env).scope.kind == .class || ((compEnvC scope cl C X.env).scope.kind == .module && (compEnvC scope cl C X.env).locals != (compEnvC scope cl C X.env).globals)) = false := fun cl => by
    show (scope.kind == .class || (scope.kind == .module && _)) = false
    rw [hkind]
    rfl
  have lits : its.length = ts.length := by rw [← vals.length, List.length_map]
  have lit : ∀ (i : Nat) (u : Value), its.toArray[i]? = some u → ∃ t k, u = .ref t ∧ ks[i]? = some k ∧ H1 t = some (.tup (k.map kV)) := fun i u e => by
    have e' : its[i]? = some u := by simpa using e
    have hi : i < ts.length := by
      rw [← lits]
      exact (List.getElem?_eq_some_iff.mp e').1
    obtain ⟨u2, g1, g2⟩ := vals.get (i := i) (x := .ref ts[i]) (by simp [hi])
    rw [e'] at g1
    cases g1
    exact ⟨ts[i], ks[i]'(by omega), g2, List.getElem?_eq_getElem (by omega), keys i _ _ (List.getElem?_eq_getElem hi) (List.getElem?_eq_getElem (by omega))⟩
  have isz : its.toArray.size = ks.length := by rw [List.size_toArray, lits, len]
  refine ⟨fun i sv => ∃ (h' : Heap) (tk : Nat) (m : Str → Option Value) (xs : List (List Key × Addr × Value)), sv = { s1 with heap := h', toks := tk } ∧ h'.Ns C m ∧ Raw X.prog X.w h' D xs ∧ KT H1 (consts c (ks.take i)) xs ∧
      ∀ b o, s1.heap.get? b = some o → h'.get? b = some o,
    ⟨h3, tk3, _, [], rfl, ns0, ⟨_, #[], 0, empty, ⟨rfl, rfl, rfl⟩, rfl, rfl, List.nodup_nil⟩, .nil, fun b o e => old b o (Heap.get?_push_of_some _ e)⟩, ?_, ?_, ?_⟩
  · rintro i _ h' tk ⟨h4, tk4, m, xs, rfl, ns, dd, kt, kp⟩ keeps _
    have off : ∀ b : Addr, b ≠ s1.heap.objs.size → b ∉ [s1.heap.objs.size] := fun b hb hm => hb (by simpa using hm)
    have nC : C ≠ s1.heap.objs.size := Nat.ne_of_gt gC
    have nD : D ≠ s1.heap.objs.size := Nat.ne_of_gt gD
    exact ⟨h', tk, m, xs, rfl, ns.at' fun o e => keeps _ o (off _ nC) e, dd.at fun o e => keeps _ o (off _ nD) e, kt, fun b o e => keeps b o (off b (Nat.ne_of_lt (Heap.lt_size e))) (kp b o e)⟩
  · rintro i v _ hi hv st ⟨h4, tk4, m, xs, rfl, ns, dd, kt, kp⟩
    obtain ⟨t, k, rfl, ek, hk⟩ := lit i v hv
    refine wpAny_assign_Name (wpAny_storeName_local (kx _) ns (fun h5 ns5 same5 => ?_) (plain _))
    refine wpAny_tests_nil ?_
    show wpAny _ _ _ _ _ _
    rw [eval_Name _ _ _ hdb]
    refine wpAny_bind (wpAny_standAt (wpAny_loadName_local hkind (kx _) ns5 (v := .ref t) (if_pos rfl) (wpAny_Constant_int ?_)))
    have up5 : ∀ b o, b ≠ C → h4.get? b = some o → h5.get? b = some o := fun b o hb e => same5.extBut b o hb e
    have oldC : ∀ b o, s1.heap.get? b = some o → b ≠ C := fun b o e => (below (Heap.lt_size e) gC).1
    have kp5 : ∀ b o, s1.heap.get? b = some o → h5.get? b = some o := fun b o e => up5 b o (oldC b o e) (kp b o e)
    have dd5 := (dd.at fun o e => up5 D o ne e).dict inv1.hok kp5 kt
    have room : (tupleKind (mixKind X.prog X.w)).room X.A := Nat.lt_trans (Nat.lt_succ_self _) hu
    have isk : (tupleKind (mixKind X.prog X.w)).is h5 k t := by
      obtain ⟨ob, its2, n2, b1, b2⟩ := key_of inv1.hok hk
      exact ⟨ob, its2, n2, kp5 _ ob b1, b2⟩
    have lxs : xs.length ≤ sizeLine := by
      rw [← Paired.length kt]
      have z := consts_len c (ks.take i)
      rw [List.length_take] at z
      exact Nat.le_of_lt (small1000 (by omega))
    refine wpAny_dictSet_heap (hsz := lxs) room isk dd5 fun h6 dd6 same6 => ?_
    have step : consts c (ks.take (i + 1)) = putK (consts c (ks.take i)) k (.int c) := by
      rw [List.take_add_one, ek]
      exact consts_snoc c _ k
    have keep6 : ∀ b o, b ≠ D → h5.get? b = some o → h6.get? b = some o := fun b o hb e => (same6.2 b hb).trans e
    have oldD : ∀ b o, s1.heap.get? b = some o → b ≠ D := fun b o e => (below (Heap.lt_size e) gD).1
    obtain ⟨o6, es6, ep6, c1, c2, c3, c4, _, c6⟩ := dd6
    refine ⟨⟨h6, _, _, _, rfl, ns5.at' fun o e => keep6 _ o ne.symm e, ⟨o6, es6, ep6, c1, c2, c3, c4, c6⟩, ?_, fun b o e => keep6 b o (oldD b o e) (kp5 b o e)⟩, ?_⟩
    · rw [step]
      exact kt.put k hk ⟨_, rfl⟩
    · have nI : s1.heap.objs.size ≠ C := (Nat.ne_of_gt gC).symm
      have nI2 : s1.heap.objs.size ≠ D := (Nat.ne_of_gt gD).symm
      have nl := below hlt gC
      have nl2 := below hlt gD
      exact ⟨st.1.at fun o e => keep6 _ o nI2 (up5 _ o nI e), st.2.at fun o e => keep6 _ o nl2.1 (up5 _ o nl.1 e)⟩
  · rintro _ ⟨h4, tk4, m, xs, rfl, ns, dd, kt, kp⟩
    refine ⟨m, ns, fun h' same => ?_⟩
    have kp' : ∀ b o, s1.heap.get? b = some o → h'.get? b = some o := fun b o e => same.extBut b o (below (Heap.lt_size e) gC).1 (kp b o e)
    rw [isz, List.take_length] at kt
    have fit : (consts c ks).length ≤ sizeLine := Nat.le_of_lt (small1000 (Nat.le_trans (consts_len c ks) small))
    have sys : (D == sysModules) = false := beq_eq_false_iff_ne.mpr (Nat.ne_of_gt (Nat.lt_of_lt_of_le inv1.big gD'))
    obtain ⟨o, es, ep, a1, a2, a3, a4, a5⟩ := dd.at (h' := h') fun o e => same.extBut _ o ne e
    exact ⟨.ref D, _, inv1.laid (t' := tk4) kp' gD' (show ObjOk X.prog X.w _ h' D (.dT (consts c ks)) from ⟨fit, sys, xs, kt.keeps fun b ys e => by rw [upd_ne (ne_of_none e freeD)]; exact e, o, es, ep, a1, a2, a3, a4, a5⟩), rfl, q D freeD⟩
end
/-! ### tuples whose object is known to have no dict: their methods can be called -/
section
def IsFz (u : HO) (xs : List V) : Prop := ∃ o : Obj, u = .frz o (.tup xs) ∧ o.cls = .type "tuple" ∧ o.dict = none
def TpO (H : Hp) (a : Addr) (xs : List V) : Prop := ∃ u, H a = some u ∧ IsFz u xs
theorem TpO.sqt {K : PySem.W.Frag} {H : Hp} {a : Addr} {xs : List V} (h : TpO H a xs) : SqT K H a xs := by
  obtain ⟨u, h1, o, rfl, _⟩ := h
  exact .inl (.inr ⟨o, h1⟩)
theorem TpO.ne {H : Hp} {a b : Addr} {xs : List V} {v : HO} (h : TpO H a xs) (h' : H b = some v) (d : ∀ o : Obj, v ≠ .frz o (.tup xs)) : a ≠ b := by
  obtain ⟨u, h1, o, rfl, _⟩ := h
  exact ne_of h1 h' fun z => d o z.symm
theorem TpO.new {H : Hp} {a : Addr} {xs : List V} {u : HO} (h : IsFz u xs) : TpO (upd H a u) a xs := ⟨u, upd_same, h⟩
theorem TpO.taken {H : Hp} {a b : Addr} {xs : List V} (h : TpO H a xs) (n : H b = none) : a ≠ b := by
  obtain ⟨u, h1, _⟩ := h
  exact ne_of_none h1 n
theorem TpO.move {H H' : Hp} {a : Addr} {xs : List V} (h : TpO H a xs) (e : ∀ u, H a = some u → H' a = some u) : TpO H' a xs := by
  obtain ⟨u, h1, h2⟩ := h
  exact ⟨u, e u h1, h2⟩
variable {X : Cx}
/-- a new tuple is laid where nothing stood: what is known of it -/
theorem laid_fz {pins : List (Addr × Obj)} {σ : L2.St} {H : Hp} {s : Shared} {h' : Heap} {Q : VK} {xs : List V} {us : List Value} (inv : Inv X pins σ H { s with heap := h' }) (vals : Vals xs us) (fit : xs.length ≤ sizeLine)
    (q : ∀ p u, H p = none → IsFz u xs → Q (.ref p) (upd H p u)) : EP X pins σ Q (.ref h'.objs.size) { s with heap := h'.push { cls := .type "tuple", data := .seq us.toArray } } := by
  have at1 : (h'.push { cls := .type "tuple", data := .seq us.toArray }).get? h'.objs.size = some { cls := .type "tuple", data := .seq us.toArray } := Heap.get?_push_size _ rfl
  refine ⟨.ref h'.objs.size, _, inv.laid (t' := s.toks) (fun b u e => Heap.get?_push_of_some _ e) (Nat.le_refl _) ?_, rfl, q _ (.frz { cls := .type "tuple", data := .seq us.toArray } (.tup xs)) (inv.hok.fresh (Nat.le_refl _)) ⟨_, rfl, rfl, rfl⟩⟩
  exact ⟨at1, fit, us, vals, _, at1, rfl, _, rfl⟩
def tTupZ (t : TA) : TE := fun σ H Q => t σ H fun xs H1 => xs.length ≤ sizeLine ∧ ∀ p u, H1 p = none → IsFz u xs → Q (.ref p) (upd H1 p u)
theorem pe_tupZ {x1} {es : List Expr} {t : TA} {pos : Pos} (h : PA X es t) : PE X (.Tuple es x1 pos) (tTupZ t) :=
  ⟨fun pins s σ H Q inv hq => wpAny_Tuple_spliced (thn (h.run pos pins s σ H _ inv hq) fun us s1 ⟨xs, H1, inv1, vals, fit, q⟩ => ⟨vals.length ▸ fit, laid_fz (s := s1) inv1 vals fit q⟩)⟩
def rCatZ (K : PySem.W.Frag) : R2 := fun x y H Q => ∃ a b xs ys, x = .ref a ∧ y = .ref b ∧ SqT K H a xs ∧ SqT K H b ys ∧ xs ≠ [] ∧ xs.length + ys.length ≤ sizeLine ∧
  (ys = [] → Q (.ref a) H) ∧ (ys ≠ [] → ∀ p u, H p = none → IsFz u (xs ++ ys) → Q (.ref p) (upd H p u))
theorem op_catZ : OpR X (binaryOp .Add) (rCatZ X.K) := by
  rintro pins s σ H _ _ v u Q inv relx rely ⟨a, b, xs, ys, rfl, rfl, sa, sb, some1, fit, same, new⟩
  cases relx
  cases rely
  obtain ⟨us, valsA, tupA, _⟩ := inv.tuple sa
  obtain ⟨ws, valsB, tupB, _⟩ := inv.tuple sb
  exact HT.cat_tup tupA tupB (fun e => some1 (valsA.nil_iff.mp e)) (fun e => ⟨.ref a, H, inv, rfl, same (valsB.nil_iff.mp e)⟩)
    (fun e => laid_fz (s := s) inv (valsA.append valsB) (by rw [List.length_append]; exact fit) (new fun w => e (valsB.nil_iff.mpr w))) (by rw [← valsA.length, ← valsB.length]; exact fit)
def rTupZ (K : PySem.W.Frag) : List V → Hp → VK → Prop := fun xs H Q => ∃ p ys, xs = [.ref p] ∧ SqL K H p ys ∧ ∀ l u, H l = none → IsFz u ys → Q (.ref l) (upd H l u)
theorem call_tupleZ : CallR X (.type "tuple") (rTupZ X.K) := by
  rintro pins s σ H _ us Q inv rel ⟨p, ys, rfl, sq, q⟩
  rw [Vals.ref1 rel]
  obtain ⟨its, vals, pl, fit⟩ := inv.list sq
  exact call_tuple_list pl.isList (fun h' kp => laid_fz (s := s) (inv.kept (t' := s.toks) kp) vals fit q) (by rw [List.size_toArray, ← vals.length]; exact fit)
def tTM (r : V → List V → Hp → VK → Prop) (to : TE) (t : TA) : TE := fun σ H Q => to σ H fun x H1 => (∃ a xs, x = .ref a ∧ TpO H1 a xs) ∧ t σ H1 fun xs H2 => r x xs H2 Q
/-- t.m(e, ..), t such a tuple -/
theorem pe_tm {o e : Expr} {es : List Expr} {to : TE} {t : TA} {name : Str} {apos cpos : Pos} {id : String} {r : V → List V → Hp → VK → Prop} (slot : Slot "tuple" name id)
    (hty : typeOf (.builtin id) = pure (.type "method_descriptor")) (hm : MtR X id r) (ho : PE X o to) (ha : PA X (e :: es) t)
    (h1 : attributeBase o name X.env (eval o X.env) = eval o X.env := by rfl)
    (h2 : ((backTo cpos (starEach (e :: es) X.env)).all (fun x => !x.1) && (backToKw cpos (keywordEach [] X.env)).all (fun x => x.1.isSome) && decide ((e :: es).length + ([] : List Keyword).length + (if ([] : List Keyword).isEmpty then 0 else 1) < 30)) = true := by rfl)
    (h3 : (apos.endLine == cpos.line) = true := by rfl) (h4 : starEach (e :: es) X.env = (false, eval e X.env) :: starEach es X.env := by rfl)
    (h5 : (backTo cpos (starEach es X.env)).any (·.1) = false := by rfl) : PE X (.Call (.Attribute o name apos) (e :: es) [] cpos) (tTM r to t) := by
  refine ⟨fun pins s σ H Q inv h => wpAny_Call_method_late h1 h2 h3 rfl (thn (ho.run pins s σ H _ inv h) fun v s1 ⟨x, H1, inv1, rel, ty, q1⟩ => ?_)⟩
  obtain ⟨a, xs, rfl, _, hu, ob, rfl, hc, hd⟩ := ty
  cases rel
  have stands : s1.heap.get? a = some ob := (inv1.hok a _ hu).1
  have args := ha.run cpos pins s1 σ H1 _ inv1 q1
  rw [h4] at args
  refine ⟨"tuple", id, PySem.F.plainAttrs_tuple, slot, hty, ⟨ob, stands, hc⟩, fun b e => by cases e; exact ⟨ob, stands, hd⟩, ?_⟩
  rw [h4]
  have plain : ((false, eval e X.env) :: backTo cpos (starEach es X.env)).any (·.1) = false := by rw [List.any_cons, h5]; rfl
  exact Calls.callWith_builtin plain (Calls.evalArgs_plain (thn args fun us s2 ⟨vs, H2, inv2, rels, q2⟩ => hm pins s2 σ H2 (.ref a) vs _ us Q inv2 rfl rels q2))
end
end Lt

set_option Elab.async false
set_option linter.all false
set_option maxRecDepth 100000
set_option maxHeartbeats 4000000
namespace Lt
open PySem PySem.Spec PyProof.Rows L2
/-! ### heaps -/
theorem same_new {H : Hp} {p : Addr} (h : H p = none) (o : HO) : Same H (upd H p o) := fun b u q => by
  rw [upd_ne (ne_of_none q h)]
  exact q
theorem same_put {H H' : Hp} {p : Addr} {o : HO} (s : Same H H') (h : H p = none) : Same H (upd H' p o) := fun b u q => by
  rw [upd_ne (ne_of_none q h)]
  exact s _ _ q
theorem same_tup {K : PySem.W.Frag} {H H' : Hp} {a : Addr} {xs : List V} (e : Same H H') (h : SqT K H a xs) : SqT K H' a xs := by
  rcases h with (h | ⟨o, h⟩) | h
  · exact .inl (.inl (e _ _ h))
  · exact .inl (.inr ⟨o, e _ _ h⟩)
  · exact .inr h
theorem sqt {K : PySem.W.Frag} {H : Hp} {a : Addr} {xs : List V} (h : H a = some (.tup xs)) : SqT K H a xs := .inl (.inl h)
theorem sql {K : PySem.W.Frag} {H : Hp} {a : Addr} {xs : List V} (h : H a = some (.lst xs)) : SqL K H a xs := .inl (.inl h)
/-- all but what stands at T is as it was -/
def SameT (T : Addr) (H H' : Hp) : Prop := ∀ b o, b ≠ T → H b = some o → H' b = some o
theorem SameT.refl (T : Addr) (H : Hp) : SameT T H H := fun _ _ _ h => h
theorem SameT.trans {T : Addr} {H H1 H2 : Hp} (a : SameT T H H1) (b : SameT T H1 H2) : SameT T H H2 := fun c o n h => b c o n (a c o n h)
theorem SameT.of {T : Addr} {H H' : Hp} (s : Same H H') : SameT T H H' := fun c o _ h => s c o h
theorem SameT.free {T : Addr} {H H' : Hp} (e : SameT T H H') {l : Addr} (hl : l ≠ T) (h : H' l = none) : H l = none := by
  cases q : H l with
  | none => rfl
  | some o =>
    rw [e l o hl q] at h
    cases h
mutual
theorem dp_same {K : PySem.W.Frag} {H H' : Hp} (e : Same H H') : ∀ {v : V} {d : PyData}, Dp K H v d → Dp K H' v d
  | _, _, .non => .non
  | _, _, .bl b => .bl b
  | _, _, .int i => .int i
  | _, _, .str x => .str x
  | _, _, .lst h a => .lst (e.seq h) (dpAll_same e a)
  | _, _, .tup h a => .tup (same_tup e h) (dpAll_same e a)
theorem dpAll_same {K : PySem.W.Frag} {H H' : Hp} (e : Same H H') : ∀ {vs : List V} {ds : List PyData}, DpAll K H vs ds → DpAll K H' vs ds
  | _, _, .nil => .nil
  | _, _, .cons h t => .cons (dp_same e h) (dpAll_same e t)
end
theorem dpAll_strs {K : PySem.W.Frag} {H : Hp} : ∀ ss : List Str, DpAll K H (ss.map V.str) (ss.map PyData.str)
  | [] => .nil
  | x :: r => .cons (.str x) (dpAll_strs r)
theorem dpAll_ints {K : PySem.W.Frag} {H : Hp} : ∀ ns : List Int, DpAll K H (ns.map V.int) (ns.map PyData.int)
  | [] => .nil
  | x :: r => .cons (.int x) (dpAll_ints r)
theorem dpAll_snoc {K : PySem.W.Frag} {H : Hp} : ∀ {vs : List V} {ds : List PyData} {v : V} {d : PyData}, DpAll K H vs ds → Dp K H v d → DpAll K H (vs ++ [v]) (ds ++ [d])
  | _, _, _, _, .nil, h => .cons h .nil
  | _, _, _, _, .cons a t, h => .cons a (dpAll_snoc t h)
theorem dpAll_append {K : PySem.W.Frag} {H : Hp} : ∀ {vs ws : List V} {ds es : List PyData}, DpAll K H vs ds → DpAll K H ws es → DpAll K H (vs ++ ws) (ds ++ es)
  | _, _, _, _, .nil, h => h
  | _, _, _, _, .cons a t, h => .cons a (dpAll_append t h)
theorem dpAll_len {K : PySem.W.Frag} {H : Hp} : ∀ {vs : List V} {ds : List PyData}, DpAll K H vs ds → vs.length = ds.length
  | _, _, .nil => rfl
  | _, _, .cons _ t => congrArg (· + 1) (dpAll_len t)
theorem dpAll_get {K : PySem.W.Frag} {H : Hp} : ∀ {vs : List V} {ds : List PyData}, DpAll K H vs ds → ∀ {i : Nat} {v : V}, vs[i]? = some v → ∃ d, ds[i]? = some d ∧ Dp K H v d
  | _, _, .nil, i, v, h => by simp at h
  | _, _, .cons a t, 0, v, h => by
    simp only [List.getElem?_cons_zero, Option.some.injEq] at h
    exact ⟨_, rfl, h ▸ a⟩
  | _, _, .cons a t, i + 1, v, h => by
    simp only [List.getElem?_cons_succ] at h ⊢
    exact dpAll_get t h
theorem TpO.same {H H' : Hp} {a : Addr} {xs : List V} (h : TpO H a xs) (e : Same H H') : TpO H' a xs := h.move fun u q => e _ _ q
theorem TpO.sameT {T : Addr} {H H' : Hp} {a : Addr} {xs : List V} (h : TpO H a xs) (e : SameT T H H') (n : a ≠ T) : TpO H' a xs := h.move fun u q => e _ _ n q
/-! ### walks -/
theorem in_it {J : It} {n : Nat} {G : Hp → Prop} {Y : Nat → Hp → V → Hp → Prop} (w : Walk J n G Y) {Qd : Hp → Prop} {R : V → Hp → (Hp → Prop) → Prop} {H0 : Hp} (Pv : Nat → Hp → Prop) (h0 : Pv 0 H0)
    (hG : ∀ i H, i ≤ n → Pv i H → G H) (hs : ∀ i x H H', i < n → Pv i H → Y i H x H' → R x H' (Pv (i + 1))) (hd : ∀ H, Pv n H → Qd H) :
    ∃ W : Nat → Nat → Hp → Prop, (∃ m, W 0 m H0) ∧ ∀ i m H, W i m H → (J.stop i H ∧ Qd H) ∨
      (J.go i H ∧ ∃ Nx : Hp → Prop, (∀ H', Nx H' → ∃ m', m' < m ∧ W (i + 1) m' H') ∧ ∀ x H', J.yld i H x H' → R x H' Nx) := by
  refine ⟨fun i m H => m = n - i ∧ i ≤ n ∧ Pv i H, ⟨n, by simp, Nat.zero_le _, h0⟩, ?_⟩
  rintro i m H ⟨rfl, hi, p⟩
  by_cases hlt : i < n
  · exact .inr ⟨w.goes i H hlt (hG i H hi p), Pv (i + 1), fun H' p' => ⟨n - (i + 1), by omega, rfl, hlt, p'⟩, fun x H' y => hs i x H H' hlt p (w.yields i H x H' hlt (hG i H hi p) y)⟩
  · have e : i = n := by omega
    subst e
    exact .inl ⟨w.stops H (hG i H hi p), hd H p⟩
/-! ### the tape -/
structure Tape (H : Hp) (T S : Addr) (ns : List Int) : Prop where
  at_ : ∃ i c : Int, H T = some (.lst [.ref S, .int i, .int c])
  scr : H S = some (.lst (ns.map V.int))
theorem Tape.ne {H : Hp} {T S : Addr} {ns : List Int} (t : Tape H T S ns) : S ≠ T := by
  obtain ⟨i, c, h⟩ := t.at_
  refine ne_of t.scr h fun z => ?_
  injection z with z
  cases ns with
  | nil => cases z
  | cons a r => cases z
theorem Tape.same {H H' : Hp} {T S : Addr} {ns : List Int} (t : Tape H T S ns) (s : Same H H') : Tape H' T S ns := by
  obtain ⟨i, c, h⟩ := t.at_
  exact ⟨⟨i, c, s _ _ h⟩, s _ _ t.scr⟩
theorem Tape.put {H : Hp} {T S : Addr} {ns : List Int} (t : Tape H T S ns) (i c : Int) : Tape (upd H T (.lst [.ref S, .int i, .int c])) T S ns :=
  ⟨⟨i, c, upd_same⟩, by rw [upd_ne t.ne]; exact t.scr⟩
theorem Tape.taken {H : Hp} {T S : Addr} {ns : List Int} (t : Tape H T S ns) : ∃ o, H T = some o := by
  obtain ⟨i, c, h⟩ := t.at_
  exact ⟨_, h⟩
theorem sameT_put {T : Addr} {H : Hp} (o : HO) : SameT T H (upd H T o) := fun b u n q => by rw [upd_ne n]; exact q
theorem new_ne {H' : Hp} {T p : Addr} {o : HO} (h : H' T = some o) (n : H' p = none) : p ≠ T := fun e => by
  rw [e, h] at n
  cases n
/-! ### texts in order -/
abbrev ltS (a b : Str) : Prop := a.cps.toList < b.cps.toList
theorem str_ext {a b : Str} (h : a.cps.toList = b.cps.toList) : a = b := by
  cases a with
  | mk x =>
    cases b with
    | mk y =>
      have e : x = y := Array.toList_inj.mp h
      rw [e]
theorem ltS_tri {a b : Str} (h1 : ¬ ltS a b) (h2 : ¬ ltS b a) : a = b := by
  apply str_ext
  rw [List.not_lt] at h1 h2
  exact List.le_antisymm h2 h1
theorem ltS_asymm {a b : Str} (h : ltS a b) : ¬ ltS b a := List.lt_asymm h
theorem ltS_irrefl (a : Str) : ¬ ltS a a := List.lt_irrefl _
theorem rising_pw : ∀ (p : Str) (l : List Str), risingS p l = true → (p :: l).Pairwise fun a b => ¬ ltS b a
  | p, [], _ => List.pairwise_singleton _ _
  | p, x :: r, h => by
    have h' : (!ltCps x.cps.toList p.cps.toList && risingS x r) = true := h
    rw [Bool.and_eq_true] at h'
    have ih := rising_pw x r h'.2
    have hx : ¬ ltS x p := by
      have q := h'.1
      rw [ltCps_eq] at q
      simpa using q
    refine List.pairwise_cons.mpr ⟨fun y hy => ?_, ih⟩
    rcases List.mem_cons.mp hy with e | hy
    · rw [e]
      exact hx
    · have q := (List.pairwise_cons.mp ih).1 y hy
      intro z
      by_cases e : ltS p x
      · exact q (List.lt_trans z e)
      · rw [ltS_tri e hx] at z
        exact q z
theorem sorted_pw {l : List Str} (h : sortedS l = true) : l.Pairwise fun a b => ¬ ltS b a := by
  cases l with
  | nil => exact List.Pairwise.nil
  | cons x r => exact rising_pw x r h
theorem sorted_one {l m : List Str} (hl : sortedS l = true) (hm : sortedS m = true) (p : l.Perm m) : l = m :=
  List.Perm.eq_of_pairwise (fun a b _ _ h1 h2 => ltS_tri h2 h1) (sorted_pw hl) (sorted_pw hm) p
/-- both of a pair, the lesser first -/
def asPair (q : Str × Str) : Str × Str := if ltS q.1 q.2 then (q.1, q.2) else (q.2, q.1)
theorem sorted_two {a b : Str} {l : List Str} (p : l.Perm [a, b]) (h : sortedS l = true) : l = [(asPair (a, b)).1, (asPair (a, b)).2] := by
  refine sorted_one h ?_ (p.trans ?_)
  · unfold asPair
    by_cases c : ltS a b
    · rw [if_pos c]
      show (!ltCps b.cps.toList a.cps.toList && true) = true
      rw [ltCps_eq, decide_eq_false (ltS_asymm c)]
      rfl
    · rw [if_neg c]
      show (!ltCps a.cps.toList b.cps.toList && true) = true
      rw [ltCps_eq, decide_eq_false c]
      rfl
  · unfold asPair
    by_cases c : ltS a b
    · rw [if_pos c]
    · rw [if_neg c]
      exact List.Perm.swap b a []
/-- the pairs of a row of texts, by the place of the first -/
def prs (ys : List Str) : Nat → List (Str × Str)
  | 0 => []
  | i + 1 => prs ys i ++ match ys[i]? with
    | some a => (ys.drop (i + 1)).map fun b => (a, b)
    | none => []
theorem prs_succ {ys : List Str} {i : Nat} {a : Str} (h : ys[i]? = some a) : prs ys (i + 1) = prs ys i ++ (ys.drop (i + 1)).map fun b => (a, b) := by
  show prs ys i ++ (match ys[i]? with | some a => (ys.drop (i + 1)).map fun b => (a, b) | none => []) = _
  rw [h]
theorem prs_mem {ys : List Str} {i j : Nat} {a b : Str} (hi : ys[i]? = some a) (hj : ys[j]? = some b) (h : i < j) : ∀ n, i < n → (a, b) ∈ prs ys n
  | 0, z => by omega
  | n + 1, z => by
    by_cases e : i = n
    · subst e
      rw [prs_succ hi]
      refine List.mem_append_right _ (List.mem_map.mpr ⟨b, ?_, rfl⟩)
      have q : (ys.drop (i + 1))[j - (i + 1)]? = some b := by
        rw [List.getElem?_drop, show i + 1 + (j - (i + 1)) = j by omega]
        exact hj
      exact List.mem_of_getElem? q
    · exact List.mem_append_left _ (prs_mem hi hj h n (by omega))
theorem prs_len (ys : List Str) : ∀ n, (prs ys n).length ≤ n * ys.length
  | 0 => by simp [prs]
  | n + 1 => by
    have ih := prs_len ys n
    rw [Nat.succ_mul]
    cases h : ys[n]? with
    | none =>
      have e : prs ys (n + 1) = prs ys n ++ (match ys[n]? with | some a => (ys.drop (n + 1)).map fun b => (a, b) | none => []) := rfl
      rw [e, h, List.append_nil]
      omega
    | some a =>
      rw [prs_succ h, List.length_append, List.length_map, List.length_drop]
      omega
theorem pair_in {ys bs : List Str} {a b : Str} (p : ys.Perm bs) (hs : sortedS ys = true) (ha : a ∈ bs) (hb : b ∈ bs) (ne : a ≠ b) : asPair (a, b) ∈ prs ys ys.length := by
  have key : ∀ {c d : Str}, c ∈ bs → d ∈ bs → ltS c d → (c, d) ∈ prs ys ys.length := fun {c d} hc hd lt => by
    obtain ⟨i, hi⟩ := List.getElem?_of_mem (p.mem_iff.mpr hc)
    obtain ⟨j, hj⟩ := List.getElem?_of_mem (p.mem_iff.mpr hd)
    have li := (List.getElem?_eq_some_iff.mp hi).1
    have lj := (List.getElem?_eq_some_iff.mp hj).1
    refine prs_mem hi hj ?_ _ li
    by_cases h : i < j
    · exact h
    · exfalso
      by_cases e : i = j
      · subst e
        rw [hi] at hj
        cases hj
        exact ltS_irrefl _ lt
      · have pw := List.pairwise_iff_getElem.mp (sorted_pw hs) j i lj li (by omega)
        rw [(List.getElem?_eq_some_iff.mp hi).2, (List.getElem?_eq_some_iff.mp hj).2] at pw
        exact pw lt
  unfold asPair
  by_cases c : ltS a b
  · rw [if_pos c]
    exact key ha hb c
  · rw [if_neg c]
    refine key hb ha ?_
    by_cases d : ltS b a
    · exact d
    · exact absurd (ltS_tri c d) ne
/-! ### what readings do -/
/-- the pile behind one reading -/
def lay (bs : List Str) (b : Str) : List Str := b :: bs.eraseIdx (bs.idxOf b)
/-- the books above -/
def over (bs : List Str) (b : Str) : List Str := bs.take (bs.idxOf b)
def behindM : List Str → List Str → List Str
  | bs, [] => bs
  | bs, b :: r => behindM (lay bs b) r
def liftedM : List Str → List Str → List Nat
  | _, [] => []
  | bs, b :: r => bs.idxOf b :: liftedM (lay bs b) r
def rowsM : List Str → List Str → List (Str × Str)
  | _, [] => []
  | bs, b :: r => (over bs b).map (fun o => (b, o)) ++ rowsM (lay bs b) r
theorem behindM_snoc (bs : List Str) : ∀ (rs : List Str) (b : Str), behindM bs (rs ++ [b]) = lay (behindM bs rs) b := by
  intro rs
  induction rs generalizing bs with
  | nil => intro b; rfl
  | cons x r ih => intro b; exact ih (lay bs x) b
theorem liftedM_snoc (bs : List Str) : ∀ (rs : List Str) (b : Str), liftedM bs (rs ++ [b]) = liftedM bs rs ++ [(behindM bs rs).idxOf b] := by
  intro rs
  induction rs generalizing bs with
  | nil => intro b; rfl
  | cons x r ih =>
    intro b
    show bs.idxOf x :: liftedM (lay bs x) (r ++ [b]) = bs.idxOf x :: (liftedM (lay bs x) r ++ [(behindM (lay bs x) r).idxOf b])
    rw [ih]
theorem rowsM_snoc (bs : List Str) : ∀ (rs : List Str) (b : Str), rowsM bs (rs ++ [b]) = rowsM bs rs ++ (over (behindM bs rs) b).map fun o => (b, o) := by
  intro rs
  induction rs generalizing bs with
  | nil => intro b; exact List.append_nil _
  | cons x r ih =>
    intro b
    show (over bs x).map (fun o => (x, o)) ++ rowsM (lay bs x) (r ++ [b]) = ((over bs x).map (fun o => (x, o)) ++ rowsM (lay bs x) r) ++ (over (behindM (lay bs x) r) b).map fun o => (b, o)
    rw [ih, List.append_assoc]
theorem idx_lt {bs : List Str} {b : Str} (h : b ∈ bs) : bs.idxOf b < bs.length := List.idxOf_lt_length_iff.mpr h
theorem idx_get {bs : List Str} {b : Str} (h : b ∈ bs) : bs[bs.idxOf b]? = some b := by
  rw [List.getElem?_eq_getElem (idx_lt h), List.getElem_idxOf (idx_lt h)]
theorem idx_first {bs : List Str} {b : Str} : ∀ m, m < bs.idxOf b → bs[m]? ≠ some b := by
  induction bs with
  | nil => intro m h; simp at h
  | cons x r ih =>
    intro m h
    rw [List.idxOf_cons] at h
    by_cases e : x == b
    · rw [e] at h
      simp at h
    · have e' : (x == b) = false := by simpa using e
      rw [e'] at h
      simp only [cond_false] at h
      cases m with
      | zero =>
        intro z
        simp only [List.getElem?_cons_zero, Option.some.injEq] at z
        rw [z] at e'
        simp at e'
      | succ m =>
        simp only [List.getElem?_cons_succ]
        exact ih m (by omega)
theorem lay_perm {bs : List Str} {b : Str} (h : b ∈ bs) : (lay bs b).Perm bs := by
  have q := (List.perm_cons_erase h).symm
  rw [List.erase_eq_eraseIdx_of_idxOf rfl] at q
  exact q
theorem behindM_perm : ∀ {bs : List Str} (rs : List Str), (∀ b ∈ rs, b ∈ bs) → (behindM bs rs).Perm bs
  | bs, [], _ => List.Perm.refl _
  | bs, b :: r, h => by
    have hb := h b (List.mem_cons_self ..)
    have p := lay_perm hb
    exact (behindM_perm r fun c hc => p.mem_iff.mpr (h c (List.mem_cons_of_mem _ hc))).trans p
/-- a book above another is another -/
theorem over_ne {bs : List Str} {b o : Str} (h : o ∈ over bs b) : o ≠ b := by
  obtain ⟨m, hm⟩ := List.getElem?_of_mem h
  have l := (List.getElem?_eq_some_iff.mp hm).1
  unfold over at hm l
  rw [List.length_take] at l
  rw [List.getElem?_take_of_lt (by omega)] at hm
  intro e
  subst e
  exact idx_first m (by omega) hm
theorem over_mem {bs : List Str} {b o : Str} (h : o ∈ over bs b) : o ∈ bs := List.mem_of_mem_take h
/-- how often both passed one another -/
def cnt (rows : List (Str × Str)) (q : Str × Str) : Nat := (rows.filter fun r => decide (asPair r = q)).length
theorem cnt_nil (q : Str × Str) : cnt [] q = 0 := rfl
theorem cnt_snoc (rows : List (Str × Str)) (r q : Str × Str) : cnt (rows ++ [r]) q = cnt rows q + if asPair r = q then 1 else 0 := by
  unfold cnt
  rw [List.filter_append, List.length_append]
  by_cases h : asPair r = q
  · rw [if_pos h, List.filter_cons_of_pos (by simpa using h)]
    rfl
  · rw [if_neg h, List.filter_cons_of_neg (by simpa using h)]
    rfl
/-! ### slices -/
theorem cut_to {xs : List V} {j : Nat} (h : j ≤ xs.length) : cutV xs none (some (j : Int)) = xs.take j := by
  unfold cutV
  rw [HT.sIx_none, HT.sIx_nat, Nat.min_eq_left h]
  simp
theorem cut_from {xs : List V} {j : Nat} (h : j ≤ xs.length) : cutV xs (some (j : Int)) none = xs.drop j := by
  unfold cutV
  rw [HT.sIx_none, HT.sIx_nat, Nat.min_eq_left h]
  rw [List.take_of_length_le (by rw [List.length_drop]; omega)]
/-! ### shapes -/
theorem shaped_of {d : PyData} (h1 : d.canLay0 = true) (h2 : d.depth ≤ 64) : SeqAt.shaped d = true := by
  unfold SeqAt.shaped
  rw [h1, decide_eq_true h2]
  rfl
theorem canAll : ∀ ds : List PyData, (∀ d ∈ ds, d.canLay0 = true) → PyData.canLayAll0 ds = true
  | [], _ => by rw [PyData.canLayAll0]
  | d :: r, h => by
    rw [PyData.canLayAll0, h d (List.mem_cons_self ..), canAll r fun x hx => h x (List.mem_cons_of_mem _ hx)]
    rfl
theorem depthAll_le {n : Nat} : ∀ ds : List PyData, (∀ d ∈ ds, d.depth ≤ n) → PyData.depthAll ds ≤ n
  | [], _ => by rw [PyData.depthAll]; exact Nat.zero_le _
  | d :: r, h => by
    rw [PyData.depthAll]
    exact Nat.max_le.mpr ⟨h d (List.mem_cons_self ..), depthAll_le r fun x hx => h x (List.mem_cons_of_mem _ hx)⟩
/-! ### rules within a comprehension: the written part is named -/
section
variable {X : Cx} {K : PySem.W.Frag}
theorem ixL (e : X.K = K) : IxR X (rIxL K) := by
  subst e
  exact ix_list
theorem ixT (e : X.K = K) : IxR X (rIxT K) := by
  subst e
  exact ix_tup
theorem cLen (e : X.K = K) : CallR X (.builtin "len") (Evl.rLenS K) := by
  subst e
  exact call_len_seq
theorem cSortT (e : X.K = K) : CallR X (.builtin "sorted") (rSortedT K) := by
  subst e
  exact cr_sortedT
theorem oEqD (hu : X.A.units + 64 < cLine) (e : X.K = K) : OpR X (compareOp .Eq) (rEqD K) := by
  subst e
  exact op_eqD hu
end
end Lt

set_option Elab.async false
set_option linter.all false
set_option maxRecDepth 100000
set_option maxHeartbeats 4000000
/-! len(set(xs)) of texts, whatever stands in xs more than once. -/
namespace Lt
open PySem PySem.Spec PyProof.Rows L2
/-! ### how many unlike texts -/
def nub (l : List Str) : List Str := l.foldl (fun acc x => if x ∈ acc then acc else acc ++ [x]) []
theorem nub_snoc (l : List Str) (x : Str) : nub (l ++ [x]) = if x ∈ nub l then nub l else nub l ++ [x] := by
  unfold nub
  rw [List.foldl_append]
  rfl
theorem snoc_ind {p : List Str → Prop} (h0 : p []) (h1 : ∀ l x, p l → p (l ++ [x])) : ∀ l, p l := by
  intro l
  have z : ∀ r : List Str, p r.reverse := by
    intro r
    induction r with
    | nil => exact h0
    | cons a r ih =>
      rw [List.reverse_cons]
      exact h1 _ a ih
  have q := z l.reverse
  rwa [List.reverse_reverse] at q
theorem nub_mem (l : List Str) : ∀ z, z ∈ nub l ↔ z ∈ l := by
  refine snoc_ind (p := fun l => ∀ z, z ∈ nub l ↔ z ∈ l) (fun z => Iff.rfl) (fun l x ih z => ?_) l
  rw [nub_snoc]
  by_cases c : x ∈ nub l
  · rw [if_pos c, ih z, List.mem_append, List.mem_singleton]
    exact ⟨.inl, fun h => h.elim id fun e => by rw [e]; exact (ih x).mp c⟩
  · rw [if_neg c, List.mem_append, List.mem_append, ih z]
theorem nub_nodup (l : List Str) : (nub l).Nodup := by
  refine snoc_ind (p := fun l => (nub l).Nodup) List.nodup_nil (fun l x ih => ?_) l
  rw [nub_snoc]
  by_cases c : x ∈ nub l
  · rw [if_pos c]
    exact ih
  · rw [if_neg c]
    exact nd_snoc ih c
def dist (l : List Str) : Nat := (nub l).length
theorem dist_snoc (l : List Str) (x : Str) : dist (l ++ [x]) = if x ∈ l then dist l else dist l + 1 := by
  unfold dist
  rw [nub_snoc]
  by_cases c : x ∈ nub l
  · rw [if_pos c, if_pos ((nub_mem l x).mp c)]
  · rw [if_neg c, if_neg fun z => c ((nub_mem l x).mpr z), List.length_append]
    rfl
theorem dist_le (l : List Str) : dist l ≤ l.length := by
  refine snoc_ind (p := fun l => dist l ≤ l.length) (Nat.le_refl _) (fun l x ih => ?_) l
  rw [dist_snoc, List.length_append, List.length_singleton]
  split <;> omega
/-- unlike texts, the same ones: as many -/
theorem dist_of {l ys : List Str} (nd : ys.Nodup) (mem : ∀ z, z ∈ ys ↔ z ∈ l) : ys.length = dist l := by
  have p : ys.Perm (nub l) := by
    rw [List.perm_ext_iff_of_nodup nd (nub_nodup l)]
    exact fun z => (mem z).trans (nub_mem l z).symm
  exact p.length_eq
/-! ### the set -/
section
variable {prog : Program} {w : World} {A : Around} {R : Result → Shared → Prop} {I : Addr} {fp wr : List Addr} {G : Array GenState → Array GenState → Prop} {n : Nat} {P : Nat → Value → Prop} {St : Nat → Shared → Prop}
theorem txt_loop (W : WalksS prog w A.in1 I fp wr G n P St) (S : Addr) (off : S ∉ fp) (ss : List Str) (len : n = ss.length) (room : n + 1 < scanBound) (val : ∀ i v, P i v → ∃ z t, ss[i]? = some z ∧ v = .str z t) :
    ∀ (m i : Nat) (s : Shared), i + m = n → St i s → s.heap.SetOf (PySem.strKind prog w) S (fun z => decide (z ∈ ss.take i)) (dist (ss.take i)) →
      (∀ s', Moved (S :: wr) G s s' → s'.heap.SetOf (PySem.strKind prog w) S (fun z => decide (z ∈ ss)) (dist ss) → R (.ok (.ret .none)) s') →
      codeAny (model prog w) A (.builtin "set.update.loop" ⟨[.ref S, .ref I], []⟩) R s := by
  have offW : S ∉ wr := fun h => off (W.sub _ h)
  have more : ∀ b ∈ wr, b ∈ S :: wr := fun b hb => .tail _ hb
  have carry : ∀ {s1 s2 : Shared} {M : Str → Bool} {c : Nat}, Moved wr G s1 s2 → s1.heap.SetOf (PySem.strKind prog w) S M c → s2.heap.SetOf (PySem.strKind prog w) S M c := fun mv st => by
    obtain ⟨o, es, ep, tb, ho, rest⟩ := st
    exact ⟨o, es, ep, tb, mv.heap S _ offW ho, rest⟩
  intro m
  induction m with
  | zero =>
    intro i s him st set done
    have hin : i = n := by omega
    subst hin
    refine codeAny_builtin F.entry_set_update_loop ?_
    rw [Around.under_plainId F.plain_set_update_loop _]
    show wpAny _ A.in1 (pyNext (.ref I) >>= _) _ _ s
    refine wpAny_bind (W.done s _ _ st fun s2 mv => ?_)
    rw [List.take_of_length_le (Nat.le_of_eq len.symm)] at set
    exact wpAny_pure (done s2 (mv.mono more) (carry mv set))
  | succ m ih =>
    intro i s him st set done
    refine codeAny_builtin F.entry_set_update_loop ?_
    rw [Around.under_plainId F.plain_set_update_loop _]
    show wpAny _ A.in1 (pyNext (.ref I) >>= _) _ _ s
    refine wpAny_bind (W.item i s _ _ (by omega) st fun v s2 pv st2 mv => ?_)
    obtain ⟨z, t, hz, rfl⟩ := val i v pv
    have isz : (PySem.strKind prog w).is z (.str z t) = true := strKind_is _ _ _ _
    have few : dist (ss.take i) ≤ i := Nat.le_trans (dist_le _) (by rw [List.length_take]; omega)
    have set2 := carry mv set
    show wpAny _ A.in1 (holding [Value.str z t] (setAdd S (.str z t)) >>= _) _ _ s2
    refine wpAny_bind (wpAny_holding ?_)
    unfold setAdd
    refine wpAny_holding (wpAny_bind ((PySem.strKind prog w).pyHash (k := z) isz (wpAny_setAddHashed_of (knd := PySem.strKind prog w) (s := { s2 with toks := s2.toks + 1 }) isz rfl set2 (by omega) fun h3 same set3 => ?_)))
    have set4 : h3.SetOf (PySem.strKind prog w) S (fun y => decide (y ∈ ss.take (i + 1))) (dist (ss.take (i + 1))) := by
      have e1 : ss.take (i + 1) = ss.take i ++ [z] := by
        rw [List.take_add_one, hz]
        rfl
      refine SetOf_congr set3 (fun y => ?_) ?_
      · rw [e1]
        simp [List.mem_append]
      · rw [e1, dist_snoc]
        simp
    have keep : ∀ b o, b ≠ S → s2.heap.get? b = some o → h3.get? b = some o := fun b o hb e => (same.2 b hb).trans e
    refine wpAny_pure ⟨plainId_quiet F.plain_set_update_loop _, ih (i + 1) _ (by omega) (W.frame _ s2 _ _ st2 (Nat.le_succ _) fun b hb o e => keep b o (fun h => off (h ▸ hb)) e) set4 fun s5 mv5 set5 => ?_⟩
    exact done s5 (Moved.trans W.gtrans ((mv.mono more).then_heap (Nat.le_succ _) fun b o hb e => keep b o (fun h => hb (h ▸ List.mem_cons_self)) e) mv5) set5
end
section
variable {prog : Program} {w : World} {A : Around} {E : Value → Shared → Prop} {s : Shared}
/-- set(v): what is left is to fill the new set -/
theorem set_call {v : Value} {Q : Value → Shared → Prop} (fill : ∀ led : Bool, wpAny (model prog w) A.in1.in1 (Builtin.«set.__init__» ⟨[.ref s.heap.objs.size, v], []⟩)
      (fun fin s' => match fin with
        | .done f => wants (fun r s2 => r = .none ∧ Q (.ref s.heap.objs.size) s2) E (.ok f) s'
        | .again c => c.quiet = true ∧ codeAny (model prog w) A.in1 c (wants (fun r s2 => r = .none ∧ Q (.ref s.heap.objs.size) s2) E) s')
      (fun e s' => wants (fun r s2 => r = .none ∧ Q (.ref s.heap.objs.size) s2) E (.error e) s')
      { s with heap := s.heap.push { cls := .type "set", dict := none, data := .set #[] 0 (.fresh 0 0 led) } }) : wpAny (model prog w) A (call (.type "set") [v]) Q E s := by
  have ft := PySem.F.called_set
  obtain ⟨c, tl, mro⟩ := ft.mro
  have made := ft.made
  have sub := ft.sub
  have notT := ft.notType
  have can := ft.canCreate
  have okT := PySem.F.typeCall_set_1 v
  refine wpAny_call (codeAny_of_tree (show wpAny _ _ (callAny (.type "set") _) _ _ _ from wpAny_pure ⟨Code.quiet_builtin _ (by decide +kernel), codeAny_builtin PySem.F.entry_type_call ?_⟩))
  rw [Around.under_plain (weight_type_call_type "set" [v] []) rfl]
  repeat (any_goals (first | assumption | wp_step))
  refine codeAny_mono (code_set_new_1 v (E := E) (Q₁ := fun obj s1 => ∃ led : Bool, obj = .ref s.heap.objs.size ∧ s1 = { s with heap := s.heap.push { cls := .type "set", dict := none, data := .set #[] 0 (.fresh 0 0 led) } }) fun led => ⟨led, rfl, rfl⟩) fun r s1 got => ?_
  cases r with
  | error e => exact got
  | ok fl =>
    cases fl with
    | ret obj =>
      obtain ⟨led, rfl, rfl⟩ := got
      have isSet : Shared.TypeIs { s with heap := s.heap.push { cls := .type "set", dict := none, data := .set #[] 0 (.fresh 0 0 led) } } (.ref s.heap.objs.size) "set" := ⟨_, Heap.get?_push_size _ rfl, rfl⟩
      have look := ft.init.lookup
      have bound := ft.init.bind (.ref s.heap.objs.size)
      repeat (any_goals (first | assumption | wp_step))
      refine codeAny_mono (codeAny_call_builtin ft.init.plain PySem.F.entry_set_init (check_set_init_1 isSet (fill led))) fun r2 s2 got2 => ?_
      cases r2 with
      | error e => exact got2
      | ok fl2 =>
        cases fl2 with
        | ret r =>
          obtain ⟨rfl, q⟩ := got2
          repeat (any_goals (first | assumption | wp_step))
        | _ => exact got2.elim
    | _ => exact got.elim
theorem set_txts {l : Addr} {items : Array Value} {ss : List Str} {Q : Value → Shared → Prop} (calm : A.handled = none) (hl : s.heap.IsList l items) (val : ∀ (i : Nat) (v : Value), items[i]? = some v → ∃ z t, ss[i]? = some z ∧ v = .str z t)
    (len : items.size = ss.length) (room : items.size + 1 < scanBound)
    (h : ∀ (h' : Heap) (tk : Nat), h'.SetOf (PySem.strKind prog w) s.heap.objs.size (fun z => decide (z ∈ ss)) (dist ss) → (∀ b o, s.heap.get? b = some o → h'.get? b = some o) → Q (.ref s.heap.objs.size) { s with heap := h', toks := tk }) :
    wpAny (model prog w) A (call (.type "set") [.ref l]) Q E s := by
  refine set_call fun led => ?_
  have below : (l : Nat) < s.heap.objs.size := by
    obtain ⟨o, ho, _⟩ := hl
    exact Heap.lt_size ho
  have atS : (s.heap.push { cls := .type "set", dict := none, data := .set #[] 0 (.fresh 0 0 led) }).get? s.heap.objs.size = some { cls := .type "set", dict := none, data := .set #[] 0 (.fresh 0 0 led) } := Heap.get?_push_size _ rfl
  have hl1 : (s.heap.push { cls := .type "set", dict := none, data := .set #[] 0 (.fresh 0 0 led) }).IsList l items := hl.push _
  obtain ⟨⟨oc, od, odt, osl⟩, ho1, hc1, n1, hd1⟩ := id hl1
  simp only at hc1 hd1
  subst hc1 hd1
  have no1 := PySem.F.sub_list_set
  have no2 := PySem.F.sub_list_frozenset
  have no3 : (Value.type "list" == Value.type "dict") = false := by decide
  unfold Builtin.«set.__init__» noKeywords Builtin.Frozenset.updateFrom
  generalize hPI : pyIter = PI
  wp_walk
  subst hPI
  refine wpAny_pyIter_list hl1 (wpAny_bind (wpAny_runValue ?_))
  have top1 : (s.heap.push { cls := .type "set", dict := none, data := .set #[] 0 (.fresh 0 0 led) }).objs.size = s.heap.objs.size + 1 := Heap.size_push _ _
  have calm3 : A.in1.in1.in1.handled = none := by simp [calm]
  have neI : l ≠ (s.heap.push { cls := .type "set", dict := none, data := .set #[] 0 (.fresh 0 0 led) }).objs.size := by
    rw [top1]
    exact Nat.ne_of_lt (Nat.lt_succ_of_lt below)
  have offS : s.heap.objs.size ∉ [(s.heap.push { cls := .type "set", dict := none, data := .set #[] 0 (.fresh 0 0 led) }).objs.size, l] := by
    rw [top1]
    intro z
    rcases List.mem_cons.mp z with e | e
    · exact Nat.succ_ne_self _ e.symm
    · exact absurd (List.mem_singleton.mp e) (Nat.ne_of_gt below)
  refine txt_loop ((Walks.list calm3 _ l neI items).toS) s.heap.objs.size offS ss len room val items.size 0 _ (Nat.zero_add _) ⟨⟨_, Heap.get?_push_size _ rfl, rfl, rfl⟩, hl1.push _⟩ ?empty ?filled
  case empty =>
    refine SetOf_congr ((setObjOf_fresh (knd := PySem.strKind prog w) led).setOf (Heap.get?_push_of_some _ atS) (by unfold scanBound; omega)) (fun z => ?_) rfl
    simp
  case filled =>
    intro s5 mv set5
    obtain ⟨h5, g5, d5, tk5, os5⟩ := s5
    obtain rfl : g5 = s.gens := mv.gens
    obtain rfl : d5 = s.drawn := mv.drawn
    obtain rfl : os5 = s.os := mv.os
    show wpAny _ _ _ _ _ _
    refine wpAny_pure (show wpAny _ _ (ret Value.none) _ _ _ from wpAny_pure ⟨rfl, h h5 tk5 set5 fun b o e => ?_⟩)
    have lt : b < s.heap.objs.size := Heap.lt_size e
    refine mv.heap b o (fun z => ?_) (Heap.get?_push_of_some _ (Heap.get?_push_of_some _ e))
    rcases List.mem_cons.mp z with e2 | e2
    · exact absurd e2 (Nat.ne_of_lt lt)
    · rw [List.mem_singleton.mp e2, top1] at lt
      exact absurd lt (Nat.not_lt.mpr (Nat.le_succ _))
end
section
variable {X : Cx}
def tLenSetS (K : PySem.W.Frag) (ta : TE) : TE := fun σ H Q => ta σ H fun x H1 => ∃ (l : Addr) (ss : List Str), x = .ref l ∧ SqL K H1 l (ss.map V.str) ∧ ss.length ≤ 1000 ∧ Q (.int (dist ss : Nat)) H1
theorem pe_lenSetS {a : Expr} {ta : TE} {p p2 q pos : Pos} (hcalm : X.calm = true) (g1 : Gl X "len") (m1 : X.mg "len" = none) (g2 : Gl X "set") (m2 : X.mg "set" = none) (ha : PE X a ta)
    (one : starEach [a] X.env = (false, eval a X.env) :: starEach [] X.env := by rfl) : PE X (.Call (.Name "len" p) [.Call (.Name "set" p2) [a] [] q] [] pos) (tLenSetS X.K ta) := by
  refine ⟨fun pins s σ H Q inv h => Call_ (ld_blt inv g1 m1 boot_len (callWith_builtin1 (args_cons ?_ rfl) rfl rfl))⟩
  refine Call_ (ld_blt inv g2 m2 boot_set (callWith_type1 (args_cons (thn (ha.run pins s σ H _ inv h) fun v s1 ⟨x, H1, inv1, rel, l, ss, ev, sq, few, q1⟩ => args_nil ?_) one) one rfl))
  subst ev
  cases rel
  obtain ⟨its, vals, pl, _⟩ := inv1.list sq
  have len : its.toArray.size = ss.length := by rw [List.size_toArray, ← vals.length, List.length_map]
  refine set_txts (ss := ss) (inv1.ok.hd hcalm) pl.isList (fun i v e => ?_) len (by rw [len]; unfold scanBound; omega) fun h' tk set kept => args_nil ?_
  · have e' : its[i]? = some v := by simpa using e
    have hi : i < ss.length := by
      have z := (List.getElem?_eq_some_iff.mp e').1
      rw [← len, List.size_toArray]
      exact z
    obtain ⟨u, g3, t, g4⟩ := vals.get (i := i) (x := .str ss[i]) (by simp [hi])
    rw [e'] at g3
    cases g3
    exact ⟨ss[i], t, List.getElem?_eq_getElem hi, g4⟩
  · obtain ⟨o, es, ep, tb, ho, ex, hd, _, _, _, fits, num⟩ := set
    have small : dist ss ≤ 1000 := Nat.le_trans (dist_le ss) few
    have inv2 : Inv X pins σ H1 { s1 with heap := h', toks := tk } := inv1.kept kept
    exact call_len_set ho ex hd fits (by rw [num]; omega) ⟨.int (dist ss : Nat), H1, inv2.tok _, ⟨_, by rw [num]⟩, q1⟩
end
end Lt

set_option Elab.async false
set_option linter.all false
set_option maxRecDepth 100000
set_option maxHeartbeats 4000000
namespace Lt
open PySem PySem.Spec PyProof.Rows L2
/-! ### who lies above was wanted since -/
theorem nub_cons (b : Str) (l : List Str) : nub (b :: l) = b :: (nub l).filter (fun z => decide (z ≠ b)) := by
  refine snoc_ind (p := fun l => nub (b :: l) = b :: (nub l).filter fun z => decide (z ≠ b)) rfl (fun l x ih => ?_) l
  have e : b :: (l ++ [x]) = (b :: l) ++ [x] := rfl
  have m1 : x ∈ nub (b :: l) ↔ x = b ∨ x ∈ nub l := by rw [nub_mem, nub_mem, List.mem_cons]
  rw [e, nub_snoc, nub_snoc]
  by_cases c : x ∈ nub l
  · rw [if_pos c, if_pos (m1.mpr (.inr c)), ih]
  · rw [if_neg c, List.filter_append]
    by_cases d : x = b
    · rw [if_pos (m1.mpr (.inl d)), ih, List.filter_cons_of_neg (by simpa using d), List.filter_nil, List.append_nil]
    · rw [if_neg fun z => (m1.mp z).elim d c, ih, List.filter_cons_of_pos (by simpa using d), List.filter_nil]
      rfl
theorem lay_filter {cur : List Str} {b : Str} (nd : cur.Nodup) : lay cur b = b :: cur.filter (fun z => decide (z ≠ b)) := by
  unfold lay
  rw [← List.erase_eq_eraseIdx_of_idxOf rfl, nd.erase_eq_filter]
  congr 1
  apply List.filter_congr
  intro z _
  by_cases e : z = b
  · subst e
    simp
  · have z1 : (z != b) = true := by simpa using e
    rw [z1]
    simp [e]
theorem behind_is {bs : List Str} (nd : bs.Nodup) : ∀ rs : List Str, (∀ b ∈ rs, b ∈ bs) → behindM bs rs = nub rs.reverse ++ bs.filter fun z => decide (z ∉ rs) := by
  refine snoc_ind (p := fun rs => (∀ b ∈ rs, b ∈ bs) → behindM bs rs = nub rs.reverse ++ bs.filter fun z => decide (z ∉ rs)) (fun _ => ?_) (fun rs b ih h => ?_)
  · show bs = [] ++ bs.filter fun z => decide (z ∉ ([] : List Str))
    rw [List.nil_append, List.filter_eq_self.mpr fun z _ => by simp]
  · have h1 : ∀ c ∈ rs, c ∈ bs := fun c hc => h c (List.mem_append_left _ hc)
    have nd2 : (behindM bs rs).Nodup := (behindM_perm rs h1).nodup_iff.mpr nd
    rw [behindM_snoc, lay_filter nd2, ih h1, List.filter_append, List.reverse_append, List.reverse_singleton]
    show b :: _ = nub (b :: rs.reverse) ++ _
    rw [nub_cons, List.filter_filter]
    show b :: _ = b :: ((nub rs.reverse).filter (fun z => decide (z ≠ b)) ++ bs.filter fun z => decide (z ∉ rs ++ [b]))
    congr 2
    apply List.filter_congr
    intro z _
    by_cases c1 : z ∈ rs
    · simp [c1]
    · by_cases c2 : z = b
      · simp [c2]
      · simp [c1, c2]
theorem nub_prefix (l : List Str) : ∀ r : List Str, ∃ t, nub (l ++ r) = nub l ++ t := by
  refine snoc_ind (p := fun r => ∃ t, nub (l ++ r) = nub l ++ t) ⟨[], by rw [List.append_nil, List.append_nil]⟩ (fun r x ih => ?_)
  obtain ⟨t, e⟩ := ih
  rw [← List.append_assoc, nub_snoc, e]
  by_cases c : x ∈ nub l ++ t
  · rw [if_pos c]
    exact ⟨t, rfl⟩
  · rw [if_neg c]
    exact ⟨t ++ [x], by rw [List.append_assoc]⟩
theorem idx_mid {l r : List Str} {b : Str} (h : b ∉ l) : (l ++ b :: r).idxOf b = l.length := by
  rw [List.idxOf_append, if_neg h, List.idxOf_cons_self, Nat.zero_add]
theorem nub_idx {l r : List Str} {b : Str} (h : b ∉ l) : (nub (l ++ b :: r)).idxOf b = (nub l).length := by
  obtain ⟨t, e⟩ := nub_prefix (l ++ [b]) r
  rw [List.append_assoc] at e
  have e2 : l ++ ([b] ++ r) = l ++ b :: r := rfl
  have nb : b ∉ nub l := fun z => h ((nub_mem l b).mp z)
  rw [e2, nub_snoc, if_neg nb, List.append_assoc] at e
  rw [e]
  exact idx_mid nb
theorem split_at {l : List Str} {b : Str} (h : b ∈ l) : l = l.take (l.idxOf b) ++ b :: l.drop (l.idxOf b + 1) ∧ b ∉ l.take (l.idxOf b) := by
  refine ⟨?_, fun z => over_ne (bs := l) (b := b) (o := b) z rfl⟩
  have i := idx_lt h
  have e := List.take_append_drop (l.idxOf b) l
  rw [List.drop_eq_getElem_cons i, List.getElem_idxOf i] at e
  exact e.symm
theorem lifted_seen {bs a : List Str} {b : Str} (nd : bs.Nodup) (ha : ∀ c ∈ a, c ∈ bs) (hb : b ∈ a) : (behindM bs a).idxOf b = dist (a.drop (a.length - a.reverse.idxOf b)) := by
  have hr : b ∈ a.reverse := List.mem_reverse.mpr hb
  obtain ⟨e, no⟩ := split_at hr
  have hn : b ∈ nub a.reverse := (nub_mem _ b).mpr hr
  rw [behind_is nd a ha, List.idxOf_append, if_pos hn]
  have k := nub_idx (l := a.reverse.take (a.reverse.idxOf b)) (r := a.reverse.drop (a.reverse.idxOf b + 1)) no
  rw [← e] at k
  rw [k]
  refine dist_of (nub_nodup _) fun z => ?_
  rw [nub_mem, List.take_reverse, List.mem_reverse]
theorem lifted_new {bs a : List Str} {b : Str} (nd : bs.Nodup) (ha : ∀ c ∈ a, c ∈ bs) (hbs : b ∈ bs) (hb : b ∉ a) : (behindM bs a).idxOf b = dist (a ++ over bs b) := by
  have hr : b ∉ nub a.reverse := fun z => hb (List.mem_reverse.mp ((nub_mem _ b).mp z))
  obtain ⟨e, no⟩ := split_at hbs
  have ef : (bs.filter fun z => decide (z ∉ a)).idxOf b = ((over bs b).filter fun z => decide (z ∉ a)).length := by
    have e2 : bs.filter (fun z => decide (z ∉ a)) = ((over bs b).filter fun z => decide (z ∉ a)) ++ b :: (bs.drop (bs.idxOf b + 1)).filter fun z => decide (z ∉ a) := by
      conv =>
        lhs
        rw [e]
      rw [List.filter_append, List.filter_cons_of_pos (by simpa using hb)]
      rfl
    rw [e2]
    exact idx_mid fun z => no ((List.mem_filter.mp z).1)
  rw [behind_is nd a ha, List.idxOf_append, if_neg hr, ef, Nat.add_comm, ← List.length_append]
  refine dist_of ?_ fun z => ?_
  · rw [List.nodup_append]
    refine ⟨nub_nodup _, (nd.sublist (List.take_sublist _ _)).filter _, fun x hx y hy xy => ?_⟩
    subst xy
    have z1 := List.mem_reverse.mp ((nub_mem _ _).mp hx)
    have z2 := (List.mem_filter.mp hy).2
    simp [z1] at z2
  · rw [List.mem_append, List.mem_append, nub_mem, List.mem_reverse, List.mem_filter]
    by_cases c : z ∈ a
    · simp [c]
    · simp [c]
theorem behindM_append (bs : List Str) : ∀ one two : List Str, behindM bs (one ++ two) = behindM (behindM bs one) two := by
  intro one
  induction one generalizing bs with
  | nil => intro two; rfl
  | cons x r ih => intro two; exact ih (lay bs x) two
theorem liftedM_append (bs : List Str) : ∀ one two : List Str, liftedM bs (one ++ two) = liftedM bs one ++ liftedM (behindM bs one) two := by
  intro one
  induction one generalizing bs with
  | nil => intro two; rfl
  | cons x r ih =>
    intro two
    show bs.idxOf x :: liftedM (lay bs x) (r ++ two) = bs.idxOf x :: (liftedM (lay bs x) r ++ liftedM (behindM (lay bs x) r) two)
    rw [ih]
theorem liftedM_get (bs : List Str) : ∀ (rs : List Str) (i : Nat) (b : Str), rs[i]? = some b → (liftedM bs rs)[i]? = some ((behindM bs (rs.take i)).idxOf b) := by
  intro rs
  induction rs generalizing bs with
  | nil => intro i b h; simp at h
  | cons x r ih =>
    intro i b h
    cases i with
    | zero =>
      simp only [List.getElem?_cons_zero, Option.some.injEq] at h
      subst h
      rfl
    | succ i =>
      simp only [List.getElem?_cons_succ] at h
      exact ih (lay bs x) i b h
/-! ### all that were lifted are all passings -/
theorem rows_count : ∀ {bs : List Str} (rs : List Str), (∀ b ∈ rs, b ∈ bs) → (rowsM bs rs).length = (liftedM bs rs).sum
  | bs, [], _ => rfl
  | bs, b :: r, h => by
    have hb := h b (List.mem_cons_self ..)
    have p := lay_perm hb
    have ih := rows_count (bs := lay bs b) r fun c hc => p.mem_iff.mpr (h c (List.mem_cons_of_mem _ hc))
    show ((over bs b).map (fun o => (b, o)) ++ rowsM (lay bs b) r).length = (bs.idxOf b :: liftedM (lay bs b) r).sum
    have i := idx_lt hb
    rw [List.length_append, List.length_map, ih, List.sum_cons]
    unfold over
    rw [List.length_take, Nat.min_eq_left (Nat.le_of_lt i)]
theorem sum_one {ps : List (Str × Str)} {q : Str × Str} (nd : ps.Nodup) (h : q ∈ ps) : (ps.map fun z => if q = z then 1 else 0).sum = 1 := by
  induction ps with
  | nil => cases h
  | cons a r ih =>
    rw [List.map_cons, List.sum_cons]
    obtain ⟨n1, n2⟩ := List.nodup_cons.mp nd
    by_cases e : q = a
    · subst e
      have z : (r.map fun z => if q = z then 1 else 0).sum = 0 := by
        have all : ∀ z ∈ r, q ≠ z := fun z hz e => n1 (e ▸ hz)
        clear ih h nd n1 n2
        induction r with
        | nil => rfl
        | cons c r ih2 =>
          rw [List.map_cons, List.sum_cons, if_neg (all c (List.mem_cons_self ..)), ih2 fun z hz => all z (List.mem_cons_of_mem _ hz)]
      rw [if_pos rfl, z]
    · rw [if_neg e, Nat.zero_add]
      exact ih n2 ((List.mem_cons.mp h).resolve_left e)
theorem cnt_sum {ps : List (Str × Str)} (nd : ps.Nodup) : ∀ rows : List (Str × Str), (∀ r ∈ rows, asPair r ∈ ps) → (ps.map fun q => cnt rows q).sum = rows.length := by
  intro rows
  have key : ∀ l : List (Str × Str), (∀ r ∈ l.reverse, asPair r ∈ ps) → (ps.map fun q => cnt l.reverse q).sum = l.length := by
    intro l
    induction l with
    | nil =>
      intro _
      have z : ∀ ps : List (Str × Str), (ps.map fun q => cnt [] q).sum = 0 := by
        intro ps
        induction ps with
        | nil => rfl
        | cons a r ih => rw [List.map_cons, List.sum_cons, cnt_nil, ih]
      exact z ps
    | cons r l ih =>
      intro h
      rw [List.reverse_cons] at h ⊢
      have hr := h r (by simp)
      have e : (ps.map fun q => cnt (l.reverse ++ [r]) q) = ps.map fun q => cnt l.reverse q + if asPair r = q then 1 else 0 := by
        apply List.map_congr_left
        intro q _
        exact cnt_snoc _ _ _
      have add : ∀ (ps : List (Str × Str)) (f g : Str × Str → Nat), (ps.map fun q => f q + g q).sum = (ps.map f).sum + (ps.map g).sum := by
        intro ps f g
        induction ps with
        | nil => rfl
        | cons a r ih =>
          rw [List.map_cons, List.sum_cons, List.map_cons, List.sum_cons, List.map_cons, List.sum_cons, ih]
          omega
      rw [e, add, ih fun z hz => h z (List.mem_append_left _ hz), sum_one nd hr, List.length_cons]
  intro h
  have z := key rows.reverse (by rw [List.reverse_reverse]; exact h)
  rw [List.reverse_reverse, List.length_reverse] at z
  exact z
theorem prs_fst {ys : List Str} : ∀ {n : Nat} {q : Str × Str}, q ∈ prs ys n → ∃ k, k < n ∧ ys[k]? = some q.1
  | 0, q, h => by cases h
  | n + 1, q, h => by
    cases e : ys[n]? with
    | none =>
      have e2 : prs ys (n + 1) = prs ys n ++ (match ys[n]? with | some a => (ys.drop (n + 1)).map fun b => (a, b) | none => []) := rfl
      rw [e2, e, List.append_nil] at h
      obtain ⟨k, h1, h2⟩ := prs_fst h
      exact ⟨k, by omega, h2⟩
    | some a =>
      rw [prs_succ e] at h
      rcases List.mem_append.mp h with h | h
      · obtain ⟨k, h1, h2⟩ := prs_fst h
        exact ⟨k, by omega, h2⟩
      · obtain ⟨b, hb, rfl⟩ := List.mem_map.mp h
        exact ⟨n, by omega, e⟩
theorem prs_nodup {ys : List Str} (nd : ys.Nodup) : ∀ n, (prs ys n).Nodup
  | 0 => List.nodup_nil
  | n + 1 => by
    cases e : ys[n]? with
    | none =>
      have e2 : prs ys (n + 1) = prs ys n ++ (match ys[n]? with | some a => (ys.drop (n + 1)).map fun b => (a, b) | none => []) := rfl
      rw [e2, e, List.append_nil]
      exact prs_nodup nd n
    | some a =>
      rw [prs_succ e, List.nodup_append]
      refine ⟨prs_nodup nd n, ?_, fun x hx y hy xy => ?_⟩
      · have nd2 : (ys.drop (n + 1)).Nodup := nd.sublist (List.drop_sublist _ _)
        exact List.Pairwise.map _ (fun x y ne z => ne (Prod.mk.inj z).2) nd2
      · subst xy
        obtain ⟨k, h1, h2⟩ := prs_fst hx
        obtain ⟨b, hb, rfl⟩ := List.mem_map.mp hy
        have z := nd_ix nd h2 e
        omega
end Lt

set_option Elab.async false
set_option linter.all false
set_option maxRecDepth 100000
set_option maxHeartbeats 4000000
namespace Lt
open PySem PySem.Spec PyProof.Rows L2
section
variable {P : Program} {w : World} {K : PySem.W.Frag} {mg : Str → Option Value} {base : Heap} {X : Cx}
theorem log_of {m : Int} (h0 : 0 < m) (h1 : m ≤ 1000000000000000000) : m.natAbs.log2 < 9000 := by
  have z : m.natAbs.log2 < 60 := (Nat.log2_lt (by omega)).mpr (Nat.lt_of_le_of_lt (show m.natAbs ≤ 1000000000000000000 by omega) (by decide))
  omega
theorem upd_self {H : Hp} {a : Addr} {o : HO} (h : H a = some o) : upd H a o = H := by
  funext b
  unfold upd
  by_cases e : b = a
  · rw [if_pos e, e, h]
  · rw [if_neg e]
def spDraw : Sp := fun vs H Q _ => ∃ (T S : Addr) (ns : List Int) (m : Int), vs = [.ref T, .int m] ∧ Tape H T S ns ∧ 0 < m ∧ m ≤ 1000000000000000000 ∧
  ∀ r i c : Int, 0 ≤ r → r < m → Q (.int r) (upd H T (.lst [.ref S, .int i, .int c]))
def Has (P : Program) (w : World) (K : PySem.W.Frag) (mg : Str → Option Value) (base : Heap) (k : Nat) (x : Str) (ps : List Str) (sp : Sp) : Prop :=
  ∃ (f : Addr) (fd : FuncData), FnOk P w K mg base CX0 k f fd ps sp ∧ mg x = some (.ref f) ∧ PySem.W.keepIn K (.ref f) = true ∧ Binds K fd ps []
theorem pe_go {k j : Nat} {x : Str} {ps : List Str} {sp : Sp} {e : Expr} {es : List Expr} {p pos : Pos} {t : TA} (c : Has X.prog X.w X.K X.mg X.base k x ps sp) (hr : Room j X.A) (hk : k ≤ j) (hg : Gl X x) (h : PA X (e :: es) t)
    (h1 : (x == ("__debug__" : Str)) = false := by decide) (h2 : starEach (e :: es) X.env = (false, eval e X.env) :: starEach es X.env := by rfl)
    (h3 : (backTo pos (starEach es X.env)).any (·.1) = false := by rfl) : PE X (.Call (.Name x p) (e :: es) [] pos) (tCall sp [] E0 t) := by
  obtain ⟨f, fd, F, m, kp, b⟩ := c
  exact pe_call F (hr.mono hk) hg m kp b .nil pass0 h h1 h2 h3
theorem pe_go0 {k j : Nat} {x : Str} {ps : List Str} {sp : Sp} {p pos : Pos} (c : Has X.prog X.w X.K X.mg X.base k x ps sp) (hr : Room j X.A) (hk : k ≤ j) (hg : Gl X x)
    (h1 : (x == ("__debug__" : Str)) = false := by decide) : PE X (.Call (.Name x p) [] [] pos) (tCall sp [] E0 tNil) := by
  obtain ⟨f, fd, F, m, kp, b⟩ := c
  exact pe_call0 F (hr.mono hk) hg m kp b .nil pass0 h1
structure Bi (mg : Str → Option Value) : Prop where
  len : mg "len" = none
  range : mg "range" = none
  tuple : mg "tuple" = none
  list : mg "list" = none
  sorted : mg "sorted" = none
  enumerate : mg "enumerate" = none
  isinstance : mg "isinstance" = none
  bool : mg "bool" = none
  set : mg "set" = none
  sum : mg "sum" = none
  min : mg "min" = none
  max : mg "max" = none
  dict : mg "dict" = none
  reversed : mg "reversed" = none
  all : mg "all" = none
  any : mg "any" = none
  int : mg "int" = none
  str : mg "str" = none
  zip : mg "zip" = none
def books : List Str := ["atlas", "bible", "comics", "diary", "essays", "fables", "guide"]
theorem books_nd : books.Nodup := by decide +kernel
theorem books_ok : ∀ b ∈ books, PyData.strOk b = true := by decide +kernel
structure IsPile (bs : List Str) : Prop where
  nd : bs.Nodup
  pos : 0 < bs.length
  most : bs.length ≤ 7
  ok : ∀ b ∈ bs, b ∈ books
abbrev natV (k : Nat) : V := .int (k : Int)
def spOrder : Sp := fun vs H Q _ => ∃ (T S : Addr) (ns : List Int) (n : Nat), vs = [.ref T, .int n] ∧ Tape H T S ns ∧ n ≤ 1000 ∧
  ∀ (p : Addr) (H' : Hp) (qs : List Nat), SameT T H H' → Tape H' T S ns → H p = none → H' p = some (.tup (qs.map natV)) → qs.Perm (List.range n) → Q (.ref p) H'
def spBooks : Sp := fun vs H Q _ => vs = [] ∧ ∀ p, H p = none → Q (.ref p) (upd H p (.lst (books.map V.str)))
def pick (bs : List Str) (qs : List Nat) : List Str := qs.map fun k => (bs[k]?).getD Str.empty
theorem pick_range (bs : List Str) : pick bs (List.range bs.length) = bs := by
  apply List.ext_getElem?
  intro i
  unfold pick
  rw [List.getElem?_map]
  by_cases h : i < bs.length
  · rw [List.getElem?_range h, List.getElem?_eq_getElem h]
    show some ((bs[i]?).getD Str.empty) = some bs[i]
    rw [List.getElem?_eq_getElem h]
    rfl
  · rw [List.getElem?_eq_none (by rw [List.length_range]; omega), List.getElem?_eq_none (by omega)]
    rfl
theorem pick_perm {bs : List Str} {qs : List Nat} (h : qs.Perm (List.range bs.length)) : (pick bs qs).Perm bs := by
  have q := h.map fun k => (bs[k]?).getD Str.empty
  have e : (List.range bs.length).map (fun k => (bs[k]?).getD Str.empty) = bs := pick_range bs
  rw [e] at q
  exact q
theorem pile_of {n : Nat} {qs : List Nat} (h0 : 0 < n) (h7 : n ≤ 7) (h : qs.Perm (List.range n)) : IsPile (pick (books.take n) qs) := by
  have hl : (books.take n).length = n := by
    rw [List.length_take]
    show min n 7 = n
    omega
  have p : (pick (books.take n) qs).Perm (books.take n) := pick_perm (by rw [hl]; exact h)
  refine ⟨p.nodup_iff.mpr (books_nd.sublist (List.take_sublist _ _)), ?_, ?_, fun b hb => List.mem_of_mem_take (p.mem_iff.mp hb)⟩
  · rw [p.length_eq, hl]
    exact h0
  · rw [p.length_eq, hl]
    exact h7
def spPile : Sp := fun vs H Q _ => ∃ (T S : Addr) (ns : List Int) (m : Int), vs = [.ref T, .int m] ∧ Tape H T S ns ∧ 0 < m ∧ m ≤ 7 ∧
  ∀ (p : Addr) (H' : Hp) (bs : List Str), SameT T H H' → Tape H' T S ns → H p = none → TpO H' p (bs.map V.str) → IsPile bs → (bs.length : Int) ≤ m → Q (.ref p) H'
def spReadings : Sp := fun vs H Q _ => ∃ (T S p : Addr) (ns : List Int) (bs : List Str) (m : Int), vs = [.ref T, .ref p, .int m] ∧ Tape H T S ns ∧ TpO H p (bs.map V.str) ∧ 0 < bs.length ∧ bs.length ≤ 7 ∧ 0 ≤ m ∧ m ≤ 60 ∧
  ∀ (l : Addr) (H' : Hp) (rs : List Str), SameT T H H' → Tape H' T S ns → H l = none → H' l = some (.lst (rs.map V.str)) → (rs.length : Int) ≤ m → (∀ b ∈ rs, b ∈ bs) → Q (.ref l) H'
theorem lay_map (bs : List Str) (b : Str) : (lay bs b).map V.str = [V.str b] ++ ((bs.take (bs.idxOf b)).map V.str ++ (bs.drop (bs.idxOf b + 1)).map V.str) := by
  unfold lay
  rw [List.map_cons, List.eraseIdx_eq_take_drop_succ, List.map_append]
  rfl
def spLaid : Sp := fun vs H Q _ => ∃ (p : Addr) (bs : List Str) (b : Str), vs = [.ref p, .str b] ∧ TpO H p (bs.map V.str) ∧ b ∈ bs ∧ bs.length ≤ 1000 ∧
  ∀ (q : Addr) (H' : Hp), Same H H' → TpO H' q ((lay bs b).map V.str) → Q (.ref q) H'
def spAbove : Sp := fun vs H Q _ => ∃ (p : Addr) (bs : List Str) (b : Str), vs = [.ref p, .str b] ∧ TpO H p (bs.map V.str) ∧ b ∈ bs ∧
  ∀ (q : Addr) (H' : Hp), Same H H' → H' q = some (.tup ((over bs b).map V.str)) → Q (.ref q) H'
def spAsPair : Sp := fun vs H Q _ => ∃ a b : Str, vs = [.str a, .str b] ∧ ∀ q : Addr, H q = none → Q (.ref q) (upd H q (.tup [.str (asPair (a, b)).1, .str (asPair (a, b)).2]))
def spBehind : Sp := fun vs H Q _ => ∃ (p r : Addr) (bs rs : List Str), vs = [.ref p, .ref r] ∧ TpO H p (bs.map V.str) ∧ H r = some (.lst (rs.map V.str)) ∧ bs.length ≤ 1000 ∧ (∀ b ∈ rs, b ∈ bs) ∧
  ∀ (q : Addr) (H' : Hp), Same H H' → TpO H' q ((behindM bs rs).map V.str) → Q (.ref q) H'
theorem take_step {rs : List Str} {i : Nat} {b : Str} (h : rs[i]? = some b) : rs.take (i + 1) = rs.take i ++ [b] := by
  rw [List.take_add_one, h]
  rfl
theorem take_sub {bs rs : List Str} (h : ∀ b ∈ rs, b ∈ bs) (i : Nat) : ∀ b ∈ rs.take i, b ∈ bs := fun b hb => h b (List.mem_of_mem_take hb)
theorem strs_get {rs : List Str} {i : Nat} {x : V} (h : (rs.map V.str)[i]? = some x) : ∃ b, rs[i]? = some b ∧ x = .str b := by
  rw [List.getElem?_map] at h
  cases e : rs[i]? with
  | none =>
    rw [e] at h
    cases h
  | some b =>
    rw [e] at h
    cases h
    exact ⟨b, rfl, rfl⟩
def spLifted : Sp := fun vs H Q _ => ∃ (p r : Addr) (bs rs : List Str), vs = [.ref p, .ref r] ∧ TpO H p (bs.map V.str) ∧ H r = some (.lst (rs.map V.str)) ∧ bs.length ≤ 1000 ∧ rs.length ≤ 1000 ∧ (∀ b ∈ rs, b ∈ bs) ∧
  ∀ (l : Addr) (H' : Hp), Same H H' → H l = none → H' l = some (.lst ((liftedM bs rs).map natV)) → Q (.ref l) H'
theorem liftedM_len (bs : List Str) : ∀ rs : List Str, (liftedM bs rs).length = rs.length := by
  intro rs
  induction rs generalizing bs with
  | nil => rfl
  | cons x r ih => exact congrArg (· + 1) (ih (lay bs x))
def KeepT (H H' : Hp) : Prop := ∀ b xs, H b = some (.tup xs) → H' b = some (.tup xs)
theorem KeepT.of {H H' : Hp} (s : Same H H') : KeepT H H' := fun b xs h => s _ _ h
theorem KeepT.put {H : Hp} {D : Addr} {o : HO} {u : HO} (h : H D = some u) (n : ∀ xs, u ≠ .tup xs) : KeepT H (upd H D o) := fun b xs q => by
  rw [upd_ne (ne_of q h fun z => n xs z.symm)]
  exact q
theorem KeepT.trans {H H1 H2 : Hp} (a : KeepT H H1) (b : KeepT H1 H2) : KeepT H H2 := fun c xs h => b c xs (a c xs h)
def PairsL (H : Hp) (ts : List Addr) (ps : List (Str × Str)) : Prop := ts.length = ps.length ∧ ∀ (i : Nat) (t : Addr) (q : Str × Str), ts[i]? = some t → ps[i]? = some q → H t = some (.tup [.str q.1, .str q.2])
theorem PairsL.nil (H : Hp) : PairsL H [] [] := ⟨rfl, fun i t q h => by simp at h⟩
theorem PairsL.move {H H' : Hp} {ts : List Addr} {ps : List (Str × Str)} (h : PairsL H ts ps) (k : KeepT H H') : PairsL H' ts ps := ⟨h.1, fun i t q a b => k _ _ (h.2 i t q a b)⟩
theorem PairsL.snoc {H : Hp} {ts : List Addr} {ps : List (Str × Str)} {t : Addr} {q : Str × Str} (h : PairsL H ts ps) (ht : H t = some (.tup [.str q.1, .str q.2])) : PairsL H (ts ++ [t]) (ps ++ [q]) := by
  refine ⟨by rw [List.length_append, List.length_append, h.1]; rfl, fun i t' q' a b => ?_⟩
  by_cases hi : i < ts.length
  · rw [List.getElem?_append_left hi] at a
    rw [List.getElem?_append_left (by rw [← h.1]; exact hi)] at b
    exact h.2 i t' q' a b
  · rw [List.getElem?_append_right (by omega)] at a
    rw [List.getElem?_append_right (by rw [← h.1]; omega), ← h.1] at b
    by_cases hz : i - ts.length = 0
    · rw [hz] at a b
      cases a
      cases b
      exact ht
    · rw [List.getElem?_eq_none (by rw [List.length_singleton]; omega)] at a
      cases a
abbrev sPairsData (ps : List (Str × Str)) : List PyData := ps.map fun q => .tuple [.str q.1, .str q.2]
theorem PairsL.dp {K : PySem.W.Frag} {H : Hp} : ∀ {ts : List Addr} {ps : List (Str × Str)}, PairsL H ts ps → DpAll K H (ts.map V.ref) (sPairsData ps)
  | [], [], _ => .nil
  | [], q :: r, h => by cases h.1
  | t :: ts, [], h => by cases h.1
  | t :: ts, q :: r, h => by
    refine .cons (.tup (sqt (h.2 0 t q rfl rfl)) (.cons (.str _) (.cons (.str _) .nil))) (PairsL.dp ⟨by simpa using h.1, fun i t' q' a b => h.2 (i + 1) t' q' a b⟩)
def spPairs (K : PySem.W.Frag) : Sp := fun vs H Q _ => ∃ (p : Addr) (bs : List Str), vs = [.ref p] ∧ SqT K H p (bs.map V.str) ∧ bs.length ≤ 20 ∧
  ∀ (l : Addr) (H' : Hp) (ys : List Str) (ts : List Addr), Same H H' → ys.Perm bs → sortedS ys = true → H l = none → H' l = some (.lst (ts.map V.ref)) → PairsL H' ts (prs ys ys.length) → Q (.ref l) H'
def key (q : Str × Str) : List Key := [Sum.inr q.1, Sum.inr q.2]
theorem key_inj {q r : Str × Str} (h : key q = key r) : q = r := by
  unfold key at h
  injection h with h1 h2
  injection h2 with h2 _
  injection h1 with h1
  injection h2 with h2
  exact Prod.ext h1 h2
theorem key_map (q : Str × Str) : (key q).map kV = [V.str q.1, V.str q.2] := rfl
def Counts (kvs : List (List Key × V)) (ps : List (Str × Str)) (rows : List (Str × Str)) : Prop := ∀ q ∈ ps, valV kvs (key q) = some (natV (cnt rows q))
theorem Counts.more {kvs : List (List Key × V)} {ps rows : List (Str × Str)} (h : Counts kvs ps rows) {r : Str × Str} (hr : asPair r ∈ ps) :
    Counts (putK kvs (key (asPair r)) (.int ((cnt rows (asPair r) : Int) + 1))) ps (rows ++ [r]) := fun q hq => by
  rw [valV_put, cnt_snoc]
  by_cases e : asPair r = q
  · subst e
    rw [if_pos rfl, if_pos rfl]
    rfl
  · rw [if_neg (fun z => e (key_inj z).symm), if_neg e, Nat.add_zero]
    exact h q hq
abbrev tri (rows : List (Str × Str)) (q : Str × Str) : PyData := .tuple [.str q.1, .str q.2, .int (cnt rows q : Nat)]
def TriL (rows : List (Str × Str)) (H : Hp) (ts : List Addr) (ps : List (Str × Str)) : Prop := ts.length = ps.length ∧
  ∀ (i : Nat) (t : Addr) (q : Str × Str), ts[i]? = some t → ps[i]? = some q → H t = some (.tup [.str q.1, .str q.2, natV (cnt rows q)])
theorem TriL.move {rows : List (Str × Str)} {H H' : Hp} {ts : List Addr} {ps : List (Str × Str)} (h : TriL rows H ts ps) (k : KeepT H H') : TriL rows H' ts ps := ⟨h.1, fun i t q a b => k _ _ (h.2 i t q a b)⟩
theorem TriL.snoc {rows : List (Str × Str)} {H : Hp} {ts : List Addr} {ps : List (Str × Str)} {t : Addr} {q : Str × Str} (h : TriL rows H ts ps) (ht : H t = some (.tup [.str q.1, .str q.2, natV (cnt rows q)])) : TriL rows H (ts ++ [t]) (ps ++ [q]) := by
  refine ⟨by rw [List.length_append, List.length_append, h.1]; rfl, fun i t' q' a b => ?_⟩
  by_cases hi : i < ts.length
  · rw [List.getElem?_append_left hi] at a
    rw [List.getElem?_append_left (by rw [← h.1]; exact hi)] at b
    exact h.2 i t' q' a b
  · rw [List.getElem?_append_right (by omega)] at a
    rw [List.getElem?_append_right (by rw [← h.1]; omega), ← h.1] at b
    by_cases hz : i - ts.length = 0
    · rw [hz] at a b
      cases a
      cases b
      exact ht
    · rw [List.getElem?_eq_none (by rw [List.length_singleton]; omega)] at a
      cases a
theorem TriL.dp {rows : List (Str × Str)} {K : PySem.W.Frag} {H : Hp} : ∀ {ts : List Addr} {ps : List (Str × Str)}, TriL rows H ts ps → DpAll K H (ts.map V.ref) (ps.map (tri rows))
  | [], [], _ => .nil
  | [], q :: r, h => by cases h.1
  | t :: ts, [], h => by cases h.1
  | t :: ts, q :: r, h =>
    .cons (.tup (sqt (h.2 0 t q rfl rfl)) (.cons (.str _) (.cons (.str _) (.cons (.int _) .nil)))) (TriL.dp ⟨by simpa using h.1, fun i t' q' a b => h.2 (i + 1) t' q' a b⟩)
theorem rowsM_len : ∀ {bs : List Str} (rs : List Str), (∀ b ∈ rs, b ∈ bs) → (rowsM bs rs).length ≤ rs.length * bs.length
  | bs, [], _ => Nat.zero_le _
  | bs, b :: r, h => by
    have p := lay_perm (h b (List.mem_cons_self ..))
    have ih := rowsM_len (bs := lay bs b) r fun c hc => p.mem_iff.mpr (h c (List.mem_cons_of_mem _ hc))
    rw [p.length_eq] at ih
    show ((over bs b).map (fun o => (b, o)) ++ rowsM (lay bs b) r).length ≤ (r.length + 1) * bs.length
    rw [List.length_append, List.length_map, Nat.succ_mul]
    have z : (over bs b).length ≤ bs.length := by
      unfold over
      rw [List.length_take]
      omega
    omega
def spPassings (K : PySem.W.Frag) : Sp := fun vs H Q _ => ∃ (p r : Addr) (bs rs : List Str), vs = [.ref p, .ref r] ∧ TpO H p (bs.map V.str) ∧ H r = some (.lst (rs.map V.str)) ∧ bs.length ≤ 7 ∧ rs.length ≤ 60 ∧ (∀ b ∈ rs, b ∈ bs) ∧
  ∀ (l : Addr) (H' : Hp) (ys : List Str) (xs : List V), Same H H' → H l = none → ys.Perm bs → sortedS ys = true → H' l = some (.lst xs) → DpAll K H' xs ((prs ys ys.length).map (tri (rowsM bs rs))) → Q (.ref l) H'
def spRead : Sp := fun vs H Q _ => ∃ (p r : Addr) (bs rs : List Str), vs = [.ref p, .ref r] ∧ TpO H p (bs.map V.str) ∧ H r = some (.lst (rs.map V.str)) ∧ bs.length ≤ 7 ∧ rs.length ≤ 60 ∧ (∀ b ∈ rs, b ∈ bs) ∧
  ∀ (t a n o : Addr) (H' : Hp) (ts : List Addr), Same H H' → H' t = some (.tup [.ref a, .ref n, .ref o]) → H' a = some (.tup ((behindM bs rs).map V.str)) → H' n = some (.lst ((liftedM bs rs).map natV)) →
    H' o = some (.lst (ts.map V.ref)) → PairsL H' ts (rowsM bs rs) → Q (.ref t) H'
theorem flat_map (ss : List Str) : (ss.map V.str).all flatV = true := flat_strs ss
theorem eqv_two (a b c d : Str) : PyData.eqv (.list [.str a, .str b]) (.list [.str c, .str d]) = decide ((a, b) = (c, d)) := by
  simp only [PyData.eqv, PyData.eqvAll, Bool.and_true]
  by_cases h1 : a = c
  · by_cases h2 : b = d
    · subst h1 h2
      simp
    · have z : (b == d) = false := beq_eq_false_iff_ne.mpr h2
      rw [z, Bool.and_false]
      exact (decide_eq_false fun e => h2 (Prod.mk.inj e).2).symm
  · have z : (a == c) = false := beq_eq_false_iff_ne.mpr h1
    rw [z, Bool.false_and]
    exact (decide_eq_false fun e => h1 (Prod.mk.inj e).1).symm
theorem shaped_two {a b : Str} (ha : PyData.strOk a = true) (hb : PyData.strOk b = true) : SeqAt.shaped (.list [.str a, .str b]) = true :=
  shaped_of (by simp [PyData.canLay0, PyData.canLayAll0, ha, hb]) (by simp [PyData.depth, PyData.depthAll])
def spTwo (K : PySem.W.Frag) : Sp := fun vs H Q _ => ∃ (p r : Addr) (bs : List Str) (ts : List Addr) (rows : List (Str × Str)), vs = [.ref p, .ref r] ∧ SqT K H p (bs.map V.str) ∧ bs.length ≤ 7 ∧ (∀ b ∈ bs, PyData.strOk b = true) ∧
  H r = some (.lst (ts.map V.ref)) ∧ PairsL H ts rows ∧ rows.length ≤ 900 ∧ (∀ z ∈ rows, PyData.strOk z.1 = true ∧ PyData.strOk z.2 = true) ∧
  ∀ (l : Addr) (H' : Hp) (ys : List Str) (xs : List V), Same H H' → H l = none → ys.Perm bs → sortedS ys = true → H' l = some (.lst xs) → DpAll K H' xs ((prs ys ys.length).map (tri rows)) → Q (.ref l) H'
def kindName : PyData → String
  | .none => "NoneType"
  | .bool _ => "bool"
  | .int _ => "int"
  | .str _ => "str"
  | .list _ => "list"
  | .tuple _ => "tuple"
  | .dict _ => "dict"
theorem ty_dp {H : Hp} {v : V} {d : PyData} (h : Dp K H v d) : TyX K H v (.type (kindName d)) := by
  cases h with
  | non => exact .base .non
  | bl b => exact .base (.bl b)
  | int i => exact .base (.int i)
  | str x => exact .base (.str x)
  | lst h a =>
    rcases h with (h | ⟨o, h⟩) | ⟨o, its, n, h, hc, _⟩
    · exact .base (.lst h)
    · exact .base (.frz h)
    · exact .kList h hc
  | tup h a =>
    rcases h with (h | ⟨o, h⟩) | ⟨o, its, n, h, hc, _⟩
    · exact .base (.tup h)
    · exact .fTuple h
    · exact .kTuple h hc
def Fine : Nat → PyData → Prop
  | _, .none => True
  | _, .bool _ => True
  | _, .int _ => True
  | _, .str x => PyData.strOk x = true
  | 0, .list _ => False
  | 0, .tuple _ => False
  | n + 1, .list ds => ds.length ≤ 1000 ∧ ∀ d ∈ ds, Fine n d
  | n + 1, .tuple ds => ds.length ≤ 1000 ∧ ∀ d ∈ ds, Fine n d
  | _, .dict _ => False
theorem kit_yes {K : PySem.W.Frag} {a : String} {cs : List Value} {b : String} (h : kitB a b = some true) : PySem.W.kitAny K (.type a) (.type b :: cs) = some true :=
  kitAny_cons (kit_ty h) (fun z => nomatch z) fun _ => rfl
theorem kit_no {K : PySem.W.Frag} {a : String} {cs : List Value} {b : String} {r : Bool} (h : kitB a b = some false) (t : PySem.W.kitAny K (.type a) cs = some r) : PySem.W.kitAny K (.type a) (.type b :: cs) = some r :=
  kitAny_cons (kit_ty h) (fun _ => t) fun z => nomatch z
theorem ixS (e : X.K = K) : IxR X (rIx K) := by
  subst e
  exact ix_seq
def spLike (K : PySem.W.Frag) (n : Nat) : Sp := fun vs H Q _ => ∃ (v1 v2 : V) (d : PyData) (m : Nat), n = m + 1 ∧ vs = [v1, v2] ∧ Dp K H v1 d ∧ Dp K H v2 d ∧ Fine m d ∧ ∀ H', Same H H' → Q (.bl true) H'
theorem fine_strs {ss : List Str} (hl : ss.length ≤ 1000) (ok : ∀ b ∈ ss, PyData.strOk b = true) (n : Nat) : Fine (n + 1) (.tuple (ss.map PyData.str)) := by
  refine ⟨by rw [List.length_map]; exact hl, fun d hd => ?_⟩
  obtain ⟨b, hb, rfl⟩ := List.mem_map.mp hd
  cases n <;> exact ok b hb
theorem fine_nats {ns : List Nat} (hl : ns.length ≤ 1000) (n : Nat) : Fine (n + 1) (.list ((ns.map fun k : Nat => (k : Int)).map PyData.int)) := by
  refine ⟨by rw [List.length_map, List.length_map]; exact hl, fun d hd => ?_⟩
  obtain ⟨b, hb, rfl⟩ := List.mem_map.mp hd
  cases n <;> exact True.intro
theorem natV_map (ns : List Nat) : ns.map natV = (ns.map fun k : Nat => (k : Int)).map V.int := by
  rw [List.map_map]
  rfl
theorem prs_sub {ys : List Str} : ∀ {n : Nat} {q : Str × Str}, q ∈ prs ys n → q.1 ∈ ys ∧ q.2 ∈ ys
  | 0, q, h => by cases h
  | n + 1, q, h => by
    cases e : ys[n]? with
    | none =>
      have e2 : prs ys (n + 1) = prs ys n ++ (match ys[n]? with | some a => (ys.drop (n + 1)).map fun b => (a, b) | none => []) := rfl
      rw [e2, e, List.append_nil] at h
      exact prs_sub h
    | some a =>
      rw [prs_succ e] at h
      rcases List.mem_append.mp h with h | h
      · exact prs_sub h
      · obtain ⟨b, hb, rfl⟩ := List.mem_map.mp h
        exact ⟨List.mem_of_getElem? e, List.mem_of_mem_drop hb⟩
theorem fine_tri {ys : List Str} {rows : List (Str × Str)} (hl : ys.length ≤ 7) (ok : ∀ b ∈ ys, PyData.strOk b = true) (n : Nat) : Fine (n + 2) (.list ((prs ys ys.length).map (tri rows))) := by
  have lp : (prs ys ys.length).length ≤ 49 := by
    have z := prs_len ys ys.length
    have z2 : ys.length * ys.length ≤ 7 * 7 := Nat.mul_le_mul hl hl
    omega
  refine ⟨by rw [List.length_map]; omega, fun d hd => ?_⟩
  obtain ⟨q, hq, rfl⟩ := List.mem_map.mp hd
  have z := prs_sub hq
  refine ⟨by show 3 ≤ 1000; decide, fun d hd => ?_⟩
  simp only [List.mem_cons, List.not_mem_nil, or_false] at hd
  rcases hd with rfl | rfl | rfl
  · cases n <;> exact ok _ z.1
  · cases n <;> exact ok _ z.2
  · cases n <;> exact True.intro
theorem fine_can : ∀ (n : Nat) (d : PyData), Fine n d → d.canLay0 = true ∧ d.depth ≤ n
  | n, .none, _ => ⟨by simp [PyData.canLay0], by simp [PyData.depth]⟩
  | n, .bool _, _ => ⟨by simp [PyData.canLay0], by simp [PyData.depth]⟩
  | n, .int _, _ => ⟨by simp [PyData.canLay0], by simp [PyData.depth]⟩
  | n, .str x, h => by
    have h' : PyData.strOk x = true := by cases n <;> exact h
    exact ⟨by simp [PyData.canLay0, h'], by simp [PyData.depth]⟩
  | 0, .list _, h => h.elim
  | 0, .tuple _, h => h.elim
  | n + 1, .list ds, h => by
    have a := fun d hd => fine_can n d (h.2 d hd)
    refine ⟨by rw [PyData.canLay0]; exact canAll ds fun d hd => (a d hd).1, ?_⟩
    rw [PyData.depth]
    exact Nat.succ_le_succ (depthAll_le ds fun d hd => (a d hd).2)
  | n + 1, .tuple ds, h => by
    have a := fun d hd => fine_can n d (h.2 d hd)
    refine ⟨by rw [PyData.canLay0]; exact canAll ds fun d hd => (a d hd).1, ?_⟩
    rw [PyData.depth]
    exact Nat.succ_le_succ (depthAll_le ds fun d hd => (a d hd).2)
  | n, .dict _, h => by cases n <;> exact h.elim
theorem fine_shaped {n : Nat} {d : PyData} (h : Fine n d) (hn : n ≤ 64) : SeqAt.shaped d = true := shaped_of (fine_can n d h).1 (Nat.le_trans (fine_can n d h).2 hn)
theorem fine_eqv {n : Nat} {d : PyData} (h : Fine n d) : PyData.eqv d d = true := PySem.SeqAt.eqv_refl d (fine_can n d h).1
theorem rowsM_sub : ∀ {bs : List Str} (rs : List Str), (∀ b ∈ rs, b ∈ bs) → ∀ z ∈ rowsM bs rs, z.1 ∈ bs ∧ z.2 ∈ bs
  | bs, [], _, z, hz => by cases hz
  | bs, b :: r, h, z, hz => by
    have hb := h b (List.mem_cons_self ..)
    have p := lay_perm hb
    rcases List.mem_append.mp (show z ∈ (over bs b).map (fun o => (b, o)) ++ rowsM (lay bs b) r from hz) with hz | hz
    · obtain ⟨o, ho, rfl⟩ := List.mem_map.mp hz
      exact ⟨hb, over_mem ho⟩
    · have q := rowsM_sub (bs := lay bs b) r (fun c hc => p.mem_iff.mpr (h c (List.mem_cons_of_mem _ hc))) z hz
      exact ⟨p.mem_iff.mp q.1, p.mem_iff.mp q.2⟩
def spLaw (K : PySem.W.Frag) : Sp := fun vs H Q _ => ∃ (a : Addr) (ns : List Int), vs = [.ref a] ∧ SqL K H a (ns.map V.int) ∧ ns.length ≤ 63 ∧ ∀ H', Q (.bl true) H'
end
end Lt

set_option Elab.async false
set_option linter.all false
set_option maxRecDepth 100000
set_option maxHeartbeats 4000000
namespace Lt
open PySem PySem.Spec PyProof.Rows L2
/-! rows of texts compared, asked, cut -/
theorem eqvAll_strs : ∀ xs ys : List Str, PyData.eqvAll (xs.map PyData.str) (ys.map PyData.str) = decide (xs = ys)
  | [], [] => rfl
  | [], y :: r => rfl
  | x :: r, [] => rfl
  | x :: r, y :: t => by
    show ((x == y) && PyData.eqvAll (r.map PyData.str) (t.map PyData.str)) = _
    rw [eqvAll_strs r t]
    by_cases c : x = y
    · subst c
      rw [beq_self_eq_true, Bool.true_and, decide_eq_decide]
      exact ⟨fun h => by rw [h], fun h => (List.cons.inj h).2⟩
    · rw [beq_eq_false_iff_ne.mpr c, Bool.false_and]
      exact (decide_eq_false fun h => c (List.cons.inj h).1).symm
theorem eqvL_strs (xs ys : List Str) : PyData.eqv (.list (xs.map PyData.str)) (.list (ys.map PyData.str)) = decide (xs = ys) := by
  rw [← eqvAll_strs]
  simp only [PyData.eqv]
theorem eqvT_strs (xs ys : List Str) : PyData.eqv (.tuple (xs.map PyData.str)) (.tuple (ys.map PyData.str)) = decide (xs = ys) := by
  rw [← eqvAll_strs]
  simp only [PyData.eqv]
theorem inV_strs (b : Str) (l : List Str) : inV (.str b) (l.map V.str) = decide (b ∈ l) := by
  unfold inV
  induction l with
  | nil => rfl
  | cons x r ih =>
    rw [List.map_cons, List.any_cons, ih]
    show ((x == b) || decide (b ∈ r)) = decide (b ∈ x :: r)
    by_cases e : x = b
    · subst e
      simp
    · have z : (x == b) = false := beq_eq_false_iff_ne.mpr e
      rw [z, Bool.false_or]
      by_cases c : b ∈ r
      · simp [c]
      · simp [c, Ne.symm e]
theorem oIn {X : Cx} {K : PySem.W.Frag} (e : X.K = K) : OpR X (compareOp .In) (rIn K false) := by
  subst e
  exact op_in_seq
theorem cut_all {xs : List V} {lo hi : Option Int} (h : HT.sIx xs.length 0 lo = 0 ∧ HT.sIx xs.length xs.length hi = xs.length) : cutV xs lo hi = xs := by
  unfold cutV
  rw [h.1, h.2, List.drop_zero, Nat.sub_zero, List.take_length]
/-- a tuple's slice: some tuple of the cut -/
theorem sl_of {K : PySem.W.Frag} {H : Hp} {a : Addr} {xs ys : List V} {lo hi : Option Int} {Q : VK} (sq : SqT K H a xs) (e : cutV xs lo hi = ys) (h : ∀ (b : Addr) (H2 : Hp), Same H H2 → SqT K H2 b ys → Q (.ref b) H2) : rSlA K (.ref a) lo hi H Q := by
  refine ⟨a, xs, rfl, sq, fun z => ?_, fun _ p hp => ?_⟩
  · rw [cut_all z] at e
    subst e
    exact h a H (fun _ _ h => h) sq
  · rw [e]
    exact h p _ (same_new hp _) (sqt upd_same)
theorem sl_lo {K : PySem.W.Frag} {σ : L2.St} {H : Hp} {a : Addr} {xs ys : List V} {lo : Option Int} {Q : VK} (sq : SqT K H a xs) (e : cutV xs lo none = ys) (h : ∀ (b : Addr) (H2 : Hp), Same H H2 → SqT K H2 b ys → Q (.ref b) H2) :
    tNoPart σ H fun u H3 => rSlA K (.ref a) lo u H3 Q := sl_of (lo := lo) (hi := none) sq e h
theorem filt_y {α : Type} {p : α → Bool} {b : α} (c : p b = true) : [b].filter p = [b] := by
  rw [List.filter_cons_of_pos c, List.filter_nil]
theorem filt_n {α : Type} {p : α → Bool} {b : α} (c : ¬ p b = true) : [b].filter p = [] := by
  rw [List.filter_cons_of_neg c, List.filter_nil]
/-- an expression with a word behind it: what follows is shown once -/
def tMid (te : TE) : TE := fun σ H Q => ∃ Mid : V → Hp → Prop, te σ H Mid ∧ ∀ v H', Mid v H' → Q v H'
theorem pe_mid {X : Cx} {e : Expr} {te : TE} (h : PE X e te) : PE X e (tMid te) :=
  ⟨fun pins s σ H Q I ⟨Mid, h1, h2⟩ => thn (h.run pins s σ H Mid I h1) fun v s1 ⟨x, H1, I1, r1, q1⟩ => ⟨x, H1, I1, r1, h2 _ _ q1⟩⟩
/-! a reading's first step, by its name -/
theorem un_seq {t u : TS} {D : Ends} {σ : L2.St} {H : Hp} (h : t { D with nx := u D } σ H) : tSeq t u D σ H := h
theorem un_if {r : R2} {a b : TE} {t u : TS} {D : Ends} {σ : L2.St} {H : Hp} (h : a σ H fun x H1 => b σ H1 fun y H2 => r x y H2 fun v H3 => ∃ k, v = .bl k ∧ if k = true then t D σ H3 else u D σ H3) : tIfS (tTest (tOp r a b)) t u D σ H := h
theorem un_asg {te : TE} {g : TG} {D : Ends} {σ : L2.St} {H : Hp} (h : te σ H fun x H1 => g x σ H1 D.nx) : tAsg te g D σ H := h
theorem un_for {wi : TI} {g : TG} {tb : TS} {D : Ends} {σ : L2.St} {H : Hp} (h : wi σ H fun J H1 => ∃ W : Nat → Nat → L2.St → Hp → Prop, (∃ m, W 0 m σ H1) ∧ ∀ i m σ H, W i m σ H →
  (J.stop i H ∧ D.nx σ H) ∨ (J.go i H ∧ ∃ N : L2.St → Hp → Prop, (∀ σ' H', N σ' H' → ∃ m', m' < m ∧ W (i + 1) m' σ' H') ∧ ∀ x H', J.yld i H x H' → g x σ H' fun σ2 H2 => tb { D with nx := N, ct := N, bk := D.nx } σ2 H2)) : tFor wi g tb D σ H := h
theorem cut_low {xs : List V} {j : Nat} {z : Int} (e : z = (j : Int)) (h : j ≤ xs.length) : cutV xs (some z) none = xs.drop j := by
  rw [e]
  exact cut_from h
theorem cut_high {xs : List V} {j : Nat} {z : Int} (e : z = (j : Int)) (h : j ≤ xs.length) : cutV xs none (some z) = xs.take j := by
  rw [e]
  exact cut_to h
end Lt

set_option Elab.async false
set_option linter.all false
set_option maxRecDepth 100000
set_option maxHeartbeats 4000000
/-! slices and sums of tuples whose kind is known: of the same kind again. -/
namespace Lt
open PySem PySem.Spec PyProof.Rows L2
section
variable {X : Cx}
def rSlY : V → Option Int → Option Int → Hp → VK → Prop := fun x lo hi H Q => ∃ (a : Addr) (xs : List V), x = .ref a ∧ TpO H a xs ∧ ∀ (c : Addr) (H2 : Hp), Same H H2 → TpO H2 c (cutV xs lo hi) → Q (.ref c) H2
theorem sl_tupY : SlR X rSlY := by
  rintro pins s σ H _ v vl vu lo hi sl Q inv rx hs pl pu ⟨a, xs, rfl, ha, q⟩
  by_cases hw : HT.sIx xs.length 0 lo = 0 ∧ HT.sIx xs.length xs.length hi = xs.length
  · exact sl_tupA pins s σ H _ v vl vu lo hi sl Q inv rx hs pl pu ⟨a, xs, rfl, ha.sqt, fun _ => q a H (fun _ _ h => h) (by rw [cut_all hw]; exact ha), fun z => absurd hw z⟩
  · cases rx
    obtain ⟨its, vals, tup, fit⟩ := inv.tuple (ha.sqt (K := X.K))
    have len : its.toArray.size = xs.length := by rw [List.size_toArray]; exact vals.length.symm
    refine ⟨"tuple", _, PyProof.Rows.slot_tuple_getitem.lookup, tup.typeIs, HT.getItem_tuple_cut tup hs pl pu (by rw [len]; exact hw) ?_ (by rw [len]; exact fit)⟩
    rw [len]
    exact laid_fz (s := s) inv ((vals.drop (HT.sIx xs.length 0 lo)).take (HT.sIx xs.length xs.length hi - HT.sIx xs.length 0 lo)) (Nat.le_trans (cutV_length xs lo hi) fit) fun p u hp hu => q p _ (same_new hp u) (TpO.new hu)
def rCatY : R2 := fun x y H Q => ∃ (a b : Addr) (xs ys : List V), x = .ref a ∧ y = .ref b ∧ TpO H a xs ∧ TpO H b ys ∧ xs.length + ys.length ≤ sizeLine ∧ ∀ (c : Addr) (H2 : Hp), Same H H2 → TpO H2 c (xs ++ ys) → Q (.ref c) H2
theorem op_catY : OpR X (binaryOp .Add) rCatY := by
  rintro pins s σ H _ _ v u Q inv rx ry ⟨a, b, xs, ys, rfl, rfl, ha, hb, fit, q⟩
  by_cases e : xs = []
  · subst e
    cases rx
    cases ry
    obtain ⟨its, r1, p1, _⟩ := inv.tuple (ha.sqt (K := X.K))
    obtain ⟨its2, r2, p2, _⟩ := inv.tuple (hb.sqt (K := X.K))
    cases r1
    exact cat_tup0 p1 p2 ⟨.ref b, H, inv, rfl, q b H (fun _ _ h => h) hb⟩
  · exact op_catZ pins s σ H _ _ v u Q inv rx ry ⟨a, b, xs, ys, rfl, rfl, ha.sqt, hb.sqt, e, fit, fun z => q a H (fun _ _ h => h) (by rw [z, List.append_nil]; exact ha), fun _ p w hp hw => q p _ (same_new hp w) (TpO.new hw)⟩
end
theorem cut_mid {xs : List V} {i j : Nat} {y z : Int} (ey : y = (i : Int)) (ez : z = (j : Int)) (hi : i ≤ xs.length) (hj : j ≤ xs.length) : cutV xs (some y) (some z) = (xs.drop i).take (j - i) := by
  rw [ey, ez]
  unfold cutV
  rw [HT.sIx_nat, HT.sIx_nat, Nat.min_eq_left hi, Nat.min_eq_left hj]
end Lt

set_option Elab.async false
set_option linter.all false
set_option maxRecDepth 100000
set_option maxHeartbeats 4000000
namespace Lt
open PySem PySem.Spec PyProof.Rows L2
/-! ### readings undone -/
/-- the pile ahead of the reading that lifted k -/
def putM (bs : List Str) (k : Nat) : List Str := (bs.drop 1).take k ++ bs.take 1 ++ bs.drop (k + 1)
theorem putM_cons (t : Str) (r : List Str) (k : Nat) : putM (t :: r) k = r.take k ++ t :: r.drop k := by
  show r.take k ++ [t] ++ r.drop k = _
  rw [List.append_assoc]
  rfl
theorem putM_nil (k : Nat) : putM [] k = [] := by
  unfold putM
  simp
theorem putM_perm : ∀ (bs : List Str) (k : Nat), (putM bs k).Perm bs
  | [], k => by rw [putM_nil]
  | t :: r, k => by
    rw [putM_cons]
    have z : (r.take k ++ t :: r.drop k).Perm (t :: (r.take k ++ r.drop k)) := List.perm_middle
    rw [List.take_append_drop] at z
    exact z
theorem putM_len (bs : List Str) (k : Nat) : (putM bs k).length = bs.length := (putM_perm bs k).length_eq
theorem put_lay {bs : List Str} {b : Str} (h : b ∈ bs) : putM (lay bs b) (bs.idxOf b) = bs := by
  have i := idx_lt h
  unfold lay
  rw [putM_cons, List.eraseIdx_eq_take_drop_succ, List.take_left' (by rw [List.length_take]; omega), List.drop_left' (by rw [List.length_take]; omega)]
  exact (split_at h).1.symm
theorem lay_put {t : Str} {r : List Str} {k : Nat} (nd : (t :: r).Nodup) (h : k < (t :: r).length) : (putM (t :: r) k).idxOf t = k ∧ lay (putM (t :: r) k) t = t :: r := by
  have nt := (List.nodup_cons.mp nd).1
  have lk : (r.take k).length = k := by
    rw [List.length_take]
    rw [List.length_cons] at h
    omega
  have e : (putM (t :: r) k).idxOf t = k := by
    rw [putM_cons, idx_mid (fun z => nt (List.mem_of_mem_take z)), lk]
  refine ⟨e, ?_⟩
  unfold lay
  rw [e, putM_cons, List.eraseIdx_append_of_length_le (by omega), lk, Nat.sub_self, List.eraseIdx_cons_zero, List.take_append_drop]
def unR : List Str → List Nat → List Str
  | bs, [] => bs
  | bs, k :: ks => unR (putM bs k) ks
def hdR : List Str → List Nat → List Str
  | _, [] => []
  | bs, k :: ks => bs.take 1 ++ hdR (putM bs k) ks
theorem unR_snoc (bs : List Str) (k : Nat) : ∀ ks : List Nat, unR bs (ks ++ [k]) = putM (unR bs ks) k := by
  intro ks
  induction ks generalizing bs with
  | nil => rfl
  | cons a r ih => exact ih (putM bs a)
theorem hdR_snoc (bs : List Str) (k : Nat) : ∀ ks : List Nat, hdR bs (ks ++ [k]) = hdR bs ks ++ (unR bs ks).take 1 := by
  intro ks
  induction ks generalizing bs with
  | nil =>
    show bs.take 1 ++ [] = [] ++ bs.take 1
    rw [List.append_nil, List.nil_append]
  | cons a r ih =>
    show bs.take 1 ++ hdR (putM bs a) (r ++ [k]) = (bs.take 1 ++ hdR (putM bs a) r) ++ (unR (putM bs a) r).take 1
    rw [ih, List.append_assoc]
theorem unR_perm : ∀ (bs : List Str) (ks : List Nat), (unR bs ks).Perm bs
  | bs, [] => List.Perm.refl _
  | bs, k :: ks => (unR_perm (putM bs k) ks).trans (putM_perm bs k)
theorem hdR_len : ∀ (bs : List Str) (ks : List Nat), 0 < bs.length → (hdR bs ks).length = ks.length
  | bs, [], _ => rfl
  | bs, k :: ks, h => by
    show (bs.take 1 ++ hdR (putM bs k) ks).length = _
    rw [List.length_append, hdR_len (putM bs k) ks (by rw [putM_len]; exact h), List.length_take, List.length_cons]
    omega
theorem hdR_mem : ∀ (bs : List Str) (ks : List Nat), ∀ b ∈ hdR bs ks, b ∈ bs
  | bs, [], b, h => nomatch h
  | bs, k :: ks, b, h => by
    rcases List.mem_append.mp (show b ∈ bs.take 1 ++ hdR (putM bs k) ks from h) with h | h
    · exact List.mem_of_mem_take h
    · exact (putM_perm bs k).mem_iff.mp (hdR_mem (putM bs k) ks b h)
/-- from the pile behind and the numbers: the pile ahead and the readings -/
theorem undo_of {bs : List Str} : ∀ rs : List Str, (∀ b ∈ rs, b ∈ bs) → unR (behindM bs rs) (liftedM bs rs).reverse = bs ∧ hdR (behindM bs rs) (liftedM bs rs).reverse = rs.reverse := by
  refine snoc_ind (p := fun rs => (∀ b ∈ rs, b ∈ bs) → unR (behindM bs rs) (liftedM bs rs).reverse = bs ∧ hdR (behindM bs rs) (liftedM bs rs).reverse = rs.reverse) (fun _ => ⟨rfl, rfl⟩) (fun rs b ih h => ?_)
  have h1 : ∀ c ∈ rs, c ∈ bs := fun c hc => h c (List.mem_append_left _ hc)
  have hb : b ∈ behindM bs rs := (behindM_perm rs h1).mem_iff.mpr (h b (List.mem_append_right _ (List.mem_singleton.mpr rfl)))
  obtain ⟨i1, i2⟩ := ih h1
  rw [behindM_snoc, liftedM_snoc, List.reverse_append, List.reverse_singleton, List.reverse_append, List.reverse_singleton]
  constructor
  · show unR (putM (lay (behindM bs rs) b) ((behindM bs rs).idxOf b)) (liftedM bs rs).reverse = bs
    rw [put_lay hb]
    exact i1
  · show [b] ++ hdR (putM (lay (behindM bs rs) b) ((behindM bs rs).idxOf b)) (liftedM bs rs).reverse = _
    rw [put_lay hb, i2]
/-- any numbers below how many books there are: they are lifted by the readings that they tell -/
theorem redo_of : ∀ (ks : List Nat) {bs : List Str}, bs.Nodup → (∀ k ∈ ks, k < bs.length) → behindM (unR bs ks) (hdR bs ks).reverse = bs ∧ liftedM (unR bs ks) (hdR bs ks).reverse = ks.reverse
  | [], bs, _, _ => ⟨rfl, rfl⟩
  | k :: ks, bs, nd, h => by
    have hk := h k (List.mem_cons_self ..)
    cases bs with
    | nil => exact absurd hk (Nat.not_lt_zero _)
    | cons t r =>
      have nd2 : (putM (t :: r) k).Nodup := (putM_perm _ _).nodup_iff.mpr nd
      obtain ⟨i1, i2⟩ := redo_of ks nd2 fun j hj => by rw [putM_len]; exact h j (List.mem_cons_of_mem _ hj)
      obtain ⟨l1, l2⟩ := lay_put nd hk
      have e : (hdR (t :: r) (k :: ks)).reverse = (hdR (putM (t :: r) k) ks).reverse ++ [t] := by
        show ([t] ++ hdR (putM (t :: r) k) ks).reverse = _
        rw [List.reverse_append]
        rfl
      rw [e, behindM_snoc, liftedM_snoc]
      show lay (behindM (unR (putM (t :: r) k) ks) _) t = _ ∧ liftedM (unR (putM (t :: r) k) ks) _ ++ [(behindM (unR (putM (t :: r) k) ks) _).idxOf t] = _
      rw [i1, i2, l1, l2, List.reverse_cons]
      exact ⟨rfl, rfl⟩
theorem putM_inj {bs cs : List Str} {k : Nat} (l : bs.length = cs.length) (h : putM bs k = putM cs k) : bs = cs := by
  cases bs with
  | nil =>
    cases cs with
    | nil => rfl
    | cons _ _ => cases l
  | cons t r =>
    cases cs with
    | nil => cases l
    | cons u q =>
      rw [putM_cons, putM_cons] at h
      have lr : r.length = q.length := Nat.succ.inj l
      obtain ⟨h1, h2⟩ := List.append_inj h (by rw [List.length_take, List.length_take, lr])
      obtain ⟨h3, h4⟩ := List.cons.inj h2
      rw [h3, ← List.take_append_drop k r, h1, h4, List.take_append_drop]
theorem unR_inj : ∀ (ks : List Nat) {bs cs : List Str}, bs.length = cs.length → unR bs ks = unR cs ks → bs = cs
  | [], _, _, _, h => h
  | k :: ks, bs, cs, l, h => putM_inj l (unR_inj ks (by rw [putM_len, putM_len, l]) h)
/-! ### readings by numbers -/
def nth (bs : List Str) (k : Nat) : Str := (bs[k]?).getD Str.empty
theorem nth_get {bs : List Str} {k : Nat} (h : k < bs.length) : bs[k]? = some (nth bs k) := by
  unfold nth
  rw [List.getElem?_eq_getElem h]
  rfl
theorem nth_mem {bs : List Str} {k : Nat} (h : k < bs.length) : nth bs k ∈ bs := List.mem_of_getElem? (nth_get h)
theorem nth_idx {bs : List Str} {b : Str} (h : b ∈ bs) : nth bs (bs.idxOf b) = b := by
  unfold nth
  rw [idx_get h]
  rfl
theorem idx_nth {bs : List Str} {k : Nat} (nd : bs.Nodup) (h : k < bs.length) : bs.idxOf (nth bs k) = k := nd_ix nd (idx_get (nth_mem h)) (nth_get h)
def readM : List Str → List Nat → List Str
  | _, [] => []
  | bs, k :: ks => nth bs k :: readM (lay bs (nth bs k)) ks
theorem readM_snoc (k : Nat) : ∀ (ks : List Nat) (bs : List Str), readM bs (ks ++ [k]) = readM bs ks ++ [nth (behindM bs (readM bs ks)) k]
  | [], bs => rfl
  | j :: ks, bs => by
    show nth bs j :: readM (lay bs (nth bs j)) (ks ++ [k]) = nth bs j :: (readM (lay bs (nth bs j)) ks ++ [nth (behindM (lay bs (nth bs j)) (readM (lay bs (nth bs j)) ks)) k])
    rw [readM_snoc k ks]
theorem readM_mem : ∀ (ks : List Nat) {bs : List Str}, (∀ k ∈ ks, k < bs.length) → ∀ b ∈ readM bs ks, b ∈ bs
  | [], _, _, b, hb => nomatch hb
  | k :: ks, bs, h, b, hb => by
    have hk := h k (List.mem_cons_self ..)
    have p := lay_perm (nth_mem hk)
    rcases List.mem_cons.mp (show b ∈ nth bs k :: readM (lay bs (nth bs k)) ks from hb) with e | hb
    · rw [e]
      exact nth_mem hk
    · exact p.mem_iff.mp (readM_mem ks (fun j hj => by rw [p.length_eq]; exact h j (List.mem_cons_of_mem _ hj)) b hb)
theorem readM_len : ∀ (ks : List Nat) (bs : List Str), (readM bs ks).length = ks.length
  | [], _ => rfl
  | k :: ks, bs => congrArg (· + 1) (readM_len ks (lay bs (nth bs k)))
theorem read_lifted : ∀ (rs : List Str) {bs : List Str}, (∀ b ∈ rs, b ∈ bs) → readM bs (liftedM bs rs) = rs
  | [], _, _ => rfl
  | b :: r, bs, h => by
    have hb := h b (List.mem_cons_self ..)
    show nth bs (bs.idxOf b) :: readM (lay bs (nth bs (bs.idxOf b))) (liftedM (lay bs b) r) = b :: r
    rw [nth_idx hb, read_lifted r fun c hc => (lay_perm hb).mem_iff.mpr (h c (List.mem_cons_of_mem _ hc))]
theorem lifted_read : ∀ (ks : List Nat) {bs : List Str}, bs.Nodup → (∀ k ∈ ks, k < bs.length) → liftedM bs (readM bs ks) = ks
  | [], _, _, _ => rfl
  | k :: ks, bs, nd, h => by
    have hk := h k (List.mem_cons_self ..)
    have p := lay_perm (nth_mem hk)
    show bs.idxOf (nth bs k) :: liftedM (lay bs (nth bs k)) (readM (lay bs (nth bs k)) ks) = k :: ks
    rw [idx_nth nd hk, lifted_read ks (p.nodup_iff.mpr nd) fun j hj => by rw [p.length_eq]; exact h j (List.mem_cons_of_mem _ hj)]
end Lt

set_option Elab.async false
set_option linter.all false
set_option maxRecDepth 100000
set_option maxHeartbeats 4000000
/-! tuple(x for x, y in t), t a tuple of pairs: over the library's generator expressions of two names. -/
namespace Lt
open PySem PySem.Spec PyProof.Rows L2
section
variable {prog : Program} {w : World} {A : Around}
/-- a walk of one-value steps whose values are tuples that stand all the while -/
theorem walk_tups {I : Addr} {fp wr : List Addr} {n : Nat} {Pv : Nat → Value → Prop} {St : Nat → Heap → Prop} (W : Walks prog w A I fp wr n Pv St) (Ts : Nat → Addr) (us : Nat → Array Value)
    (is : ∀ i v, i < n → Pv i v → v = .ref (Ts i)) (off : ∀ i, i < n → Ts i ∉ wr)
    (free : ∀ (e : Expr) i v (s : Shared) (Q : Unit → Shared → Prop) E, St i s.heap → Q () s → wpAny (model prog w) A (letOwnedTupleGo e (.ref I) v) Q E s) :
    WalksU prog w A I (fp ++ (List.range n).map Ts) wr n (fun j a => j < n ∧ a = us j) (fun j h => St j h ∧ ∀ k, k < n → h.IsTuple (Ts k) (us k)) (fun j T h => (j < n ∧ T = Ts j) ∧ St (j + 1) h ∧ ∀ k, k < n → h.IsTuple (Ts k) (us k)) where
  sub := fun b hb => List.mem_append_left _ (W.sub b hb)
  frame := fun i h h' st k => ⟨W.frame i h h' st.1 fun b hb o e => k b (List.mem_append_left _ hb) o e,
    fun j hj => (st.2 j hj).at fun o e => k _ (List.mem_append_right _ (List.mem_map.mpr ⟨j, List.mem_range.mpr hj, rfl⟩)) o e⟩
  item := fun i s Q E hi st q => W.item i s Q E hi st.1 fun v h' tk pv st' k => by
    have tups : ∀ j, j < n → h'.IsTuple (Ts j) (us j) := fun j hj => (st.2 j hj).at fun o e => k _ o (off j hj) e
    rw [is i v hi pv]
    exact q (Ts i) (us i) h' tk ⟨hi, rfl⟩ (tups i hi) ⟨⟨hi, rfl⟩, st', tups⟩ k
  go := fun es k pos i T s Q E mid q => free _ (i + 1) _ s Q E mid.2.1 (q s.heap mid.2 fun _ _ _ e => e)
  apart := fun i T h mid => by
    rw [mid.1.2]
    exact off i mid.1.1
  done := fun s Q E st q => W.done s Q E st.1 q
  self := fun i s Q E st q => W.self i s Q E st.1 q
end
section
variable {X : Cx} {pins : List (Addr × Obj)} {σ : L2.St} {H : Hp} {s : Shared}
/-- the code object of a generator expression in a def whose table is at P, and where its builtins stand -/
theorem gen_code {c P : Addr} {ps : Array Value} {gpos : Pos} {qn : Str} {scope : Scope} {o : Obj} {E : Value → Shared → Prop} {B : Value → Addr → Shared → Prop} (inv : Inv X pins σ H s) (TB : GxR.TabB X.base X.mg c P) (hc : X.env.code = .ref c)
    (hP : H P = some (.tbl ps)) (ht : TriplesOk ps.toList)
    (go : ∀ (code : Value) (h3 : Heap) (tk : Nat) (more : Array Value), Heap.ExtBut P (s.heap.push o) h3 → s.heap.objs.size + 1 ≤ h3.objs.size → h3.get? P = some { cls := .none, data := .fields (ps ++ more) } → TriplesOk (ps ++ more).toList →
      B code builtinsNs { s with heap := h3, toks := tk }) :
    wpAny (model X.prog X.w) X.A (genexprCode X.env gpos qn scope) (fun code s3 => wpAny (model X.prog X.w) X.A (builtinsFor X.env.globals X.env.builtins) (B code) E s3) E { s with heap := s.heap.push o } := by
  have at0 : s.heap.get? P = some (PySem.W.tabObj ps) := inv.hok P _ hP
  have at1 : (s.heap.push o).get? P = some (PySem.W.tabObj ps) := Heap.get?_push_of_some _ at0
  have head : PySem.W.CodeHd (s.heap.push o) c P := TB.code.keeps fun b u e => Heap.get?_push_of_some _ (inv.bk b u e)
  have big : (s.heap.push o).objs.size = s.heap.objs.size + 1 := Heap.size_push ..
  have bis : ∀ (code : Value) (h3 : Heap) (tk : Nat), Heap.ExtBut P (s.heap.push o) h3 → B code builtinsNs { s with heap := h3, toks := tk } →
      wpAny (model X.prog X.w) X.A (builtinsFor X.env.globals X.env.builtins) (B code) E { s with heap := h3, toks := tk } := by
    intro code h3 tk ext b
    obtain ⟨bm, ob, b1, b2, _, b4, b5, b6, b7, b8⟩ := TB.bm
    refine wpAny_builtinsFor (m := X.mg) ?_ b1 b2 (ext _ _ b4 (Heap.get?_push_of_some _ (inv.bk _ _ b5))) b6 b7 b8 b
    rw [inv.ok.glob]
    exact ((inv.mod.glob.keeps inv.bk).push o).extBut ext TB.gP
  cases found : codeAmong gpos ps.toList with
  | some cv => exact wpAny_genexprCode_hit hc (head.code at1 ht) found (bis cv _ s.toks (.refl _ _) (go cv _ s.toks #[] (.refl _ _) (Nat.le_of_eq big.symm) (by rw [Array.append_empty]; exact at1) (by rw [Array.append_empty]; exact ht)))
  | none =>
    refine wpAny_genexprCodeX hc (head.code at1 ht) (head.tab at1) found fun c' h3 tk ext ge lt isc _ tab _ => ?_
    obtain ⟨_, _, _, _, _, _, _, _, _, _, _, _, _, _, _, _, _, _, _, tri, _⟩ := isc
    exact bis _ h3 tk ext (go _ h3 tk _ ext (by rw [← big]; exact Nat.le_trans ge (Nat.le_of_lt lt)) tab.2 tri)
/-- its own scope: two names, the walked thing -/
def GenTwo (scope : Scope) (x y : Str) : Prop := scope.kind = .function ∧ scope.isCoroutine = false ∧ (∀ z ∈ scope.names, z.2 = .local) ∧ scope.names.lookup (".0" : Str) = some NameKind.local ∧ scope.names.lookup x = some .local ∧ scope.names.lookup y = some .local ∧ x ≠ y
theorem vals_by : ∀ (xs : List V) (us : List Value), xs.length = us.length → (∀ (i : Nat) x u, xs[i]? = some x → us[i]? = some u → RelV x u) → Vals xs us
  | [], [], _, _ => .nil
  | [], _ :: _, l, _ => by cases l
  | _ :: _, [], l, _ => by cases l
  | x :: xs, u :: us, l, h => .cons (h 0 x u rfl rfl) (vals_by xs us (by simpa using l) fun i x u hx hu => h (i + 1) x u (by simpa using hx) (by simpa using hu))
def tTupG (K : PySem.W.Frag) (P : Addr) (te : TE) : TE := fun σ H Q => te σ H fun v H1 => ∃ (a : Addr) (ts : List Addr) (ps : List (V × V)), v = .ref a ∧ SqT K H1 a (ts.map V.ref) ∧ ts.length = ps.length ∧
  (∀ (i : Nat) (t : Addr) (p : V × V), ts[i]? = some t → ps[i]? = some p → SqT K H1 t [p.1, p.2]) ∧ GxR.TabG H1 P ∧ ∀ H2 q u, GxR.Tabbed P H1 H2 → H2 q = none → IsFz u (ps.map (·.1)) → Q (.ref q) (upd H2 q u)
theorem pe_tupG {c P : Addr} {x y : Str} {iter : Expr} {px py pt pe p pos gpos : Pos} {kt : Nat} {scope : Scope} {te : TE} {k : Nat} (hr : Room k X.A) (hg : Gl X "tuple") (hm : X.mg "tuple" = none) (TB : GxR.TabB X.base X.mg c P) (hc : X.env.code = .ref c) (S : GenTwo scope x y) (hi : PE X iter te)
    (hs : ∀ v, genFold iter X.env v = pure v := by intro _; rfl) (hd : (x == ("__debug__" : Str)) = false := by decide)
    (he : starEach [.GeneratorExp (.Name x pe) [⟨.Tuple [.Name x px, .Name y py] kt pt, iter, [], 0⟩] scope gpos] X.env = (false, eval (.GeneratorExp (.Name x pe) [⟨.Tuple [.Name x px, .Name y py] kt pt, iter, [], 0⟩] scope gpos) X.env) :: starEach [] X.env := by rfl) :
    PE X (.Call (.Name "tuple" p) [.GeneratorExp (.Name x pe) [⟨.Tuple [.Name x px, .Name y py] kt pt, iter, [], 0⟩] scope gpos] [] pos) (tTupG X.K P te) := by
  obtain ⟨kind, co, loc, dot, one, two, ne⟩ := S
  have hv : bootBuiltins ("tuple" : Str) = some (.type "tuple") := by decide +kernel
  refine ⟨fun pins s σ H Q inv h => wpAny_Call_Name_kw (ld_blt inv hg hm hv (PyProof.Rows.callWith_type1 ?_ he (by rfl)))⟩
  rw [he]
  show wpAny _ _ (spliced ((false, _) :: backTo pos (starEach [] X.env))) _ _ s
  refine Calls.spliced_cons ?_
  refine wpAny_GeneratorExp_walksQT hr.hd co (closure_ok fun z hz e => by rw [loc z hz] at e; cases e) (fun z hz e => by rw [loc z hz] at e; cases e) dot one two ne kind (by have := hr.dp; omega) ?_ hs
  refine thn (hi.run pins s σ H _ inv h) fun xv s1 ⟨v, H1, inv1, rel, q1⟩ => ?_
  obtain ⟨a, ts, ps, rfl, sq, len, each, ⟨tb, hP, ht⟩, q⟩ := q1
  cases rel
  obtain ⟨its, vals, tupA, fit⟩ := inv1.tuple sq
  have nits : its.length = ts.length := by rw [← vals.length, List.length_map]
  have pairs : ∀ i, ∃ u : Array Value, i < ts.length → ∃ (t : Addr) (p : V × V) (va vb : Value), ts[i]? = some t ∧ ps[i]? = some p ∧ u = #[va, vb] ∧ RelV p.1 va ∧ s1.heap.IsTuple t u := by
    intro i
    by_cases hi : i < ts.length
    · have e1 := List.getElem?_eq_getElem hi
      have e2 : ps[i]? = some (ps[i]'(by omega)) := List.getElem?_eq_getElem _
      obtain ⟨us, vs2, tp, _⟩ := inv1.tuple (each i _ _ e1 e2)
      obtain ⟨va, vb, rfl, r1, r2⟩ := vs2.two
      exact ⟨#[va, vb], fun _ => ⟨_, _, va, vb, e1, e2, rfl, r1, tp⟩⟩
    · exact ⟨#[], fun z => absurd z hi⟩
  obtain ⟨us, hus⟩ := Classical.axiomOfChoice pairs
  have ats : ∀ i, i < ts.length → its.toArray[i]? = some (.ref ((ts[i]?).getD 0)) ∧ s1.heap.IsTuple ((ts[i]?).getD 0) (us i) := by
    intro i hi
    obtain ⟨t, pp, va, vb, e1, e2, _, _, tp⟩ := hus i hi
    obtain ⟨u2, g1, g2⟩ := vals.get (i := i) (x := .ref t) (by rw [List.getElem?_map, e1]; rfl)
    obtain rfl : u2 = .ref t := g2
    rw [e1]
    exact ⟨by simpa using g1, tp⟩
  have sz : its.toArray.size = ts.length := by rw [List.size_toArray, nits]
  have lt1 : ∀ {b : Addr} {u : Array Value}, s1.heap.IsTuple b u → b < s1.heap.objs.size := fun t => by
    obtain ⟨o, e, _⟩ := t
    exact Heap.lt_size e
  have at0 : s1.heap.get? P = some { cls := .none, data := .fields tb } := inv1.hok P _ hP
  have ltP : P < s1.heap.objs.size := Heap.lt_size at0
  have neP : ∀ {b : Addr} {u : Array Value}, s1.heap.IsTuple b u → b ≠ P := fun t e => by
    obtain ⟨o, e1, e2, _⟩ := t
    rw [e, at0] at e1
    cases e1
    cases e2
  refine wpAny_pyIter_tuple tupA ⟨inv1.nolimit.push _, gen_code inv1 TB hc hP ht fun code h3 tk more ext big at3 tri => ?_⟩
  have keep : ∀ b u, b ≠ P → s1.heap.get? b = some u → h3.get? b = some u := fun b u nb e => ext b u nb (Heap.get?_push_of_some _ e)
  have it3 : h3.IsTupleIter s1.heap.objs.size a 0 := ⟨_, ext _ _ (Nat.ne_of_gt ltP) (Heap.get?_push_size _ rfl), rfl, rfl⟩
  have nst : cStatics ≠ P ∧ cStatics < s1.heap.objs.size := by
    obtain ⟨_, ns, _⟩ := inv1.nolimit
    refine ⟨fun e => ?_, ns.lt⟩
    obtain ⟨o', es, ep, ho, hd', _⟩ := ns
    rw [e, at0] at ho
    cases ho
    cases hd'
  have isT : s1.heap.IsTuple a its.toArray := tupA
  have tup3 : h3.IsTuple a its.toArray := isT.at fun o e => keep _ _ (neP isT) e
  have ats3 : ∀ i, i < ts.length → h3.IsTuple ((ts[i]?).getD 0) (us i) := fun i hi => (ats i hi).2.at fun o e => keep _ _ (neP (ats i hi).2) e
  have up : s1.heap.objs.size < h3.objs.size := big
  have W0 : ∀ A' : Around, A'.handled = none → WalksU X.prog X.w A' s1.heap.objs.size _ [s1.heap.objs.size] ts.length _ _ _ :=
    fun A' hA => walk_tups (sz ▸ Walks.tuple hA s1.heap.objs.size a (Nat.ne_of_lt (lt1 tupA)) its.toArray) (fun i => (ts[i]?).getD 0) us
      (fun i v hi e => Option.some.inj (e.symm.trans (ats i hi).1)) (fun i hi z => Nat.ne_of_lt (lt1 (ats i hi).2) (List.mem_singleton.mp z))
      (fun e i v s' Q' E' st q' => by
        obtain ⟨o, ho, hc', hd'⟩ := st.1
        exact letGo_of_cls ho hc' hd' (by decide) q')
  refine ⟨s1.heap.objs.size, _, [s1.heap.objs.size], ts.length, _, _, _, fun _ => true, fun i z => ∃ va vb, us i = #[va, vb] ∧ z = va, rfl, W0, ?two, ⟨⟨it3, tup3⟩, ats3⟩, ?fp, (inv1.nolimit.push _).extBut ext nst.1, fun z => Nat.ne_of_lt nst.2 (List.mem_singleton.mp z), ?quiet, ?rest⟩
  case two =>
    rintro i vs ⟨hi, rfl⟩
    obtain ⟨_, _, va, vb, _, _, e, _⟩ := hus i hi
    exact ⟨va, vb, e⟩
  case fp =>
    intro b hb
    rcases List.mem_append.mp hb with z | z
    · rcases List.mem_cons.mp z with z | z
      · rw [z]
        exact up
      · rw [List.mem_singleton.mp z]
        exact Nat.lt_trans (lt1 tupA) up
    · obtain ⟨i, hi, rfl⟩ := List.mem_map.mp z
      exact Nat.lt_trans (lt1 (ats i (List.mem_range.mp hi)).2) up
  case quiet =>
    intro href _
    refine ⟨fun A' E' i va vb s2 m2 hA hp hn ha hb hk => ?_, fun A' E' i va vb s2 m2 hA hp hz hn ha hb hk => ?_⟩
    · simp only [List.forIn_nil]
      exact wpAny_pure ⟨rfl, GxR.keeps_refl _⟩
    · exact wpAny_Name (wpAny_loadName_local kind (show scope.names.lookup x = some .local from one) hn ha ⟨⟨va, vb, hp.2.symm, rfl⟩, GxR.keeps_refl _⟩) hd
  case rest =>
    intro g h5 tk5 gs bare hag hsz keep5 W gat
    rw [GxR.passing_true, List.length_range] at W
    refine Calls.spliced_nil (call_tuple_gen W.in4_3 (fun i s9 st9 => st9.1.typeIs) gat (fun b hb => ?_) List.mem_cons_self (fun s' acc moved items => ?_) (by rw [← List.length_map (f := V.ref)]; exact fit))
    · show b < h5.objs.size
      have e5 : h5.objs.size = g + 1 := hsz
      have g3 : h3.objs.size < g := hag
      rcases List.mem_cons.mp hb with z | z
      · rw [z, e5]
        exact Nat.lt_succ_self g
      · rcases List.mem_cons.mp z with z | z
        · rw [z, e5]
          exact Nat.lt_succ_of_lt g3
        · rw [e5]
          exact Nat.lt_succ_of_lt (Nat.lt_trans (List.mem_range.mp z) g3)
    · have old : ∀ b u, s1.heap.get? b = some u → b ∉ [h3.objs.size, s1.heap.objs.size] := fun b u e hb => by
        have l := Heap.lt_size e
        rcases List.mem_cons.mp hb with z | z
        · exact Nat.lt_asymm up (by rw [← z]; exact l)
        · rw [List.mem_singleton.mp z] at l
          exact Nat.lt_irrefl _ l
      have inv2 := GxR.inv_tab (more := more) (h' := s'.heap) (g' := s'.gens) (d' := s'.drawn) (t' := s'.toks) inv1 hP (fun b u nb e => moved.heap b u (old b u e) (keep5 b u (keep b u nb e))) (moved.heap P _ (old P _ at0) (keep5 P _ at3)) (AllBare.movedS (inv1.bare.push bare) moved)
      rw [GxR.sh_eta s1 s' moved.os] at inv2
      have rels : Vals (ps.map (·.1)) acc.toList := by
        refine vals_by _ _ (by rw [List.length_map, ← len]; exact items.1.symm.trans (Array.length_toList (xs := acc)).symm) fun i v u hv hu => ?_
        obtain ⟨j, hj, va, vb, e1, rfl⟩ := items.2 i u (by simpa using hu)
        rw [List.getElem?_map] at hv
        cases e2 : ps[i]? with
        | none =>
          rw [e2] at hv
          cases hv
        | some pp =>
          rw [e2] at hv
          cases hv
          have li : i < ts.length := by
            rw [len]
            exact (List.getElem?_eq_some_iff.mp e2).1
          obtain rfl : i = j := by
            rw [List.getElem?_range li] at hj
            exact Option.some.inj hj
          obtain ⟨_, p2, va2, vb2, _, f2, f3, f4, _⟩ := hus i li
          rw [e2] at f2
          cases f2
          rw [f3] at e1
          have e3 : va2 = u := by
            have z := congrArg Array.toList e1
            simpa using (List.cons.inj z).1
          rw [← e3]
          exact f4
      have e : acc = acc.toList.toArray := by simp
      rw [e]
      exact laid_fz (s := s') inv2 rels (by rw [List.length_map, ← len, ← List.length_map (f := V.ref)]; exact fit) fun p u hp hu => q _ p u ⟨⟨_, upd_same, tri⟩, fun b nb => upd_ne nb⟩ hp hu
end
end Lt

set_option Elab.async false
set_option linter.all false
set_option maxRecDepth 100000
set_option maxHeartbeats 4000000
/-! all(e for x in t), t a tuple, e any expression of the layer, read in the generator's own frame. -/
namespace Lt
open PySem PySem.Spec PyProof.Rows L2
/-! ### the frame -/
theorem clo_nil (cells : List (Str × Addr)) : ∀ (names : List (Str × NameKind)) (acc : List (Str × Addr)), (∀ y ∈ names, y.2 ≠ .free) → cloFrom cells names acc = acc
  | [], _, _ => rfl
  | (n, k) :: r, acc, h => by
    have hk : (k == NameKind.free) = false := beq_eq_false_iff_ne.mpr (h (n, k) (List.mem_cons_self ..))
    show (if k == .free then _ else _) = acc
    rw [hk, if_neg Bool.false_ne_true]
    exact clo_nil cells r acc fun y hy => h y (List.mem_cons_of_mem _ hy)
structure GenOne (scope : Scope) (x : Str) : Prop where
  kind : scope.kind = .function
  co : scope.isCoroutine = false
  own : ∀ y ∈ scope.names, y.2 ≠ .cell ∧ y.2 ≠ .free
  dot : scope.names.lookup (".0" : Str) = some NameKind.local
  loc : scope.names.lookup x = some .local
  ne : x ≠ ".0"
abbrev gExp (elt iter : Expr) (x : Str) (px : Pos) (scope : Scope) (pos : Pos) : Expr := .GeneratorExp elt [⟨.Name x px, iter, [], 0⟩] scope pos
theorem ov_frames {A : Around} {e : Expr} {it : Value} {cenv : Env} {gs : List Comprehension} {sc : Scope} {p : Pos} {l : List Env} (h : A.frames = some l) : (A.over (.compLoop (.GeneratorExp e gs sc p) 0 it .none cenv) []).frames = some (cenv :: l) := by
  have e1 : (Code.compLoop (.GeneratorExp e gs sc p) 0 it .none cenv).envs = [cenv] := rfl
  simp only [Around.over, e1, List.map_nil, h]
  rfl
theorem ov_units {A : Around} {e : Expr} {it : Value} {cenv : Env} {gs : List Comprehension} {sc : Scope} {p : Pos} : (A.over (.compLoop (.GeneratorExp e gs sc p) 0 it .none cenv) []).units = A.units + 3 := by
  have e1 : (Code.compLoop (.GeneratorExp e gs sc p) 0 it .none cenv).cUnits = 3 := rfl
  simp only [Around.over, e1, List.map_nil]
  rfl
theorem room_gen {k : Nat} {A : Around} {e : Expr} {it : Value} {cenv : Env} {gs : List Comprehension} {sc : Scope} {p : Pos} (r : Room (k + 1) A) : Room k (A.in1.in1.over (.compLoop (.GeneratorExp e gs sc p) 0 it .none cenv) []) := by
  refine ⟨r.hd, ?_, ?_⟩
  · have := r.dp
    show A.depth + 1 + 3 * k + 5 < _
    omega
  · have := r.un
    rw [ov_units]
    show A.units + 1 + 1 + 3 + 16 * k + 200 < _
    omega
def gx (X : Cx) (A : Around) (x : Str) (scope : Scope) (C : Addr) (code : Value) (s4 : Shared) (H4 : Hp) (I : Addr) : Cx :=
  { prog := X.prog, w := X.w, K := X.K, mg := X.mg, base := X.base, A := A, N := [".0", x], s_0 := s4, H_0 := H4, env := genEnv scope [] C code builtinsNs X.env, outer := X.stack, stack := genEnv scope [] C code builtinsNs X.env :: X.stack,
    ex := [I], fn := fun _ => true, calm := true, pn := [], xe := fun _ _ => False }
theorem inv_gens {X : Cx} {pins : List (Addr × Obj)} {σ : L2.St} {H : Hp} {s : Shared} {g : Array GenState} (I : Inv X pins σ H s) (h : AllBare g) : Inv X pins σ H { s with gens := g } :=
  ⟨I.ok, I.os, h, I.base, I.loc, I.cell, I.free, I.freeC, I.pin, I.hok, I.len⟩
/-- ahead of the item i -/
def GSt (X' : Cx) (pin : Addr × Obj) (I t : Addr) (W : Nat → Hp → Prop) (i : Nat) (s : Shared) : Prop :=
  ∃ (H : Hp) (y : Option V), Inv X' [pin] [some (.ref I), y] H s ∧ W i H ∧ s.heap.IsTupleIter I t i
theorem GSt.gens {X' : Cx} {pin : Addr × Obj} {I t : Addr} {W : Nat → Hp → Prop} {i : Nat} {s : Shared} {g : Array GenState} (h : GSt X' pin I t W i s) (hg : AllBare g) : GSt X' pin I t W i { s with gens := g } := by
  obtain ⟨H, y, inv, w, it⟩ := h
  exact ⟨H, y, inv_gens inv hg, w, it⟩
def gR (X' : Cx) (pin : Addr × Obj) (I : Addr) (n : Nat) (W : Nat → Hp → Prop) : GenEnd := fun m _ r s1 => r = .ok .next ∧ m = 0 ∧ ∃ (H : Hp) (y : Option V), Inv X' [pin] [some (.ref I), y] H s1 ∧ W n H
def gY (X' : Cx) (pin : Addr × Obj) (I t : Addr) (n : Nat) (tr : Nat → Bool) (W : Nat → Hp → Prop) : Protocol := fun m _ v s kap =>
  v = .bool (tr (n - 1 - m)) ∧ GSt X' pin I t W (n - m) s ∧ ∀ g, AllBare g → kap (.send .none) { s with gens := g }
section
variable {X : Cx} {A : Around} {elt iter : Expr} {x : Str} {px pos : Pos} {scope : Scope} {C I t : Addr} {code : Value} {s4 : Shared} {H4 : Hp} {pin : Addr × Obj} {te : TE} {xs : List V} {tr : Nat → Bool} {W : Nat → Hp → Prop}
theorem gen_loop (S : GenOne scope x) (hA : A.handled = none) (nI : I < s4.heap.objs.size) (hC : C = s4.heap.objs.size) (nf : I ∉ frs X.stack) (hne : t ≠ I) (hp : pin.1 ≠ I) (hH : ∀ i H, W i H → H I = none)
    (he : PE (gx X (A.over (.compLoop (gExp elt iter x px scope pos) 0 (.ref I) .none (genEnv scope [] C code builtinsNs X.env)) []) x scope C code s4 H4 I) elt te)
    (hsq : ∀ i H, W i H → SqT X.K H t xs) (hst : ∀ (i : Nat) (H : Hp) (v : V), xs[i]? = some v → W i H → te [some (.ref I), some v] H fun y H' => y = .bl (tr i) ∧ W (i + 1) H') :
    ∀ (k i : Nat) (s₀ s : Shared), xs.length - i = k → i ≤ xs.length →
      GSt (gx X (A.over (.compLoop (gExp elt iter x px scope pos) 0 (.ref I) .none (genEnv scope [] C code builtinsNs X.env)) []) x scope C code s4 H4 I) pin I t W i s →
      Seg (model X.prog X.w) A (gR (gx X (A.over (.compLoop (gExp elt iter x px scope pos) 0 (.ref I) .none (genEnv scope [] C code builtinsNs X.env)) []) x scope C code s4 H4 I) pin I xs.length W)
        (gY (gx X (A.over (.compLoop (gExp elt iter x px scope pos) 0 (.ref I) .none (genEnv scope [] C code builtinsNs X.env)) []) x scope C code s4 H4 I) pin I t xs.length tr W) (xs.length - i) s₀
        (.compLoop (gExp elt iter x px scope pos) 0 (.ref I) .none (genEnv scope [] C code builtinsNs X.env)) ((model X.prog X.w).den (.compLoop (gExp elt iter x px scope pos) 0 (.ref I) .none (genEnv scope [] C code builtinsNs X.env))) [] s := by
  have hA' : (A.over (.compLoop (gExp elt iter x px scope pos) 0 (.ref I) .none (genEnv scope [] C code builtinsNs X.env)) []).handled = none := hA
  intro k
  induction k with
  | zero =>
    intro i s₀ s hk hi G
    have e : i = xs.length := by omega
    subst e
    obtain ⟨H, y, inv, w, it⟩ := G
    obtain ⟨its, vals, tup, fit⟩ := inv.tuple (show SqT _ H t xs from hsq _ H w)
    have len : its.toArray.size = xs.length := by rw [List.size_toArray, ← vals.length]
    show Seg _ A _ _ _ s₀ _ ((compTurn (gExp elt iter x px scope pos) 0 (.ref I) .none (genEnv scope [] C code builtinsNs X.env)).onRaise (leaving (genEnv scope [] C code builtinsNs X.env))) [] s
    rw [compTurn_gen, Sem.onRaise_eq_wrap]
    refine seg_bind_wrap (wpAny_standAt ?_)
    refine seg_bind_wrap ((Walks.tuple hA' I t hne its.toArray).done s _ _ (by rw [len]; exact ⟨it, tup⟩) fun h' tk hk' => ?_)
    refine seg_end (.ok .next) ⟨rfl, Nat.sub_self _, H, y, inv.turned (t' := tk) (it := I) (fun b o hb e => hk' b o (fun z => hb (List.mem_singleton.mp z)) e) (hH _ H w) ?_ (.inl (List.mem_singleton.mpr rfl)) (fun _ _ z => nomatch z) ?_, w⟩
    · show I ≠ C
      rw [hC]
      exact Nat.ne_of_lt nI
    · intro p hp'
      rw [show p = pin from List.mem_singleton.mp hp']
      exact hp
  | succ k ih =>
    intro i s₀ s hk hi G
    have lt : i < xs.length := by omega
    obtain ⟨H, y, inv, w, it⟩ := G
    obtain ⟨its, vals, tup, fit⟩ := inv.tuple (show SqT _ H t xs from hsq _ H w)
    have len : its.toArray.size = xs.length := by rw [List.size_toArray, ← vals.length]
    have nIC : I ≠ C := by
      rw [hC]
      exact Nat.ne_of_lt nI
    have nI0 := hH i H w
    show Seg _ A _ _ _ s₀ _ ((compTurn (gExp elt iter x px scope pos) 0 (.ref I) .none (genEnv scope [] C code builtinsNs X.env)).onRaise (leaving (genEnv scope [] C code builtinsNs X.env))) [] s
    rw [compTurn_gen, Sem.onRaise_eq_wrap]
    refine seg_bind_wrap (wpAny_standAt ?_)
    refine seg_bind_wrap ((Walks.tuple hA' I t hne its.toArray).item i s _ _ (by rw [len]; exact lt) ⟨it, tup⟩ fun v h1 tk1 pv st1 kp1 => ?_)
    have ev : its[i]? = some v := by simpa using pv
    obtain ⟨u, gu, ru⟩ := vals.get (i := i) (x := xs[i]) (List.getElem?_eq_getElem lt)
    rw [ev] at gu
    cases gu
    have inv1 := inv.turned (t' := tk1) (it := I) (h' := h1) (fun b o hb e => kp1 b o (fun z => hb (List.mem_singleton.mp z)) e) nI0 nIC (.inl (List.mem_singleton.mpr rfl)) (fun _ _ z => nomatch z)
      (fun p hp' => by rw [show p = pin from List.mem_singleton.mp hp']; exact hp)
    obtain ⟨io, hio, ic, id⟩ := st1.1
    have inv1p := inv1.pins_of (pins' := [(I, io), pin]) fun p hp' => by
      rcases List.mem_cons.mp hp' with e | hp'
      · rw [e]
        exact ⟨hio, nI0, nIC, nf, fun v z => by rw [id] at z; cases z⟩
      · exact inv1.pin p (List.mem_append_right _ hp')
    refine seg_bind_wrap (wpAny_of_eq (rfl : letOwnedTupleGo (.Name x px) (.ref I) v = pure ()) ?_)
    have nd : ([(".0" : Str), x] : List Str).Nodup := List.nodup_cons.mpr ⟨fun z => S.ne (List.mem_singleton.mp z).symm, List.nodup_cons.mpr ⟨fun z => (nomatch z), List.nodup_nil⟩⟩
    have pg : PG (gx X (A.over (.compLoop (gExp elt iter x px scope pos) 0 (.ref I) .none (genEnv scope [] C code builtinsNs X.env)) []) x scope C code s4 H4 I) (.Name x px) (gName 1) := pg_name (i := 1) nd rfl (.inl S.loc) (.inl rfl)
    refine seg_bind_wrap (wpAny_mono (pg.run [(I, io), pin] _ _ H xs[i] v (fun σ' H' => σ' = [some (.ref I), some xs[i]] ∧ H' = H) inv1p ru ⟨rfl, rfl⟩) (fun _ s2 h2 => ?_) fun _ _ z => (z : False).elim)
    obtain ⟨σ2, H2, inv2, rfl, rfl⟩ := h2
    refine seg_bind_wrap ?_
    simp only [List.forIn_nil]
    refine wpAny_pure ?_
    simp only [if_true]
    have hy : ∀ v, yieldOut (genEnv scope [] C code builtinsNs X.env) v = yieldValue v := fun v => by
      have e : (genEnv scope [] C code builtinsNs X.env).scope.isCoroutine = false := S.co
      simp only [yieldOut, e, Bool.false_eq_true, if_false]
    simp only [hy]
    rw [Sem.bind_eq_wrap', Sem.bind_eq_wrap', Sem.wrap_wrap, Sem.wrap_wrap]
    refine seg_wrap (wpAny_mono (he.run [(I, io), pin] s2 _ H2 _ inv2 (hst i H2 xs[i] (List.getElem?_eq_getElem lt) w)) (fun u3 s3 h3 => ?_) fun _ _ z => (z : False).elim)
    obtain ⟨yv, H3, inv3, rel3, rfl, w3⟩ := h3
    obtain rfl : u3 = .bool (tr i) := rel3
    have G3 : GSt (gx X (A.over (.compLoop (gExp elt iter x px scope pos) 0 (.ref I) .none (genEnv scope [] C code builtinsNs X.env)) []) x scope C code s4 H4 I) pin I t W (i + 1) s3 :=
      ⟨H3, _, inv3.pins_of fun p hp' => inv3.pin p (List.mem_append_right _ (List.mem_cons_of_mem _ hp')), w3, io, (inv3.pin (I, io) (List.mem_append_right _ (List.mem_cons_self ..))).1, ic, id⟩
    obtain ⟨m, em⟩ : ∃ m, xs.length - i = m + 1 := ⟨k, hk⟩
    rw [em]
    refine seg_at (seg_yield rfl rfl rfl ⟨?_, ?_, fun g hg => ?_⟩)
    · rw [show xs.length - 1 - m = i by omega]
    · rw [show xs.length - m = i + 1 by omega]
      exact G3
    · have z := ih (i + 1) { s3 with gens := g } { s3 with gens := g } (by omega) lt (G3.gens hg)
      rw [show xs.length - (i + 1) = m by omega] at z
      exact seg_again rfl z
theorem gen_start (hA : A.handled = none) {s₀ s : Shared} {n : Nat} {R : GenEnd} {Y : Protocol} {its : Array Value} (hne : t ≠ I) (it : s.heap.IsTupleIter I t 0) (tup : s.heap.IsTuple t its)
    (h : Seg (model X.prog X.w) A R Y n s₀ (.compLoop (gExp elt iter x px scope pos) 0 (.ref I) .none (genEnv scope [] C code builtinsNs X.env)) ((model X.prog X.w).den (.compLoop (gExp elt iter x px scope pos) 0 (.ref I) .none (genEnv scope [] C code builtinsNs X.env))) [] s) :
    Seg (model X.prog X.w) A R Y n s₀ (.compStart (gExp elt iter x px scope pos) 0 (.ref I) .none (genEnv scope [] C code builtinsNs X.env)) ((model X.prog X.w).den (.compStart (gExp elt iter x px scope pos) 0 (.ref I) .none (genEnv scope [] C code builtinsNs X.env))) [] s := by
  have hA' : (A.over (.compStart (gExp elt iter x px scope pos) 0 (.ref I) .none (genEnv scope [] C code builtinsNs X.env)) []).handled = none := hA
  show Seg _ A _ _ _ s₀ _ ((compStart (gExp elt iter x px scope pos) 0 (.ref I) .none (genEnv scope [] C code builtinsNs X.env)).onRaise (leaving (genEnv scope [] C code builtinsNs X.env))) [] s
  unfold compStart
  rw [Sem.onRaise_eq_wrap]
  show Seg _ A _ _ _ s₀ _ ((ask >>= _).wrap _ _ _ _) [] s
  refine seg_bind_wrap (wpAny_askSetting ?_)
  split
  · exact seg_again rfl h
  · refine seg_bind_wrap (wpAny_rule ?_)
    first
    | exact seg_bind_wrap (wpAny_standAt (seg_bind_wrap ((Walks.tuple hA' I t hne its).self 0 s _ _ ⟨it, tup⟩ (seg_again rfl h))))
    | (show Seg _ A _ _ _ s₀ _ ((standAt iter.pos >>= _).wrap _ _ _ _) [] s
       exact seg_bind_wrap (wpAny_standAt (seg_bind_wrap ((Walks.tuple hA' I t hne its).self 0 s _ _ ⟨it, tup⟩ (seg_again rfl h)))))
end
/-! ### all of it -/
section
variable {prog : Program} {w : World} {A : Around}
theorem all_loop {a : Addr} {n : Nat} {J : Nat → Shared → Prop} {Je : Shared → Prop} {tr : Nat → Bool} {R : Result → Shared → Prop} (je : ∀ i s, J i s → Je s)
    (item : ∀ (i : Nat) (s : Shared) (Q : Option Value → Shared → Prop) (E : Value → Shared → Prop), i < n → J i s → (∀ s', J (i + 1) s' → Q (some (.bool (tr i))) s') → wpAny (model prog w) A.in1 (pyNext (.ref a)) Q E s)
    (done : ∀ (s : Shared) (Q : Option Value → Shared → Prop) (E : Value → Shared → Prop), J n s → (∀ s', Je s' → Q none s') → wpAny (model prog w) A.in1 (pyNext (.ref a)) Q E s) :
    ∀ (k i : Nat) (s : Shared), n - i = k → i ≤ n → J i s → (∀ s', Je s' → R (.ok (.ret (.bool (((List.range n).drop i).all tr)))) s') → codeAny (model prog w) A (.builtin "all.loop" ⟨[.ref a], []⟩) R s := by
  intro k
  induction k with
  | zero =>
    intro i s hk hi j q
    have e : i = n := by omega
    subst e
    refine codeAny_builtin F.entry_all_loop ?_
    rw [Around.under_plainId F.plain_all_loop _]
    show wpAny _ A.in1 (pyNext (.ref a) >>= _) _ _ s
    refine wpAny_bind (done s _ _ j fun s' h' => wpAny_bind (wpAny_rule (wpAny_pure ?_)))
    have z := q s' h'
    rw [List.drop_of_length_le (by simp)] at z
    exact z
  | succ k ih =>
    intro i s hk hi j q
    have lt : i < n := by omega
    have hd : (List.range n).drop i = i :: (List.range n).drop (i + 1) := by
      rw [List.drop_eq_getElem_cons (by simpa using lt)]
      simp
    refine codeAny_builtin F.entry_all_loop ?_
    rw [Around.under_plainId F.plain_all_loop _]
    show wpAny _ A.in1 (pyNext (.ref a) >>= _) _ _ s
    refine wpAny_bind (item i s _ _ lt j fun s' j' => ?_)
    refine wpAny_bind (wpAny_holding (wpAny_truthy_bool ?_))
    refine wpAny_bind (wpAny_letGo ?_)
    cases hb : tr i with
    | true =>
      simp only [if_true]
      refine wpAny_pure ⟨plainId_quiet F.plain_all_loop _, ih (i + 1) _ (by omega) lt j' fun s'' h'' => ?_⟩
      have z := q s'' h''
      rw [hd, List.all_cons, hb, Bool.true_and] at z
      exact z
    | false =>
      simp only [Bool.false_eq_true, if_false]
      refine wpAny_bind (wpAny_rule (wpAny_pure ?_))
      have z := q s' (je _ _ j')
      rw [hd, List.all_cons, hb, Bool.false_and] at z
      exact z
end
/-! ### the rule -/
theorem bare_set {g : Array GenState} {k : Nat} {y : GenState} (h : AllBare g) (hy : y.bare = true) : AllBare (g.setIfInBounds k y) := by
  intro z hz
  obtain ⟨i, hi, rfl⟩ := Array.mem_iff_getElem.mp hz
  have hi' : i < g.size := by simpa using hi
  rw [Array.getElem_setIfInBounds]
  · split
    · exact hy
    · exact h _ (Array.getElem_mem hi')
  · exact hi'
theorem un_skip {fs : List Addr} {I : Addr} {H1 H4 H : Hp} {h1 h4 h : Heap} (a : Un fs [] H1 H4 h1 h4) (b : Un fs [I] H4 H h4 h) (hI : h1.objs.size ≤ I) : Un fs [] H1 H h1 h := by
  have u := (a.mono (fs' := fs) (ex' := [I]) (fun _ z => z) (fun _ z => nomatch z)).trans b
  have no : ∀ c o, h1.get? c = some o → c ∉ [I] := fun c o e z => by
    have l := Heap.lt_size e
    rw [List.mem_singleton.mp z] at l
    exact absurd (Nat.lt_of_lt_of_le l hI) (Nat.lt_irrefl _)
  exact ⟨fun c o e n hf _ => u.keep c o e n hf (no c o e), fun c o e n hf _ => u.slot c o e n hf (no c o e), fun c o e n _ => u.free c o e n (no c o e), fun c o e _ => u.there c o e (no c o e), u.tups, u.frzs, u.tbls⟩
theorem un_tab {fs : List Addr} {H : Hp} {P : Addr} {ps more : Array Value} {h h' : Heap} (hP : H P = some (.tbl ps)) (k : ∀ b o, b ≠ P → h.get? b = some o → h'.get? b = some o) (at1 : ∃ o, h'.get? P = some o) : Un fs [] H (upd H P (.tbl (ps ++ more))) h h' := by
  have nN : ∀ b, H b = none → b ≠ P := fun b e z => by
    rw [z, hP] at e
    cases e
  have nO : ∀ b u, H b = some u → (∀ q, u ≠ .tbl q) → b ≠ P := fun b u e q z => by
    rw [z, hP] at e
    exact q ps (Option.some.inj e).symm
  refine ⟨fun b o e n _ _ => k b o (nN b n) e, fun b o e n _ _ => ⟨o.slots, k b o (nN b n) e⟩, fun b o e n _ => by rw [upd_ne (nN b n)]; exact n, fun b o e _ => ?_, fun b xs e => by rw [upd_ne (nO b _ e fun q z => by cases z)]; exact e, fun b o u e => by rw [upd_ne (nO b _ e fun q z => by cases z)]; exact e, fun b qs e => ?_⟩
  · by_cases hb : b = P
    · rw [hb]
      exact at1
    · exact ⟨o, k b o hb e⟩
  · by_cases hb : b = P
    · rw [hb, hP] at e
      cases e
      rw [hb, upd_same]
      exact ⟨more, rfl⟩
    · rw [upd_ne hb, e]
      exact ⟨#[], by simp⟩
def tAllN (K : PySem.W.Frag) (P : Addr) (tel te : TE) : TE := fun σ H Q => te σ H fun v H1 => ∃ (t : Addr) (xs : List V) (tr : Nat → Bool) (W : Nat → Hp → Prop), v = .ref t ∧ SqT K H1 t xs ∧ GxR.TabG H1 P ∧
  (∀ H2, GxR.Tabbed P H1 H2 → W 0 H2) ∧ (∀ i H, W i H → SqT K H t xs ∧ ∀ b, H1 b = none → H b = none) ∧
  (∀ (J : Addr) (i : Nat) (H : Hp) (v : V), xs[i]? = some v → W i H → tel [some (.ref J), some v] H fun y H' => y = .bl (tr i) ∧ W (i + 1) H') ∧ ∀ (i : Nat) (H : Hp), W i H → Q (.bl ((List.range xs.length).all tr)) H
section
variable {X : Cx}
theorem pe_allN {c P : Addr} {elt iter : Expr} {x : Str} {px p pos gpos : Pos} {scope : Scope} {tel te : TE} {k : Nat} (hr : Room (k + 1) X.A) (hg : Gl X "all") (hm : X.mg "all" = none) (TB : GxR.TabB X.base X.mg c P) (hc : X.env.code = .ref c) (S : GenOne scope x) (hi : PE X iter te)
    (he : ∀ (A : Around) (C : Addr) (code : Value) (s4 : Shared) (H4 : Hp) (I : Addr), Room k A → PE (gx X A x scope C code s4 H4 I) elt tel) (hs : ∀ v, genFold iter X.env v = pure v := by intro _; rfl)
    (hse : starEach [gExp elt iter x px scope gpos] X.env = (false, eval (gExp elt iter x px scope gpos) X.env) :: starEach [] X.env := by rfl) :
    PE X (.Call (.Name "all" p) [gExp elt iter x px scope gpos] [] pos) (tAllN X.K P tel te) := by
  have hv : bootBuiltins ("all" : Str) = some (.builtin "all") := by decide +kernel
  refine ⟨fun pins s σ H Q inv h => wpAny_Call_Name_kw (ld_blt inv hg hm hv (PyProof.Rows.callWith_builtin1 ?_ hse (by rfl)))⟩
  rw [hse]
  show wpAny _ _ (spliced ((false, _) :: backTo pos (starEach [] X.env))) _ _ s
  refine Calls.spliced_cons ?_
  have noF : ∀ y ∈ scope.names, y.2 ≠ .free := fun y hy => (S.own y hy).2
  have clo : closureFor scope X.env = pure [] := by
    rw [closure_ok fun y hy e => absurd e (noF y hy), clo_nil _ _ _ noF]
  refine wpAny_GeneratorExp_make S.co clo (fun y hy => (S.own y hy).1) S.dot S.kind (by have := hr.dp; omega) ?_ hs
  refine thn (hi.run pins s σ H _ inv h) fun xv s1 ⟨v, H1, inv1, rel, q1⟩ => ?_
  obtain ⟨t, xs, tr, W, rfl, sq, ⟨tb, hP, ht⟩, w0, wsq, wst, q⟩ := q1
  cases rel
  obtain ⟨its, vals, tupA, fit⟩ := inv1.tuple sq
  have len : its.toArray.size = xs.length := by rw [List.size_toArray, ← vals.length]
  have isT : s1.heap.IsTuple t its.toArray := tupA
  have lt1 : t < s1.heap.objs.size := by
    obtain ⟨o, e, _⟩ := isT
    exact Heap.lt_size e
  have at0 : s1.heap.get? P = some { cls := .none, data := .fields tb } := inv1.hok P _ hP
  have ltP : P < s1.heap.objs.size := Heap.lt_size at0
  have neP : t ≠ P := fun e => by
    obtain ⟨o, e1, e2, _⟩ := isT
    rw [e, at0] at e1
    cases e1
    cases e2
  refine wpAny_pyIter_tuple tupA ⟨inv1.nolimit.push _, gen_code inv1 TB hc hP ht fun code h3 tk more ext big at3 tri => ?_⟩
  intro h' ns same
  have keep3 : ∀ b u, b ≠ P → s1.heap.get? b = some u → h3.get? b = some u := fun b u nb e => ext b u nb (Heap.get?_push_of_some _ e)
  have inv4 := GxR.inv_tab (more := more) (h' := h3) (g' := s1.gens) (d' := s1.drawn) (t' := tk) inv1 hP keep3 at3 inv1.bare
  have un4 : Un (frs X.stack) [] H1 (upd H1 P (.tbl (tb ++ more))) s1.heap h3 := un_tab hP keep3 ⟨_, at3⟩
  have tab4 : GxR.Tabbed P H1 (upd H1 P (.tbl (tb ++ more))) := ⟨⟨_, upd_same, tri⟩, fun b nb => upd_ne nb⟩
  have w4 := w0 _ tab4
  have it3 : h3.IsTupleIter s1.heap.objs.size t 0 := ⟨_, ext _ _ (Nat.ne_of_gt ltP) (Heap.get?_push_size _ rfl), rfl, rfl⟩
  have tup3 : h3.IsTuple t its.toArray := isT.at fun o e => keep3 _ _ neP e
  have upI : s1.heap.objs.size < h3.objs.size := big
  have sz' : h'.objs.size = h3.objs.size + 1 := by
    rw [same.1]
    exact Heap.size_push ..
  have keep' : ∀ b o, h3.get? b = some o → h'.get? b = some o := fun b o e => same.extBut b o (Nat.ne_of_lt (Heap.lt_size e)) (Heap.get?_push_of_some _ e)
  generalize hH4 : upd H1 P (.tbl (tb ++ more)) = H4 at inv4 un4 w4 tab4
  have none4 : ∀ b, h3.objs.size ≤ b → H4 b = none := fun b hb => inv4.hok.fresh hb
  have nI0 : H1 s1.heap.objs.size = none := inv1.hok.fresh (Nat.le_refl _)
  have nIf : s1.heap.objs.size ∉ frs X.stack := fun z => by
    obtain ⟨_, o, e, _⟩ := inv1.stack.mem z
    exact absurd (Heap.lt_size e) (Nat.lt_irrefl _)
  have naf : ∀ b, h3.objs.size ≤ b → b ∉ frs X.stack := fun b hb z => by
    obtain ⟨_, o, e, _⟩ := inv4.stack.mem z
    exact absurd (Nat.lt_of_lt_of_le (Heap.lt_size e) hb) (Nat.lt_irrefl _)
  refine Calls.spliced_nil ?_
  generalize hgo : ({ cls := .type "generator", data := .fields #[.int ((s1.gens.size : Nat) : Int) 0, .str "<genexpr>" (tk + 1), .str (X.env.qual ++ "<genexpr>") (tk + 1 + 1)] } : Obj) = go
  have isg : (h'.push go).IsGen h'.objs.size s1.gens.size := ⟨go, _, _, Heap.get?_push_size _ (by rw [← hgo]; rfl), by rw [← hgo], by rw [← hgo], by rw [← hgo]⟩
  have up5 : ∀ b o, h3.get? b = some o → (h'.push go).get? b = some o := fun b o e => Heap.get?_push_of_some _ (keep' b o e)
  obtain ⟨A', eA⟩ : ∃ A' : Around, A' = X.A.in1.in1.over (.compLoop (gExp elt iter x px scope gpos) 0 (.ref s1.heap.objs.size) .none (genEnv scope [] h3.objs.size code builtinsNs X.env)) [] := ⟨_, rfl⟩
  have roomA : Room k A' := by rw [eA]; exact room_gen hr
  have framesA : A'.frames = some (genEnv scope [] h3.objs.size code builtinsNs X.env :: X.stack) := by
    rw [eA]
    exact ov_frames inv1.ok.frames
  obtain ⟨X', eX⟩ : ∃ X' : Cx, X' = gx X A' x scope h3.objs.size code { s1 with heap := h3, toks := tk } H4 s1.heap.objs.size := ⟨_, rfl⟩
  have inv5 : Inv X' [(h'.objs.size, go)] [some (.ref s1.heap.objs.size), none] H4 { s1 with gens := s1.gens.push (.fresh (.compStart (gExp elt iter x px scope gpos) 0 (.ref s1.heap.objs.size) .none (genEnv scope [] h3.objs.size code builtinsNs X.env))), toks := tk + 1 + 1 + 1, heap := h'.push go } := by
    rw [eX]
    have look : ∀ y, ((genEnv scope [] h3.objs.size code builtinsNs X.env).kindOf y = some .cell ∨ (genEnv scope [] h3.objs.size code builtinsNs X.env).kindOf y = some .free) → False := fun y z => by
      rcases z with z | z
      · exact (S.own _ (PySem.mem_of_lookup (show scope.names.lookup y = some .cell from z))).1 rfl
      · exact (S.own _ (PySem.mem_of_lookup (show scope.names.lookup y = some .free from z))).2 rfl
    refine ⟨⟨inv1.ok.mod, S.kind, inv1.ok.glob, rfl, Nat.le_refl _, fun _ _ _ z => (nomatch z), fun y z => (look y z).elim, fun _ _ _ z => (nomatch z), fun _ => roomA.hd, framesA, .inr ⟨rfl, rfl⟩, fun b hb => ?_, inv4.bs, Nat.le_trans inv4.ok.bsz inv4.sz, fun b o e => ?_, fun b hb => ?_, inv4.stack, inv4.stkFree⟩,
      rfl, inv1.bare.push rfl, Un.kept up5, ⟨_, ns.push _, fun i y v h1 h2 h3' => ?_⟩, fun _ _ z => (nomatch z), none4 _ (Nat.le_refl _), fun _ _ z => (nomatch z), fun p hp => ?_, inv4.hok.kept up5, rfl⟩
    · rw [List.mem_singleton.mp hb]
      exact ⟨Nat.ne_of_lt upI, fun _ _ z => (nomatch z)⟩
    · intro z
      have l := Heap.lt_size (inv1.bk b o e)
      rw [List.mem_singleton.mp z] at l
      exact Nat.lt_irrefl _ l
    · rw [List.mem_singleton.mp hb]
      exact nIf
    · match i, h1, h2 with
      | 0, h1, h2 =>
        cases h1
        cases h2
        exact ⟨.ref s1.heap.objs.size, rfl, .inl ⟨S.dot, by simp⟩⟩
      | 1, h1, h2 => cases h2
      | i + 2, h1, h2 => simp at h2
    · rw [show p = (h'.objs.size, go) from List.mem_singleton.mp hp]
      refine ⟨Heap.get?_push_size _ (by rw [← hgo]; rfl), none4 _ (by omega), ?_, naf _ (by omega), fun v z => ?_⟩
      · show h'.objs.size ≠ h3.objs.size
        omega
      · rw [← hgo] at z
        cases z
  have G0 : GSt X' (h'.objs.size, go) s1.heap.objs.size t W 0 { s1 with gens := s1.gens.push (.fresh (.compStart (gExp elt iter x px scope gpos) 0 (.ref s1.heap.objs.size) .none (genEnv scope [] h3.objs.size code builtinsNs X.env))), toks := tk + 1 + 1 + 1, heap := h'.push go } :=
    ⟨H4, none, inv5, w4, it3.at fun o e => up5 _ o e⟩
  have hH : ∀ i H, W i H → H s1.heap.objs.size = none := fun i H w => (wsq i H w).2 _ nI0
  have loop := gen_loop (elt := elt) (iter := iter) (px := px) (pos := gpos) (A := X.A.in1.in1) (C := h3.objs.size) (I := s1.heap.objs.size) (t := t) (code := code) (s4 := { s1 with heap := h3, toks := tk }) (H4 := H4) (pin := (h'.objs.size, go)) (te := tel) (xs := xs) (tr := tr) (W := W)
    S hr.hd upI rfl nIf (Nat.ne_of_lt lt1) (show h'.objs.size ≠ s1.heap.objs.size by omega) hH (he _ _ _ _ _ _ (room_gen hr)) (fun i H w => (wsq i H w).1) (fun i H v e w => wst _ i H v e w)
  rw [← eA, ← eX] at loop
  have isg5 : ∀ s : Shared, (∃ (i : Nat), GSt X' (h'.objs.size, go) s1.heap.objs.size t W i s) → s.heap.IsGen h'.objs.size s1.gens.size := fun s ⟨i, H, y, inv', _⟩ => by
    obtain ⟨z, _⟩ := inv'.pin (h'.objs.size, go) (List.mem_append_right _ (List.mem_cons_self ..))
    exact ⟨go, _, _, z, by rw [← hgo], by rw [← hgo], by rw [← hgo]⟩
  have endOf : ∀ (i : Nat) (H : Hp) (y : Option V) (s : Shared), Inv X' [(h'.objs.size, go)] [some (.ref s1.heap.objs.size), y] H s → W i H → ∀ (s' : Shared), s'.os = s.os → AllBare s'.gens → (∀ b o, s.heap.get? b = some o → s'.heap.get? b = some o) →
      CE X.stack X.prog X.w H1 s1 Q (.bool ((List.range xs.length).all tr)) s' := fun i H y s inv' w s' os br kp => by
    have ub := inv'.base
    have uo := inv'.os
    rw [eX] at ub uo
    have u1 : Un (frs X.stack) [] H1 H s1.heap s.heap := un_skip un4 ub (Nat.le_refl _)
    have hok := inv'.hok
    rw [eX] at hok
    exact ⟨.bl _, H, os.trans uo, br, u1.trans (Un.kept kp), hok.kept kp, rfl, q i H w⟩
  refine call_function_tree F.kind_all F.plain_all F.entry_all (F.args_all1 _) ?_
  unfold Builtin.«all»
  refine wpAny_bind (m := oneArg "all" _) (wpAny_pure ?_)
  refine wpAny_bind (wpAny_pyIter_gen (isg5 _ ⟨0, G0⟩) ?_)
  refine wpAny_pure ⟨plainId_quiet F.plain_all_loop _, all_loop (a := h'.objs.size) (n := xs.length) (tr := tr)
    (J := fun i s => GSt X' (h'.objs.size, go) s1.heap.objs.size t W i s ∧ ∃ gs, s.gens[s1.gens.size]? = some gs ∧ ∀ g, AllBare g → gs.Goes (model X.prog X.w) X.A.in1.in1 (gR X' (h'.objs.size, go) s1.heap.objs.size xs.length W) (gY X' (h'.objs.size, go) s1.heap.objs.size t xs.length tr W) (xs.length - i) (.send .none) { s with gens := g })
    (Je := fun s' => CE X.stack X.prog X.w H1 s1 Q (.bool ((List.range xs.length).all tr)) s') (fun i s ⟨⟨H, y, inv', w, _⟩, _⟩ => endOf i H y s inv' w s rfl inv'.bare fun _ _ e => e) ?item ?done xs.length 0 _ rfl (Nat.zero_le _) ⟨G0, _, Array.getElem?_push_size .., fun g hg => ⟨rfl, ?start⟩⟩ fun s' ce => ?_⟩
  case start =>
    have it5 : (h'.push go).IsTupleIter s1.heap.objs.size t 0 := it3.at fun o e => up5 _ o e
    have tup5 : (h'.push go).IsTuple t its.toArray := tup3.at fun o e => up5 _ o e
    have z := loop xs.length 0 { s1 with gens := g, toks := tk + 1 + 1 + 1, heap := h'.push go } { s1 with gens := g, toks := tk + 1 + 1 + 1, heap := h'.push go } rfl (Nat.zero_le _) (G0.gens hg)
    exact gen_start (X := X) (A := X.A.in1.in1) (its := its.toArray) hr.hd (Nat.ne_of_lt lt1) it5 tup5 z
  case item =>
    rintro i s5 Q5 E5 lt ⟨G, gs, hgs, go5⟩ q5
    obtain ⟨m, em⟩ : ∃ m, xs.length - i = m + 1 := ⟨xs.length - i - 1, by omega⟩
    rw [em] at go5
    obtain ⟨H5, y5, inv5', w5, _⟩ := id G
    have gl : s1.gens.size < s5.gens.size := (Array.getElem?_eq_some_iff.mp hgs).1
    refine GenW.wpAny_gsz (n := s1.gens.size + 1) gl ?_
    refine wpAny_pyNext_genexpQ (n := m + 1) (P := fun m _ s1' => m = 0 ∧ ∃ (H : Hp) (y : Option V), Inv X' [(h'.objs.size, go)] [some (.ref s1.heap.objs.size), y] H s1' ∧ W xs.length H) (Y := gY X' (h'.objs.size, go) s1.heap.objs.size t xs.length tr W)
      hr.hd inv5'.nolimit (by have := hr.dp; show X.A.depth < _; omega) (isg5 _ ⟨i, G⟩) hgs (go5 _ (bare_set inv5'.bare rfl)) (fun v s6 gs' hb hv => ?_) (fun s6 hp h6 hk => ?_)
    · obtain ⟨rfl, G6, kap⟩ := hv
      intro sz6
      rw [show xs.length - 1 - (m + 1 - 1) = i by omega]
      rw [show xs.length - (m + 1 - 1) = i + 1 by omega] at G6
      obtain ⟨H6, y6, inv6, w6, _⟩ := id G6
      refine q5 _ ⟨G6.gens (bare_set inv6.bare hb), gs', ?_, fun g hg => ?_⟩
      · have l6 : s1.gens.size < s6.gens.size := by
          rw [GenW.setGen_size] at sz6
          omega
        show (s6.gens.setIfInBounds s1.gens.size gs')[s1.gens.size]? = some gs'
        rw [Array.getElem?_setIfInBounds_self_of_lt l6]
      · rw [show xs.length - (i + 1) = m by omega]
        exact kap g hg
    · exact absurd hp.1 (Nat.succ_ne_zero m)
  case done =>
    rintro s5 Q5 E5 ⟨G, gs, hgs, go5⟩ q5
    rw [Nat.sub_self] at go5
    obtain ⟨H5, y5, inv5', w5, _⟩ := id G
    refine wpAny_pyNext_genexpQ (n := 0) (P := fun m _ s1' => m = 0 ∧ ∃ (H : Hp) (y : Option V), Inv X' [(h'.objs.size, go)] [some (.ref s1.heap.objs.size), y] H s1' ∧ W xs.length H) (Y := gY X' (h'.objs.size, go) s1.heap.objs.size t xs.length tr W)
      hr.hd inv5'.nolimit (by have := hr.dp; show X.A.depth < _; omega) (isg5 _ ⟨_, G⟩) hgs (go5 _ (bare_set inv5'.bare rfl)) (fun v s6 gs' hb hv => ?_) (fun s6 hp h6 hk => ?_)
    · obtain ⟨_, G6, kap⟩ := hv
      obtain ⟨H6, y6, inv6, w6, _⟩ := id G6
      exact (kap _ inv6.bare).elim
    · obtain ⟨_, H6, y6, inv6, w6⟩ := hp
      exact q5 _ (endOf _ H6 y6 s6 inv6 w6 _ rfl (bare_set inv6.bare rfl) hk)
  · rw [List.drop_zero]
    exact inv1.after ce
end
end Lt

set_option Elab.async false
set_option linter.all false
set_option maxRecDepth 100000
set_option maxHeartbeats 4000000
/-! 'a' <= sign <= 'z' as a generator's element; len(set(t)), t a tuple of texts. -/
namespace Lt
open PySem PySem.Spec PyProof.Rows L2
/-- a small letter -/
def small (c : Nat) : Bool := decide (97 ≤ c) && decide (c ≤ 122)
theorem sign_le (a c : Nat) : (!decide ([c] < [a])) = decide (a ≤ c) := by
  by_cases h : a ≤ c
  · rw [decide_eq_true h, decide_eq_false (fun z => by
      rw [List.cons_lt_cons_iff] at z
      rcases z with z | z
      · omega
      · exact List.not_lt_nil _ z.2)]
    rfl
  · rw [decide_eq_false h, decide_eq_true (List.cons_lt_cons_iff.mpr (.inl (by omega)))]
    rfl
theorem elt_az {prog : Program} {w : World} {scope : Scope} {x : Str} {j k : Nat} {p1 p2 p3 p4 : Pos} (hk : scope.kind = .function) (hl : scope.names.lookup x = some .local) (hd : (x == ("__debug__" : Str)) = false := by decide)
    (hm : lastMarks [.LtE, .LtE] [.Name x p2, .Constant (.str "z") k p3] = false := by with_unfolding_all rfl) :
    GxR.EltP prog w scope x (.Compare (.Constant (.str "a") j p1) [.LtE, .LtE] [.Name x p2, .Constant (.str "z") k p3] p4) small := by
  intro cenv A' E' c t s2 m2 hs hn hm2
  refine Compare_chain (Calls.Constant_str (chain_link (wpAny_Name (wpAny_loadName_local (by rw [hs]; exact hk) (show cenv.scope.names.lookup x = some .local by rw [hs]; exact hl) hn hm2 ?_) hd))) hm
  refine PySem.P.le_str ?_
  have e1 : (!decide ((⟨#[c]⟩ : Str).cps.toList < ("a" : Str).cps.toList)) = decide (97 ≤ c) := sign_le 97 c
  rw [e1]
  refine wpAny_truthy_bool ?_
  by_cases h : 97 ≤ c
  · rw [decide_eq_true h]
    refine ite_tt (chain_last (Calls.Constant_str (PySem.P.le_str ?_)))
    have e2 : (!decide (("z" : Str).cps.toList < (⟨#[c]⟩ : Str).cps.toList)) = decide (c ≤ 122) := sign_le c 122
    rw [e2]
    refine ⟨?_, GxR.keeps_tok _ _⟩
    unfold small
    rw [decide_eq_true h, Bool.true_and]
  · rw [decide_eq_false h]
    refine ite_ff ⟨?_, GxR.keeps_tok _ _⟩
    unfold small
    rw [decide_eq_false h, Bool.false_and]
section
variable {prog : Program} {w : World} {A : Around} {E : Value → Shared → Prop} {s : Shared}
theorem set_txtsT {l : Addr} {items : Array Value} {ss : List Str} {Q : Value → Shared → Prop} (calm : A.handled = none) (hl : s.heap.IsTuple l items) (val : ∀ (i : Nat) (v : Value), items[i]? = some v → ∃ z t, ss[i]? = some z ∧ v = .str z t)
    (len : items.size = ss.length) (room : items.size + 1 < scanBound)
    (h : ∀ (h' : Heap) (tk : Nat), h'.SetOf (PySem.strKind prog w) s.heap.objs.size (fun z => decide (z ∈ ss)) (dist ss) → (∀ b o, s.heap.get? b = some o → h'.get? b = some o) → Q (.ref s.heap.objs.size) { s with heap := h', toks := tk }) :
    wpAny (model prog w) A (call (.type "set") [.ref l]) Q E s := by
  refine set_call fun led => ?_
  generalize hso : ({ cls := .type "set", dict := none, data := .set #[] 0 (.fresh 0 0 led) } : Obj) = so
  have below : (l : Nat) < s.heap.objs.size := by
    obtain ⟨o, ho, _⟩ := hl
    exact Heap.lt_size ho
  have atS : (s.heap.push so).get? s.heap.objs.size = some so := Heap.get?_push_size _ (by rw [← hso]; rfl)
  have hl1 : (s.heap.push so).IsTuple l items := hl.at fun o e => Heap.get?_push_of_some _ e
  have top1 : (s.heap.push so).objs.size = s.heap.objs.size + 1 := Heap.size_push _ _
  obtain ⟨⟨oc, od, odt, osl⟩, ho1, hc1, n1, hd1⟩ := id hl1
  simp only at hc1 hd1
  subst hc1 hd1
  have no1 := PySem.F.sub_tuple_set
  have no2 := PySem.F.sub_tuple_frozenset
  have no3 : (Value.type "tuple" == Value.type "dict") = false := by decide
  unfold Builtin.«set.__init__» noKeywords Builtin.Frozenset.updateFrom
  generalize hPI : pyIter = PI
  subst hso
  wp_walk
  subst hPI
  refine wpAny_pyIter_tuple hl1 (wpAny_bind (wpAny_runValue ?_))
  have calm3 : A.in1.in1.in1.handled = none := by simp [calm]
  have neI : l ≠ (s.heap.push { cls := .type "set", dict := none, data := .set #[] 0 (.fresh 0 0 led) }).objs.size := by
    rw [top1]
    exact Nat.ne_of_lt (Nat.lt_succ_of_lt below)
  have offS : s.heap.objs.size ∉ [(s.heap.push { cls := .type "set", dict := none, data := .set #[] 0 (.fresh 0 0 led) }).objs.size, l] := by
    rw [top1]
    intro z
    rcases List.mem_cons.mp z with e | e
    · exact Nat.succ_ne_self _ e.symm
    · exact absurd (List.mem_singleton.mp e) (Nat.ne_of_gt below)
  refine txt_loop ((Walks.tuple calm3 _ l neI items).toS) s.heap.objs.size offS ss len room val items.size 0 _ (Nat.zero_add _) ⟨⟨_, Heap.get?_push_size _ rfl, rfl, rfl⟩, hl1.at fun o e => Heap.get?_push_of_some _ e⟩ ?empty ?filled
  case empty =>
    refine SetOf_congr ((setObjOf_fresh (knd := PySem.strKind prog w) led).setOf (Heap.get?_push_of_some _ atS) (by unfold scanBound; omega)) (fun z => ?_) rfl
    simp
  case filled =>
    intro s5 mv set5
    obtain ⟨h5, g5, d5, tk5, os5⟩ := s5
    obtain rfl : g5 = s.gens := mv.gens
    obtain rfl : d5 = s.drawn := mv.drawn
    obtain rfl : os5 = s.os := mv.os
    show wpAny _ _ _ _ _ _
    refine wpAny_pure (show wpAny _ _ (ret Value.none) _ _ _ from wpAny_pure ⟨rfl, h h5 tk5 set5 fun b o e => ?_⟩)
    have lt : b < s.heap.objs.size := Heap.lt_size e
    refine mv.heap b o (fun z => ?_) (Heap.get?_push_of_some _ (Heap.get?_push_of_some _ e))
    rcases List.mem_cons.mp z with e2 | e2
    · exact absurd e2 (Nat.ne_of_lt lt)
    · rw [List.mem_singleton.mp e2, top1] at lt
      exact absurd lt (Nat.not_lt.mpr (Nat.le_succ _))
end
section
variable {X : Cx}
def tLenSetT (K : PySem.W.Frag) (ta : TE) : TE := fun σ H Q => ta σ H fun x H1 => ∃ (l : Addr) (ss : List Str), x = .ref l ∧ SqT K H1 l (ss.map V.str) ∧ ss.length ≤ 1000 ∧ Q (.int (dist ss : Nat)) H1
theorem pe_lenSetT {a : Expr} {ta : TE} {p p2 q pos : Pos} (hcalm : X.calm = true) (g1 : Gl X "len") (m1 : X.mg "len" = none) (g2 : Gl X "set") (m2 : X.mg "set" = none) (ha : PE X a ta)
    (one : starEach [a] X.env = (false, eval a X.env) :: starEach [] X.env := by rfl) : PE X (.Call (.Name "len" p) [.Call (.Name "set" p2) [a] [] q] [] pos) (tLenSetT X.K ta) := by
  refine ⟨fun pins s σ H Q inv h => Call_ (ld_blt inv g1 m1 boot_len (callWith_builtin1 (args_cons ?_ rfl) rfl rfl))⟩
  refine Call_ (ld_blt inv g2 m2 boot_set (callWith_type1 (args_cons (thn (ha.run pins s σ H _ inv h) fun v s1 ⟨x, H1, inv1, rel, l, ss, ev, sq, few, q1⟩ => args_nil ?_) one) one rfl))
  subst ev
  cases rel
  obtain ⟨its, vals, tup, _⟩ := inv1.tuple sq
  have len : its.toArray.size = ss.length := by rw [List.size_toArray, ← vals.length, List.length_map]
  refine set_txtsT (ss := ss) (inv1.ok.hd hcalm) tup (fun i v e => ?_) len (by rw [len]; unfold scanBound; omega) fun h' tk set kept => args_nil ?_
  · have e' : its[i]? = some v := by simpa using e
    have hi : i < ss.length := by
      have z := (List.getElem?_eq_some_iff.mp e').1
      rw [← len, List.size_toArray]
      exact z
    obtain ⟨u, g3, t, g4⟩ := vals.get (i := i) (x := .str ss[i]) (by simp [hi])
    rw [e'] at g3
    cases g3
    exact ⟨ss[i], t, List.getElem?_eq_getElem hi, g4⟩
  · obtain ⟨o, es, ep, tb, ho, ex, hd, _, _, _, fits, num⟩ := set
    have small : dist ss ≤ 1000 := Nat.le_trans (dist_le ss) few
    have inv2 : Inv X pins σ H1 { s1 with heap := h', toks := tk } := inv1.kept kept
    exact call_len_set ho ex hd fits (by rw [num]; omega) ⟨.int (dist ss : Nat), H1, inv2.tok _, ⟨_, by rw [num]⟩, q1⟩
end
end Lt

set_option Elab.async false
set_option linter.all false
set_option maxRecDepth 100000
set_option maxHeartbeats 4000000
/-! what a name and a pile are, of any data; heaps that differ in tables alone. -/
namespace Lt
open PySem PySem.Spec PyProof.Rows L2
def nameD : PyData → Bool
  | .str z => decide (1 ≤ z.length) && decide (z.length ≤ 8) && z.cps.toList.all small
  | _ => false
def txts (ds : List PyData) : List Str := ds.filterMap fun d => match d with
  | .str z => some z
  | _ => none
def pileD : PyData → Bool
  | .tuple ds => decide (1 ≤ ds.length) && decide (ds.length ≤ 7) && ds.all nameD && decide (dist (txts ds) = ds.length)
  | _ => false
theorem nameD_str (z : Str) : nameD (.str z) = (decide (1 ≤ z.length) && decide (z.length ≤ 8) && z.cps.toList.all small) := rfl
theorem pileD_tup (ds : List PyData) : pileD (.tuple ds) = (decide (1 ≤ ds.length) && decide (ds.length ≤ 7) && ds.all nameD && decide (dist (txts ds) = ds.length)) := rfl
theorem name_str {d : PyData} (h : nameD d = true) : ∃ z, d = .str z := by
  cases d with
  | str z => exact ⟨z, rfl⟩
  | _ => cases h
theorem kind_str {K : PySem.W.Frag} {H : Hp} {v : V} {d : PyData} (dp : Dp K H v d) : (∃ z, d = .str z) ∨ ((∀ z, d ≠ .str z) ∧ kitB (kindName d) "str" = some false) := by
  cases d with
  | str z => exact .inl ⟨z, rfl⟩
  | none => exact .inr ⟨fun z => (nomatch ·), (show kitB "NoneType" "str" = some false by decide +kernel)⟩
  | bool b => exact .inr ⟨fun z => (nomatch ·), (show kitB "bool" "str" = some false by decide +kernel)⟩
  | int i => exact .inr ⟨fun z => (nomatch ·), (show kitB "int" "str" = some false by decide +kernel)⟩
  | list ds => exact .inr ⟨fun z => (nomatch ·), (show kitB "list" "str" = some false by decide +kernel)⟩
  | tuple ds => exact .inr ⟨fun z => (nomatch ·), (show kitB "tuple" "str" = some false by decide +kernel)⟩
  | dict kvs => cases dp
theorem kind_tup {K : PySem.W.Frag} {H : Hp} {v : V} {d : PyData} (dp : Dp K H v d) : (∃ ds, d = .tuple ds) ∨ ((∀ ds, d ≠ .tuple ds) ∧ kitB (kindName d) "tuple" = some false) := by
  cases d with
  | tuple ds => exact .inl ⟨ds, rfl⟩
  | none => exact .inr ⟨fun z => (nomatch ·), (show kitB "NoneType" "tuple" = some false by decide +kernel)⟩
  | bool b => exact .inr ⟨fun z => (nomatch ·), (show kitB "bool" "tuple" = some false by decide +kernel)⟩
  | int i => exact .inr ⟨fun z => (nomatch ·), (show kitB "int" "tuple" = some false by decide +kernel)⟩
  | list ds => exact .inr ⟨fun z => (nomatch ·), (show kitB "list" "tuple" = some false by decide +kernel)⟩
  | str z => exact .inr ⟨fun z => (nomatch ·), (show kitB "str" "tuple" = some false by decide +kernel)⟩
  | dict kvs => cases dp
theorem name_no {d : PyData} (h : ∀ z, d ≠ .str z) : nameD d = false := by
  cases d with
  | str z => exact absurd rfl (h z)
  | _ => rfl
theorem pile_no {d : PyData} (h : ∀ ds, d ≠ .tuple ds) : pileD d = false := by
  cases d with
  | tuple ds => exact absurd rfl (h ds)
  | _ => rfl
theorem no_free {names : List (Str × NameKind)} {q : Str × NameKind → Prop} (h : names.all (fun y => y.2 != .free) = true) : ∀ y ∈ names, y.2 = .free → q y := fun y hy e => by
  have z := List.all_eq_true.mp h y hy
  rw [e] at z
  cases z
theorem txts_map : ∀ ss : List Str, txts (ss.map PyData.str) = ss
  | [] => rfl
  | x :: r => by
    show x :: txts (r.map PyData.str) = x :: r
    rw [txts_map r]
theorem txts_all : ∀ {ds : List PyData}, (∀ d ∈ ds, nameD d = true) → ds = (txts ds).map PyData.str
  | [], _ => rfl
  | d :: ds, h => by
    obtain ⟨z, rfl⟩ := name_str (h d (List.mem_cons_self ..))
    have ih := txts_all (ds := ds) fun e he => h e (List.mem_cons_of_mem _ he)
    have e : txts (PyData.str z :: ds) = z :: txts ds := rfl
    rw [e, List.map_cons, ← ih]
theorem dpAll_txts {K : PySem.W.Frag} {H : Hp} : ∀ {vs : List V} {ss : List Str}, DpAll K H vs (ss.map PyData.str) → vs = ss.map V.str
  | _, [], .nil => rfl
  | _, x :: r, .cons h t => by
    cases h
    rw [List.map_cons, dpAll_txts t]
def atD (p : PyData → Bool) (l : List PyData) (i : Nat) : Bool := match l[i]? with
  | some d => p d
  | none => false
theorem atD_some {p : PyData → Bool} {l : List PyData} {i : Nat} {d : PyData} (h : l[i]? = some d) : atD p l i = p d := by
  unfold atD
  rw [h]
theorem all_at (p : PyData → Bool) (l : List PyData) : (List.range l.length).all (atD p l) = l.all p := by
  rw [Bool.eq_iff_iff, List.all_eq_true, List.all_eq_true]
  constructor
  · intro h d hd
    obtain ⟨i, hi⟩ := List.getElem?_of_mem hd
    have l := (List.getElem?_eq_some_iff.mp hi).1
    have z := h i (List.mem_range.mpr l)
    rw [atD_some hi] at z
    exact z
  · intro h i hi
    have l := List.mem_range.mp hi
    rw [atD_some (List.getElem?_eq_getElem l)]
    exact h _ (List.getElem_mem l)
/-! ### heaps that differ in tables alone -/
def SameN (H H' : Hp) : Prop := ∀ b o, H b = some o → (∀ q, o ≠ .tbl q) → H' b = some o
theorem SameN.refl (H : Hp) : SameN H H := fun _ _ h _ => h
theorem SameN.trans {H H1 H2 : Hp} (a : SameN H H1) (b : SameN H1 H2) : SameN H H2 := fun c o h n => b c o (a c o h n) n
theorem SameN.of {H H' : Hp} (s : Same H H') : SameN H H' := fun c o h _ => s c o h
theorem SameN.tab {P : Addr} {H H' : Hp} (t : GxR.TabG H P) (s : GxR.Tabbed P H H') : SameN H H' := fun b o h n => by
  by_cases e : b = P
  · obtain ⟨ps, h1, _⟩ := t
    rw [e, h1] at h
    exact absurd (Option.some.inj h).symm (n ps)
  · rw [s.2 b e]
    exact h
theorem SameN.tup {K : PySem.W.Frag} {H H' : Hp} {a : Addr} {xs : List V} (e : SameN H H') (h : SqT K H a xs) : SqT K H' a xs := by
  rcases h with (h | ⟨o, h⟩) | h
  · exact .inl (.inl (e _ _ h fun q z => nomatch z))
  · exact .inl (.inr ⟨o, e _ _ h fun q z => nomatch z⟩)
  · exact .inr h
theorem SameN.lst {K : PySem.W.Frag} {H H' : Hp} {a : Addr} {xs : List V} (e : SameN H H') (h : SqL K H a xs) : SqL K H' a xs := by
  rcases h with (h | ⟨o, h⟩) | h
  · exact .inl (.inl (e _ _ h fun q z => nomatch z))
  · exact .inl (.inr ⟨o, e _ _ h fun q z => nomatch z⟩)
  · exact .inr h
mutual
theorem dp_sameN {K : PySem.W.Frag} {H H' : Hp} (e : SameN H H') : ∀ {v : V} {d : PyData}, Dp K H v d → Dp K H' v d
  | _, _, .non => .non
  | _, _, .bl b => .bl b
  | _, _, .int i => .int i
  | _, _, .str x => .str x
  | _, _, .lst h a => .lst (e.lst h) (dpAll_sameN e a)
  | _, _, .tup h a => .tup (e.tup h) (dpAll_sameN e a)
theorem dpAll_sameN {K : PySem.W.Frag} {H H' : Hp} (e : SameN H H') : ∀ {vs : List V} {ds : List PyData}, DpAll K H vs ds → DpAll K H' vs ds
  | _, _, .nil => .nil
  | _, _, .cons h t => .cons (dp_sameN e h) (dpAll_sameN e t)
end
theorem TpO.sameN {H H' : Hp} {a : Addr} {xs : List V} (h : TpO H a xs) (e : SameN H H') : TpO H' a xs := by
  obtain ⟨u, h1, o, rfl, r⟩ := h
  exact ⟨_, e _ _ h1 (fun q z => nomatch z), o, rfl, r⟩
theorem Tape.sameN {H H' : Hp} {T S : Addr} {ns : List Int} (t : Tape H T S ns) (s : SameN H H') : Tape H' T S ns := by
  obtain ⟨i, c, h⟩ := t.at_
  exact ⟨⟨i, c, s _ _ h (fun q z => nomatch z)⟩, s _ _ t.scr (fun q z => nomatch z)⟩
theorem SameN.lstH {H H' : Hp} {a : Addr} {xs : List V} (e : SameN H H') (h : H a = some (.lst xs)) : H' a = some (.lst xs) := e _ _ h fun q z => nomatch z
theorem SameN.tupH {H H' : Hp} {a : Addr} {xs : List V} (e : SameN H H') (h : H a = some (.tup xs)) : H' a = some (.tup xs) := e _ _ h fun q z => nomatch z
theorem tabG_same {P : Addr} {H H' : Hp} (t : GxR.TabG H P) (s : Same H H') : GxR.TabG H' P := by
  obtain ⟨ps, h, r⟩ := t
  exact ⟨ps, s _ _ h, r⟩
theorem tabG_but {P T : Addr} {H H' : Hp} (t : GxR.TabG H P) (s : SameT T H H') (h : ∃ xs, H T = some (.lst xs)) : GxR.TabG H' P := by
  obtain ⟨ps, h1, r⟩ := t
  obtain ⟨xs, h2⟩ := h
  exact ⟨ps, s _ _ (ne_of h1 h2 fun z => nomatch z) h1, r⟩
theorem tabG_tab {P P' : Addr} {H H' : Hp} (t : GxR.TabG H P) (s : GxR.Tabbed P' H H') : GxR.TabG H' P := by
  by_cases e : P = P'
  · rw [e]
    exact s.1
  · obtain ⟨ps, h, r⟩ := t
    exact ⟨ps, by rw [s.2 P e]; exact h, r⟩
theorem tabbed_refl {P : Addr} {H : Hp} (t : GxR.TabG H P) : GxR.Tabbed P H H := ⟨t, fun _ _ => rfl⟩
end Lt

set_option Elab.async false
set_option linter.all false
set_option maxRecDepth 100000
set_option maxHeartbeats 4000000
namespace Lt
open PySem PySem.Spec PyProof.Rows L2
section
variable {P : Program} {w : World} {K : PySem.W.Frag} {mg : Str → Option Value} {base : Heap} {X : Cx}
def top (i : Nat) : Stmt := PySem.Challenge.pw_laidontop_k07_whole_numbers_tell_the_rea.main.body.getD i (.Pass ⟨0, 0, 0, 0⟩)
abbrev sIsName : Stmt := top 2
abbrev sIsPile : Stmt := top 5
abbrev sBehind : Stmt := top 6
abbrev sLifted : Stmt := top 7
abbrev sLaid : Stmt := top 8
abbrev sReadBy : Stmt := top 10
abbrev sUndone : Stmt := top 11
abbrev sLiftable : Stmt := top 12
abbrev sPut : Stmt := top 13
abbrev sDraw : Stmt := top 15
abbrev sLike : Stmt := top 16
abbrev sOrder : Stmt := top 17
abbrev sBooks : Stmt := top 18
abbrev sPile : Stmt := top 19
abbrev sReadings : Stmt := top 20
abbrev sRead : Stmt := top 21
abbrev sLaw : Stmt := top 22
theorem scDraw : FnScope ["tape", "many", "prime", "cell", "found"] ["tape", "many"] (defScope sDraw) := ⟨rfl, rfl, rfl, by decide +kernel, rfl, by decide +kernel, by decide +kernel⟩
theorem ok_draw {f : Addr} {fd : FuncData} (F : Fun K "_law_draw" "_law_draw" sDraw f fd) (ml : mg "len" = none) : FnOk P w K mg base CX0 1 f fd ["tape", "many"] spDraw := by
  refine F.ok scDraw (fun vs H Q E h => ?_) (fun cdv A outer s H vs Q E hr h => ?_)
  · obtain ⟨T, S, ns, m, rfl, _⟩ := h
    rfl
  obtain ⟨T, S, ns, m, rfl, tp, m0, m1, q⟩ := h
  obtain ⟨i, c, hT⟩ := tp.at_
  have hS := tp.scr
  refine ⟨_, pss_cons (ps_set (i := 2) scDraw.nd rfl (.inl rfl) pe_int)
    (Evl.pss_cut (ps_if (pt_cmpR op_lt (pe_ix ix_list (pv 0) pe_int (fun _ _ => rfl)) (pv 1) (nomark _))
      (pss_cons (ps_set (i := 3) scDraw.nd rfl (.inl rfl) pe_int)
      (Evl.pss_cut (ps_if (pt_cmpR op_gt (pe_callB call_len_seq (by rfl) ml PySem.boot_len (pa_cons (pe_ix ix_list (pv 0) pe_int (fun _ _ => rfl)) pa_nil)) pe_int (nomark _))
        (pss_one (ps_set (i := 3) scDraw.nd rfl (.inl rfl) (pe_ix ix_list (pe_ix ix_list (pv 0) pe_int (fun _ _ => rfl))
          (pe_op op_mod (pe_ix ix_list (pv 0) pe_int (fun _ _ => rfl)) (pe_callB call_len_seq (by rfl) ml PySem.boot_len (pa_cons (pe_ix ix_list (pv 0) pe_int (fun _ _ => rfl)) pa_nil))) (fun _ _ => rfl)))) pss_nil)
      (Evl.pss_cut (ps_if (PW.pt (pw_or (pt_cmpR op_ge (pe_ix ix_list (pv 0) pe_int (fun _ _ => rfl)) (pe_callB call_len_seq (by rfl) ml PySem.boot_len (pa_cons (pe_ix ix_list (pv 0) pe_int (fun _ _ => rfl)) pa_nil)) (nomark _))
          (pw_or1 (pt_cmpR op_lt (pv 3) (pe_op op_pow pe_int pe_int) (nomark _)))))
        (pss_cons (ps_set (i := 3) scDraw.nd rfl (.inl rfl) (pe_op op_mod (pe_op op_add (pv 3) (pe_op op_mul pe_int (pe_ix ix_list (pv 0) pe_int (fun _ _ => rfl)))) (pv 2)))
        (pss_cons (ps_set (i := 3) scDraw.nd rfl (.inl rfl) (pe_op op_mod (pe_op op_add (pe_op op_add (pe_op op_mul (pv 3) (pv 3)) (pe_op op_mul pe_int (pv 3))) pe_int) (pv 2)))
        (pss_one (ps_set (i := 3) scDraw.nd rfl (.inl rfl) (pe_op op_mod (pe_op op_add (pe_op op_mul (pv 3) (pv 3)) pe_int) (pv 2)))))) pss_nil)
      (pss_cons (ps_asg (pe_op op_add (pe_ix ix_list (pv 0) pe_int (fun _ _ => rfl)) pe_int) (pg_sub (pv 0) pe_int set_list))
      (pss_one (ps_asg (pv 3) (pg_sub (pv 0) pe_int set_list))))))) pss_nil)
    (pss_cons (ps_set (i := 4) scDraw.nd rfl (.inl rfl) (pe_op op_mod (pe_ix ix_list (pv 0) pe_int (fun _ _ => rfl)) (pv 1)))
    (pss_cons (ps_asg (pe_op op_fdivW (pe_ix ix_list (pv 0) pe_int (fun _ _ => rfl)) (pv 1)) (pg_sub (pv 0) pe_int set_list))
    (pss_one (ps_ret (pv 4)))))), ?_⟩
  have lenE : ((ns.map V.int).length : Int) = ns.length := by rw [List.length_map]
  refine ⟨fun σ H' => ∃ (y3 : Option V) (i' c' : Int), σ = [some (.ref T), some (.int m), some (.int 2305843009213693951), y3, none] ∧ H' = upd H T (.lst [.ref S, .int i', .int c']), ?_, ?_⟩
  · refine ⟨_, rfl, T, _, 2, _, rfl, rfl, sql hT, rfl, _, rfl, _, _, rfl, rfl, _, rfl, ite2 (fun _ => ?_) (fun _ => ?_)⟩
    · -- the cell
      refine ⟨fun σ H' => ∃ c0 : Int, σ = [some (.ref T), some (.int m), some (.int 2305843009213693951), some (.int c0), none] ∧ H' = H, ?_, ?_⟩
      · refine ⟨_, rfl, T, _, 0, _, rfl, rfl, sql hT, rfl, S, _, rfl, .inl (sql hS), _, _, rfl, rfl, _, rfl, ite2 (fun g => ?_) (fun _ => ?_)⟩
        · have g1 : (0 : Int) < ((ns.map V.int).length : Int) := of_decide_eq_true g
          rw [lenE] at g1
          have e0 : 0 ≤ i % (ns.length : Int) := Int.emod_nonneg _ (by omega)
          have e1 : i % (ns.length : Int) < (ns.length : Int) := Int.emod_lt_of_pos _ g1
          have hk : (i % (ns.length : Int)).toNat < ns.length := by omega
          refine ⟨_, rfl, T, _, 0, _, rfl, rfl, sql hT, rfl, _, rfl, T, _, 1, _, rfl, rfl, sql hT, rfl, _, rfl, T, _, 0, _, rfl, rfl, sql hT, rfl, S, _, rfl, .inl (sql hS), _, _, rfl, rfl, ?_, S, _, _, .int ns[(i % (ns.length : Int)).toNat], rfl, rfl, sql hS, ?_, ?_⟩
          · show (0 : Int) < ((ns.map V.int).length : Int)
            rw [lenE]
            exact g1
          · show atI (ns.map V.int) (i % ((ns.map V.int).length : Int)) = _
            rw [lenE]
            exact at_of (j := (i % (ns.length : Int)).toNat) (by omega) (by rw [List.getElem?_map, List.getElem?_eq_getElem hk]; rfl)
          · exact ⟨_, rfl, rfl⟩
        · exact ⟨_, rfl, rfl⟩
      · rintro σ' H' ⟨c0, rfl, rfl⟩
        refine ⟨fun σ H2 => ∃ c1 : Int, σ = [some (.ref T), some (.int m), some (.int 2305843009213693951), some (.int c1), none] ∧ H2 = H', ?_, ?_⟩
        · refine ⟨_, rfl, T, _, 1, _, rfl, rfl, sql hT, rfl, _, rfl, T, _, 0, _, rfl, rfl, sql hT, rfl, S, _, rfl, .inl (sql hS), _, _, rfl, rfl, _, rfl, ?_⟩
          have near : ∀ x : Int, -(2 ^ 64) < x % 2305843009213693951 ∧ x % 2305843009213693951 < 2 ^ 64 := fun x => by
            have a1 := Int.emod_nonneg x (b := 2305843009213693951) (by decide)
            have a2 := Int.emod_lt_of_pos x (b := 2305843009213693951) (by decide)
            omega
          refine ite2 (fun _ => ?_) (fun _ => ⟨_, rfl, _, _, rfl, rfl, ⟨by decide, by decide, by decide⟩, _, _, rfl, rfl, _, rfl, ite2 (fun _ => ?_) (fun _ => ?_)⟩)
          · refine iteT ⟨_, rfl, _, rfl, T, _, 1, _, rfl, rfl, sql hT, rfl, _, _, rfl, rfl, .inl ⟨by decide, by decide⟩, _, _, rfl, rfl, _, rfl, _, _, rfl, rfl, (by decide : (0 : Int) < 2305843009213693951), ?_⟩
            refine ⟨_, rfl, _, rfl, _, _, rfl, rfl, .inl (near _), _, rfl, _, _, rfl, rfl, .inl ⟨by decide, by decide⟩, _, _, rfl, rfl, _, _, rfl, rfl, _, rfl, _, _, rfl, rfl, (by decide : (0 : Int) < 2305843009213693951), ?_⟩
            refine ⟨_, rfl, _, rfl, _, _, rfl, rfl, .inl (near _), _, _, rfl, rfl, _, rfl, _, _, rfl, rfl, (by decide : (0 : Int) < 2305843009213693951), ?_⟩
            exact ⟨_, rfl, rfl⟩
          · refine ⟨_, rfl, _, rfl, T, _, 1, _, rfl, rfl, sql hT, rfl, _, _, rfl, rfl, .inl ⟨by decide, by decide⟩, _, _, rfl, rfl, _, rfl, _, _, rfl, rfl, (by decide : (0 : Int) < 2305843009213693951), ?_⟩
            refine ⟨_, rfl, _, rfl, _, _, rfl, rfl, .inl (near _), _, rfl, _, _, rfl, rfl, .inl ⟨by decide, by decide⟩, _, _, rfl, rfl, _, _, rfl, rfl, _, rfl, _, _, rfl, rfl, (by decide : (0 : Int) < 2305843009213693951), ?_⟩
            refine ⟨_, rfl, _, rfl, _, _, rfl, rfl, .inl (near _), _, _, rfl, rfl, _, rfl, _, _, rfl, rfl, (by decide : (0 : Int) < 2305843009213693951), ?_⟩
            exact ⟨_, rfl, rfl⟩
          · exact ⟨_, rfl, rfl⟩
        · rintro σ' H2 ⟨c1, rfl, rfl⟩
          refine ⟨_, rfl, T, _, 1, _, rfl, rfl, sql hT, rfl, _, _, rfl, rfl, _, rfl, T, _, 1, 1, rfl, rfl, hT, rfl, ?_⟩
          refine ⟨_, rfl, _, rfl, T, _, 2, 2, rfl, rfl, upd_same, rfl, ?_⟩
          exact ⟨_, _, _, rfl, by rw [upd_upd]; rfl⟩
    · exact ⟨none, i, c, rfl, (upd_self hT).symm⟩
  · rintro σ' H' ⟨y3, i', c', rfl, rfl⟩
    refine ⟨_, rfl, T, _, 2, _, rfl, rfl, sql upd_same, rfl, _, rfl, _, _, rfl, rfl, m0, ?_⟩
    refine ⟨_, rfl, T, _, 2, _, rfl, rfl, sql upd_same, rfl, _, rfl, _, _, rfl, rfl, ⟨by omega, log_of m0 m1⟩, _, rfl, T, _, 2, 2, rfl, rfl, upd_same, rfl, ?_⟩
    refine ⟨_, rfl, ?_⟩
    rw [upd_upd]
    exact q _ _ _ (Int.emod_nonneg _ (by omega)) (Int.emod_lt_of_pos _ m0)
theorem scOrder : FnScope ["tape", "many", "found", "k"] ["tape", "many"] (defScope sOrder) := ⟨rfl, rfl, rfl, by decide +kernel, rfl, by decide +kernel, by decide +kernel⟩
theorem ok_order {f : Addr} {fd : FuncData} (F : Fun K "_law_any_order" "_law_any_order" sOrder f fd) (B : Bi mg) (cD : Has P w K mg base 1 "_law_draw" ["tape", "many"] spDraw) :
    FnOk P w K mg base CX0 2 f fd ["tape", "many"] spOrder := by
  refine F.ok scOrder (fun vs H Q E h => ?_) (fun cdv A outer s H vs Q E hr h => ?_)
  · obtain ⟨T, S, ns, m, rfl, _⟩ := h
    rfl
  obtain ⟨T, S, ns, n, rfl, tp, n1, q⟩ := h
  refine ⟨_, pss_cons (ps_set (i := 2) scOrder.nd rfl (.inl rfl) (pe_lst pa_nil))
    (pss_cons (ps_for PassesOwn.never rfl (pi_range1 (by rfl) B.range (pa_cons (pv 1) pa_nil)) (pg_name (i := 3) scOrder.nd rfl (.inl rfl))
      (pss_one (ps_expr (pe_bm PySem.F.plainAttrs_list PySem.F.slot_list_insert PySem.F.type_list_insert mt_insert (pv 2)
        (pa_cons (pe_go cD hr (Nat.le_refl _) rfl (pa_cons (pv 0) (pa_cons (pe_op op_add (pv 3) pe_int) pa_nil))) (pa_cons (pv 3) pa_nil))))))
    (pss_one (ps_ret (pe_callTy call_tuple_of (by rfl) B.tuple (by decide +kernel) (pa_cons (pv 2) pa_nil))))), ?_⟩
  refine ⟨Nat.zero_le _, fun L hL => ?_⟩
  obtain ⟨oT, hT⟩ := tp.taken
  have nLT : L ≠ T := new_ne hT hL
  refine ⟨_, rfl, (n : Int), rfl, by omega, by omega, for_range (lo := 0) (n := (n : Int).toNat) (fun i σ H' => ∃ (y3 : Option V) (qs : List Nat), σ = [some (.ref T), some (.int n), some (.ref L), y3] ∧ SameT T H H' ∧ Tape H' T S ns ∧ H' L = some (.lst (qs.map natV)) ∧ qs.Perm (List.range i))
    ⟨none, [], rfl, SameT.of (same_new hL _), tp.same (same_new hL _), upd_same, List.Perm.refl _⟩ ?_ ?_⟩
  · rintro i σ H' hi ⟨y3, qs, rfl, sm, tp', hL', pm⟩
    have lq : qs.length = i := by rw [pm.length_eq, List.length_range]
    have hi' : i < n := by omega
    refine ⟨_, rfl, .inl ⟨rfl, _, sql hL'⟩, _, rfl, _, rfl, _, _, rfl, rfl, T, S, ns, _, rfl, tp', by omega, by omega, fun r a c r0 r1 => ?_⟩
    have hL2 : upd H' T (.lst [.ref S, .int a, .int c]) L = some (.lst (qs.map natV)) := by
      rw [upd_ne nLT]
      exact hL'
    refine ⟨_, rfl, L, _, r, _, rfl, rfl, hL2, ?_, r0, by omega, ?_⟩
    · rw [List.length_map, lq]
      exact small1000 (by omega)
    · refine ⟨_, qs.take r.toNat ++ [i] ++ qs.drop r.toNat, rfl, fun b o nb hb => ?_, ?_, ?_, ?_⟩
      · rw [upd_ne (ne_of_none hb hL)]
        exact sameT_put _ b o nb (sm b o nb hb)
      · have t2 := tp'.put a c
        obtain ⟨x1, x2, t3⟩ := t2.at_
        refine ⟨⟨x1, x2, by rw [upd_ne nLT.symm]; exact t3⟩, ?_⟩
        rw [upd_ne (ne_of_none tp.scr hL)]
        exact t2.scr
      · rw [upd_same, List.map_append, List.map_append, List.map_take, List.map_drop, List.map_singleton]
        rw [show natV i = V.int (0 + (i : Int)) by rw [Int.zero_add]]
      · rw [List.range_succ]
        have e : (qs.take r.toNat ++ [i] ++ qs.drop r.toNat).Perm (qs.take r.toNat ++ qs.drop r.toNat ++ [i]) := by
          rw [List.append_assoc, List.append_assoc]
          exact List.Perm.append_left _ List.perm_append_comm
        rw [List.take_append_drop] at e
        exact e.trans (pm.append_right _)
  · rintro σ H' ⟨y3, qs, rfl, sm, tp', hL', pm⟩
    refine ⟨_, rfl, L, _, rfl, .inl ⟨sql hL', fun p hp => ?_⟩⟩
    have np : H p = none := by
      refine sm.free ?_ hp
      obtain ⟨o2, h2⟩ := tp'.taken
      exact new_ne h2 hp
    rw [Int.toNat_natCast] at pm
    exact q p _ qs (sm.trans (SameT.of (same_new hp _))) (tp'.same (same_new hp _)) np upd_same pm
theorem scBooks : FnScope [] [] (defScope sBooks) := ⟨rfl, rfl, rfl, by decide +kernel, rfl, by decide +kernel, by decide +kernel⟩
theorem ok_books {f : Addr} {fd : FuncData} (F : Fun K "_law_books" "_law_books" sBooks f fd) : FnOk P w K mg base CX0 1 f fd [] spBooks := by
  refine F.ok scBooks (fun vs H Q E h => ?_) (fun cdv A outer s H vs Q E hr h => ?_)
  · obtain ⟨rfl, _⟩ := h
    rfl
  obtain ⟨rfl, q⟩ := h
  refine ⟨_, pss_one (ps_ret (pe_lst (pa_cons pe_str (pa_cons pe_str (pa_cons pe_str (pa_cons pe_str (pa_cons pe_str (pa_cons pe_str (pa_cons pe_str pa_nil))))))))), ?_⟩
  exact ⟨(by show 7 ≤ sizeLine; decide), fun p hp => q p hp⟩
theorem scPile : FnScope ["tape", "size", "some", "at"] ["tape", "size"] (defScope sPile) := ⟨rfl, rfl, rfl, by decide +kernel, rfl, by decide +kernel, by decide +kernel⟩
theorem ok_pile {f : Addr} {fd : FuncData} (F : Fun K "_law_pile" "_law_pile" sPile f fd) (B : Bi mg) (cD : Has P w K mg base 1 "_law_draw" ["tape", "many"] spDraw)
    (cO : Has P w K mg base 2 "_law_any_order" ["tape", "many"] spOrder) (cB : Has P w K mg base 1 "_law_books" [] spBooks) :
    FnOk P w K mg base CX0 3 f fd ["tape", "size"] spPile := by
  refine F.ok scPile (fun vs H Q E h => ?_) (fun cdv A outer s H vs Q E hr h => ?_)
  · obtain ⟨T, S, ns, m, rfl, _⟩ := h
    rfl
  obtain ⟨T, S, ns, m, rfl, tp, m0, m7, q⟩ := h
  refine ⟨_, pss_cons (ps_set (i := 2) scPile.nd rfl (.inr rfl) (pe_slice sl_list (pe_go0 cB hr (by decide) rfl) po_none (po_some (pe_op op_add pe_int (pe_go cD hr (by decide) rfl (pa_cons (pv 0) (pa_cons (pv 1) pa_nil)))))))
    (pss_one (ps_ret (pe_callTy call_tupleZ (by rfl) B.tuple (by decide +kernel) (pa_cons
      (pe_lc (own := [("at", 3)]) (g := gName 3) (tt := tYes) (by rfl) scPile.nd (pi_tup (pe_go cO hr (by decide) rfl (pa_cons (pv 0) (pa_cons (pe_callB call_len_seq (by rfl) B.len PySem.boot_len (pa_cons (pv 2) pa_nil)) pa_nil))))
        (blkOk_by (own := [("at", 3)]) (N := ["tape", "size", "some", "at"]) (sc := defScope sPile) (by decide +kernel))
        (fun _ _ _ _ _ => pg_name (i := 3) scPile.nd rfl (Or.inl rfl)) (fun _ _ _ _ _ => pts_nil) (fun _ _ _ _ _ => pe_ix (ixL (K := K) rfl) (pv 2) (pv 3) (fun _ _ => rfl))) pa_nil)))), ?_⟩
  refine ⟨rfl, fun b hb => ?_⟩
  have tp1 := tp.same (same_new hb (.lst (books.map V.str)))
  refine ⟨_, rfl, _, rfl, T, S, ns, m, rfl, tp1, m0, by omega, fun r a c r0 r1 => ?_⟩
  have nbT : b ≠ T := by
    obtain ⟨o, ho⟩ := tp.taken
    exact new_ne ho hb
  refine ⟨_, _, rfl, rfl, _, rfl, b, _, rfl, sql (by rw [upd_ne nbT]; exact upd_same), fun y hy => ?_⟩
  have tp2 := tp1.put a c
  have tp3 := tp2.same (same_new hy (.lst (cutV (books.map V.str) none (some (1 + r)))))
  have er : (1 + r : Int) = (((r.toNat + 1 : Nat)) : Int) := by omega
  have hn7 : r.toNat + 1 ≤ 7 := by omega
  have ecut : cutV (books.map V.str) none (some (1 + r)) = (books.take (r.toNat + 1)).map V.str := by
    rw [er, cut_to (by show _ ≤ 7; omega), List.map_take]
  have elen : (books.take (r.toNat + 1)).length = r.toNat + 1 := by
    rw [List.length_take]
    show min (r.toNat + 1) 7 = _
    omega
  rw [ecut] at tp3 ⊢
  generalize hbs : books.take (r.toNat + 1) = bs0 at tp3 elen ⊢
  generalize hH3 : upd (upd (upd H b (.lst (books.map V.str))) T (.lst [.ref S, .int a, .int c])) y (.lst (bs0.map V.str)) = H3 at tp3 ⊢
  have sm3 : SameT T H H3 := by
    rw [← hH3]
    exact (SameT.of (same_new hb _)).trans ((sameT_put _).trans (SameT.of (same_new hy _)))
  have hy3 : H3 y = some (.lst (bs0.map V.str)) := by
    rw [← hH3]
    exact upd_same
  have nyT : y ≠ T := new_ne upd_same hy
  refine ⟨_, rfl, _, rfl, y, _, rfl, .inl (sql hy3), T, S, ns, (bs0.map V.str).length, rfl, tp3, by rw [List.length_map, elen]; omega, fun t H4 qs sm4 tp4 nt ht pm => ?_⟩
  rw [List.length_map, elen] at pm
  have lq : qs.length = r.toNat + 1 := by rw [pm.length_eq, List.length_range]
  have hy4 : H4 y = some (.lst (bs0.map V.str)) := sm4 _ _ nyT hy3
  refine ⟨t, rfl, ⟨_, sqt ht⟩, fun D hD => lc_tup (K := K) (a := t) (xs := qs.map natV) (fun i H' => SameT D H4 H' ∧ H' D = some (.lst (((pick bs0 qs).take i).map V.str)))
    ⟨SameT.of (same_new hD _), upd_same⟩ (fun i H' _ h' => sqt (h'.1 _ _ (ne_of_none ht hD) ht)) ?_ ?_⟩
  · rintro i x H' hx ⟨smD, hD'⟩
    rw [List.getElem?_map] at hx
    cases e : qs[i]? with
    | none =>
      rw [e] at hx
      cases hx
    | some k =>
      rw [e] at hx
      cases hx
      have hk : k < bs0.length := by
        rw [elen]
        exact List.mem_range.mp (pm.mem_iff.mp (List.mem_of_getElem? e))
      refine ⟨rfl, _, rfl, _, rfl, y, _, _, .str bs0[k], rfl, rfl, sql (smD _ _ (ne_of_none hy4 hD) hy4), at_of rfl (by rw [List.getElem?_map, List.getElem?_eq_getElem hk]; rfl), _, hD', ?_, ?_⟩
      · have lp : (pick bs0 qs).length = qs.length := by
          unfold pick
          rw [List.length_map]
        rw [List.length_map, List.length_take]
        exact small1000 (by omega)
      · refine ⟨fun b' o nb h => by rw [upd_ne nb]; exact smD b' o nb h, ?_⟩
        have ep : (pick bs0 qs)[i]? = some bs0[k] := by
          unfold pick
          rw [List.getElem?_map, e]
          show some ((bs0[k]?).getD Str.empty) = _
          rw [List.getElem?_eq_getElem hk]
          rfl
        rw [upd_same, List.take_add_one, ep, List.map_append]
        rfl
  · rintro H' ⟨smD, hD'⟩
    rw [List.length_map, List.take_of_length_le (by unfold pick; rw [List.length_map]; omega)] at hD'
    refine ⟨D, _, rfl, sql hD', fun p u hp hu => ?_⟩
    have s5 : Same H4 H' := fun b' o h => smD b' o (ne_of_none h hD) h
    have tp5 := tp4.same (s5.trans (same_new hp u))
    have sm5 : SameT T H (upd H' p u) := sm3.trans (sm4.trans (SameT.of (s5.trans (same_new hp _))))
    have np : H p = none := by
      refine (sm3.trans (sm4.trans (SameT.of s5))).free ?_ hp
      obtain ⟨o2, h2⟩ := (tp4.same s5).taken
      exact new_ne h2 hp
    refine q p _ (pick bs0 qs) sm5 tp5 np (TpO.new hu) ?_ ?_
    · rw [← hbs]
      exact pile_of (by omega) hn7 pm
    · unfold pick
      rw [List.length_map, lq]
      omega
theorem scReadings : FnScope ["tape", "books", "size", "some", "k"] ["tape", "books", "size"] (defScope sReadings) := ⟨rfl, rfl, rfl, by decide +kernel, rfl, by decide +kernel, by decide +kernel⟩
theorem ok_readings {f : Addr} {fd : FuncData} (F : Fun K "_law_readings" "_law_readings" sReadings f fd) (B : Bi mg) (cD : Has P w K mg base 1 "_law_draw" ["tape", "many"] spDraw) :
    FnOk P w K mg base CX0 2 f fd ["tape", "books", "size"] spReadings := by
  refine F.ok scReadings (fun vs H Q E h => ?_) (fun cdv A outer s H vs Q E hr h => ?_)
  · obtain ⟨T, S, p, ns, bs, m, rfl, _⟩ := h
    rfl
  obtain ⟨T, S, p, ns, bs, m, rfl, tp, hp, b0, b7, m0, m60, q⟩ := h
  refine ⟨_, pss_cons (ps_set (i := 3) scReadings.nd rfl (.inr rfl) (pe_slice sl_list (pe_callTy call_list_of (by rfl) B.list (by decide +kernel) (pa_cons (pv 1) pa_nil)) po_none
      (po_some (pe_op op_add pe_int (pe_go cD hr (by decide) rfl (pa_cons (pv 0) (pa_cons (pe_callB call_len_seq (by rfl) B.len PySem.boot_len (pa_cons (pv 1) pa_nil)) pa_nil)))))))
    (pss_one (ps_ret (pe_lc (own := [("k", 4)]) (g := gName 4) (tt := tYes) (by rfl) scReadings.nd (pi_range1 (by rfl) B.range (pa_cons (pe_go cD hr (by decide) rfl (pa_cons (pv 0) (pa_cons (pe_op op_add (pv 2) pe_int) pa_nil))) pa_nil))
        (blkOk_by (own := [("k", 4)]) (N := ["tape", "books", "size", "some", "k"]) (sc := defScope sReadings) (by decide +kernel))
        (fun _ _ _ _ _ => pg_name (i := 4) scReadings.nd rfl (Or.inl rfl)) (fun _ _ _ _ _ => pts_nil)
        (fun _ _ _ _ _ => pe_ix (ixL (K := K) rfl) (pv 3) (pe_go cD hr (by decide) rfl (pa_cons (pv 0) (pa_cons (pe_callB (cLen (K := K) rfl) (by rfl) B.len PySem.boot_len (pa_cons (pv 3) pa_nil)) pa_nil))) (fun _ _ => rfl))))), ?_⟩
  have npT : p ≠ T := by
    obtain ⟨i, c, hT⟩ := tp.at_
    exact hp.ne hT (fun o z => nomatch z)
  refine ⟨_, rfl, p, _, rfl, .inr hp.sqt, fun L hL => ?_⟩
  have s1 : Same H (upd H L (.lst (bs.map V.str))) := same_new hL _
  have tp1 := tp.same s1
  have nLT : L ≠ T := by
    obtain ⟨o, ho⟩ := tp.taken
    exact new_ne ho hL
  refine ⟨_, rfl, _, rfl, p, _, rfl, .inr (hp.same s1).sqt, T, S, ns, _, rfl, tp1, by rw [List.length_map]; omega, by rw [List.length_map]; omega, fun r a c r0 r1 => ?_⟩
  rw [List.length_map] at r1
  refine ⟨_, _, rfl, rfl, _, rfl, L, _, rfl, sql (by rw [upd_ne nLT]; exact upd_same), fun y hy => ?_⟩
  have er : (1 + r : Int) = (((r.toNat + 1 : Nat)) : Int) := by omega
  have ecut : cutV (bs.map V.str) none (some (1 + r)) = (bs.take (r.toNat + 1)).map V.str := by
    rw [er, cut_to (by rw [List.length_map]; omega), List.map_take]
  have elen : (bs.take (r.toNat + 1)).length = r.toNat + 1 := by
    rw [List.length_take]
    omega
  have tp3 := (tp1.put a c).same (same_new hy (.lst (cutV (bs.map V.str) none (some (1 + r)))))
  rw [ecut] at tp3 ⊢
  have sub : ∀ b ∈ bs.take (r.toNat + 1), b ∈ bs := fun b hb => List.mem_of_mem_take hb
  generalize bs.take (r.toNat + 1) = bs0 at tp3 elen sub ⊢
  generalize hH3 : upd (upd (upd H L (.lst (bs.map V.str))) T (.lst [.ref S, .int a, .int c])) y (.lst (bs0.map V.str)) = H3 at tp3 ⊢
  have sm3 : SameT T H H3 := by
    rw [← hH3]
    exact (SameT.of s1).trans ((sameT_put _).trans (SameT.of (same_new hy _)))
  have hy3 : H3 y = some (.lst (bs0.map V.str)) := by
    rw [← hH3]
    exact upd_same
  have nyT : y ≠ T := new_ne upd_same hy
  refine ⟨_, rfl, _, rfl, _, _, rfl, rfl, T, S, ns, _, rfl, tp3, by omega, by omega, fun r2 a2 c2 u0 u1 => ?_⟩
  have tp4 := tp3.put a2 c2
  have sm4 : SameT T H3 (upd H3 T (.lst [.ref S, .int a2, .int c2])) := sameT_put _
  generalize upd H3 T (.lst [.ref S, .int a2, .int c2]) = H4 at tp4 sm4 ⊢
  have hy4 : H4 y = some (.lst (bs0.map V.str)) := sm4 _ _ nyT hy3
  refine ⟨r2, rfl, by omega, by omega, fun D hD => ?_⟩
  have nDT : D ≠ T := by
    obtain ⟨o, ho⟩ := tp4.taken
    exact new_ne ho hD
  refine lc_range (lo := 0) (n := r2.toNat) (fun i H' => ∃ rs : List Str, SameT T H4 H' ∧ Tape H' T S ns ∧ H' D = some (.lst (rs.map V.str)) ∧ rs.length = i ∧ ∀ b ∈ rs, b ∈ bs)
    ⟨[], SameT.of (same_new hD _), tp4.same (same_new hD _), upd_same, rfl, fun b hb => nomatch hb⟩ ?_ ?_
  · rintro i H' hi ⟨rs, sm, tp', hD', lr, hm⟩
    have hy' := sm _ _ nyT hy4
    refine ⟨rfl, _, rfl, _, rfl, _, rfl, y, _, rfl, .inl (sql hy'), T, S, ns, _, rfl, tp', by rw [List.length_map, elen]; omega, by rw [List.length_map, elen]; omega, fun r3 a3 c3 v0 v1 => ?_⟩
    rw [List.length_map] at v1
    have hk : r3.toNat < bs0.length := by omega
    refine ⟨y, _, _, .str bs0[r3.toNat], rfl, rfl, sql (by rw [upd_ne nyT]; exact hy'), at_of (j := r3.toNat) (by omega) (by rw [List.getElem?_map, List.getElem?_eq_getElem hk]; rfl), _, (by rw [upd_ne nDT]; exact hD'), ?_, ?_⟩
    · rw [List.length_map]
      exact small1000 (by omega)
    · have tp6 := tp'.put a3 c3
      refine ⟨rs ++ [bs0[r3.toNat]], fun b o nb hb => ?_, ?_, ?_, ?_, ?_⟩
      · rw [upd_ne (ne_of_none hb hD)]
        exact sameT_put _ b o nb (sm b o nb hb)
      · obtain ⟨x1, x2, t3⟩ := tp6.at_
        refine ⟨⟨x1, x2, by rw [upd_ne nDT.symm]; exact t3⟩, ?_⟩
        rw [upd_ne (ne_of_none tp4.scr hD)]
        exact tp6.scr
      · rw [upd_same, List.map_append]
        rfl
      · rw [List.length_append, lr]
        rfl
      · intro b hb
        rcases List.mem_append.mp hb with hb | hb
        · exact hm b hb
        · rw [List.mem_singleton.mp hb]
          exact sub _ (List.getElem_mem hk)
  · rintro H' ⟨rs, sm, tp', hD', lr, hm⟩
    have np : H D = none := (sm3.trans sm4).free nDT hD
    exact q D H' rs (sm3.trans (sm4.trans sm)) tp' np hD' (by omega) hm
theorem scLaid : FnScope ["pile", "book", "at"] ["pile", "book"] (defScope sLaid) := ⟨rfl, rfl, rfl, by decide +kernel, rfl, by decide +kernel, by decide +kernel⟩
theorem ok_laid {f : Addr} {fd : FuncData} (F : Fun K "laid_on_top" "laid_on_top" sLaid f fd) : FnOk P w K mg base CX0 1 f fd ["pile", "book"] spLaid := by
  refine F.ok scLaid (fun vs H Q E h => ?_) (fun cdv A outer s H vs Q E hr h => ?_)
  · obtain ⟨p, bs, b, rfl, _⟩ := h
    rfl
  obtain ⟨p, bs, b, rfl, hp, hb, hl, q⟩ := h
  refine ⟨_, pss_cons (ps_set (i := 2) scLaid.nd rfl (.inl rfl) (pe_tm PySem.F.slot_tuple_index PySem.F.type_tuple_index mt_tup_index (pv 0) (pa_cons (pv 1) pa_nil)))
    (pss_one (ps_ret (pe_op op_catZ (pe_op op_catZ (pe_tupZ (pa_cons (pv 1) pa_nil)) (pe_slice sl_tupA (pv 0) po_none (po_some (pv 2))))
      (pe_slice sl_tupA (pv 0) (po_some (pe_op op_add (pv 2) pe_int)) po_none)))), ?_⟩
  have ib := idx_lt hb
  have lm : (bs.map V.str).length = bs.length := List.length_map _
  refine ⟨_, rfl, ⟨p, _, rfl, hp⟩, _, rfl, p, bs, b, bs.idxOf b, rfl, rfl, hp.sqt, idx_get hb, idx_first, ?_⟩
  refine ⟨_, rfl, (by show 1 ≤ sizeLine; decide), fun t u ht hu => ?_⟩
  have s1 : Same H (upd H t u) := same_new ht _
  have g1 : ¬ (HT.sIx (bs.map V.str).length 0 none = 0 ∧ HT.sIx (bs.map V.str).length (bs.map V.str).length (some ((bs.idxOf b : Nat) : Int)) = (bs.map V.str).length) := by
    rw [HT.sIx_nat, lm]
    omega
  refine ⟨_, rfl, _, rfl, _, rfl, p, _, rfl, (hp.same s1).sqt, fun z => absurd z g1, fun _ a ha => ?_⟩
  rw [cut_to (by rw [lm]; omega), ← List.map_take]
  have s2 := same_new ha (.tup ((bs.take (bs.idxOf b)).map V.str))
  have t2 : TpO (upd (upd H t u) a (.tup ((bs.take (bs.idxOf b)).map V.str))) t [V.str b] := (TpO.new hu).same s2
  have ha2 : upd (upd H t u) a (.tup ((bs.take (bs.idxOf b)).map V.str)) a = some (.tup ((bs.take (bs.idxOf b)).map V.str)) := upd_same
  have s12 := s1.trans s2
  generalize upd (upd H t u) a (.tup ((bs.take (bs.idxOf b)).map V.str)) = H2 at s12 t2 ha2 ⊢
  have fin : ∀ (c : Addr) (H3 : Hp), Same H H3 → TpO H3 c ([V.str b] ++ (bs.take (bs.idxOf b)).map V.str) → ∀ σ : L2.St, σ = [some (.ref p), some (.str b), some (.int ((bs.idxOf b : Nat) : Int))] →
      tSl (rSlA K) (tVar 0) (tPart (tOp (rI0 fun i j => .int (i + j)) (tVar 2) (tC (.int 1)))) tNoPart σ H3 fun y H4 => rCatZ K (.ref c) y H4 Q := by
    rintro c H3 s3 hc σ rfl
    have g2 : ¬ (HT.sIx (bs.map V.str).length 0 (some (((bs.idxOf b : Nat) : Int) + 1)) = 0 ∧ HT.sIx (bs.map V.str).length (bs.map V.str).length none = (bs.map V.str).length) := by
      have e : (((bs.idxOf b : Nat) : Int) + 1) = ((bs.idxOf b + 1 : Nat) : Int) := by omega
      rw [e, HT.sIx_nat, lm]
      omega
    refine ⟨_, rfl, _, rfl, _, _, rfl, rfl, _, rfl, p, _, rfl, (hp.same s3).sqt, fun z => absurd z g2, fun _ d hd => ?_⟩
    have ecut : cutV (bs.map V.str) (some (((bs.idxOf b : Nat) : Int) + 1)) none = (bs.drop (bs.idxOf b + 1)).map V.str := by
      have e : (((bs.idxOf b : Nat) : Int) + 1) = ((bs.idxOf b + 1 : Nat) : Int) := by omega
      rw [e, cut_from (by rw [lm]; omega), List.map_drop]
    rw [ecut]
    have s4 := same_new hd (.tup ((bs.drop (bs.idxOf b + 1)).map V.str))
    refine ⟨c, d, _, _, rfl, rfl, (hc.same s4).sqt, sqt upd_same, by simp, ?_, fun z => ?_, fun _ r v hr' hv => ?_⟩
    · rw [List.length_append, List.length_map, List.length_map, List.length_take, List.length_drop, List.length_singleton]
      exact Nat.le_of_lt (small1000 (by omega))
    · refine q c _ (s3.trans s4) ?_
      have e : (lay bs b).map V.str = [V.str b] ++ (bs.take (bs.idxOf b)).map V.str := by rw [lay_map, z, List.append_nil]
      rw [e]
      exact hc.same s4
    · refine q r _ (s3.trans (s4.trans (same_new hr' _))) ?_
      rw [lay_map, ← List.append_assoc]
      exact TpO.new hv
  refine ⟨t, a, _, _, rfl, rfl, t2.sqt, sqt ha2, by simp, ?_, fun z => ?_, fun _ c v hc hv => ?_⟩
  · rw [List.length_map, List.length_take, List.length_singleton]
    exact Nat.le_of_lt (small1000 (by omega))
  · refine fin t H2 s12 ?_ _ rfl
    rw [z, List.append_nil]
    exact t2
  · exact fin c _ (s12.trans (same_new hc _)) (TpO.new hv) _ rfl
theorem scBehind : FnScope ["pile", "readings", "order", "book"] ["pile", "readings"] (defScope sBehind) := ⟨rfl, rfl, rfl, by decide +kernel, rfl, by decide +kernel, by decide +kernel⟩
theorem ok_behind {f : Addr} {fd : FuncData} (F : Fun K "behind" "behind" sBehind f fd) (cL : Has P w K mg base 1 "laid_on_top" ["pile", "book"] spLaid) : FnOk P w K mg base CX0 2 f fd ["pile", "readings"] spBehind := by
  refine F.ok scBehind (fun vs H Q E h => ?_) (fun cdv A outer s H vs Q E hr h => ?_)
  · obtain ⟨p, r, bs, rs, rfl, _⟩ := h
    rfl
  obtain ⟨p, r, bs, rs, rfl, hp, hrr, hl, hm, q⟩ := h
  refine ⟨_, pss_cons (ps_set (i := 2) scBehind.nd rfl (.inl rfl) (pv 0))
    (pss_cons (ps_for PassesOwn.never rfl (pi_list (pv 1)) (pg_name (i := 3) scBehind.nd rfl (.inl rfl))
      (pss_one (ps_set (i := 2) scBehind.nd rfl (.inl rfl) (pe_go cL hr (by decide) rfl (pa_cons (pv 2) (pa_cons (pv 3) pa_nil))))))
    (pss_one (ps_ret (pv 2)))), ?_⟩
  refine ⟨_, rfl, _, rfl, r, rfl, ⟨_, sql hrr⟩, for_list (K := K) (a := r) (xs := rs.map V.str) (fun i σ H' => ∃ (o : Addr) (y3 : Option V), σ = [some (.ref p), some (.ref r), some (.ref o), y3] ∧ Same H H' ∧ TpO H' o ((behindM bs (rs.take i)).map V.str))
    ⟨p, none, rfl, Same.refl _, hp⟩ (fun i σ H' _ ⟨_, _, _, sm, _⟩ => sm.seq (sql hrr)) ?_ ?_⟩
  · rintro i x σ H' hx ⟨o, y3, rfl, sm, ho⟩
    obtain ⟨b, hb, rfl⟩ := strs_get hx
    have pm := behindM_perm (rs.take i) (take_sub hm i)
    refine ⟨_, rfl, _, rfl, o, _, b, rfl, ho, pm.mem_iff.mpr (hm b (List.mem_of_getElem? hb)), by rw [pm.length_eq]; exact hl, fun o2 H2 s2 h2 => ?_⟩
    refine ⟨o2, _, rfl, sm.trans s2, ?_⟩
    rw [take_step hb, behindM_snoc]
    exact h2
  · rintro σ H' ⟨o, y3, rfl, sm, ho⟩
    rw [List.length_map, List.take_length] at ho
    exact ⟨_, rfl, q o H' sm ho⟩
theorem scLifted : FnScope ["pile", "readings", "numbers", "order", "book"] ["pile", "readings"] (defScope sLifted) := ⟨rfl, rfl, rfl, by decide +kernel, rfl, by decide +kernel, by decide +kernel⟩
theorem ok_lifted {f : Addr} {fd : FuncData} (F : Fun K "lifted" "lifted" sLifted f fd) (cL : Has P w K mg base 1 "laid_on_top" ["pile", "book"] spLaid) : FnOk P w K mg base CX0 2 f fd ["pile", "readings"] spLifted := by
  refine F.ok scLifted (fun vs H Q E h => ?_) (fun cdv A outer s H vs Q E hr h => ?_)
  · obtain ⟨p, r, bs, rs, rfl, _⟩ := h
    rfl
  obtain ⟨p, r, bs, rs, rfl, hp, hrr, hl, hl2, hm, q⟩ := h
  refine ⟨_, pss_cons (ps_set (i := 2) scLifted.nd rfl (.inl rfl) (pe_lst pa_nil))
    (pss_cons (ps_set (i := 3) scLifted.nd rfl (.inl rfl) (pv 0))
    (pss_cons (ps_for PassesOwn.never rfl (pi_list (pv 1)) (pg_name (i := 4) scLifted.nd rfl (.inl rfl))
      (pss_cons (ps_expr (pe_bm PySem.F.plainAttrs_list PySem.F.slot_list_append PySem.F.type_list_append mt_append (pv 2) (pa_cons (pe_tm PySem.F.slot_tuple_index PySem.F.type_tuple_index mt_tup_index (pv 3) (pa_cons (pv 4) pa_nil)) pa_nil)))
      (pss_one (ps_set (i := 3) scLifted.nd rfl (.inl rfl) (pe_go cL hr (by decide) rfl (pa_cons (pv 3) (pa_cons (pv 4) pa_nil)))))))
    (pss_one (ps_ret (pv 2))))), ?_⟩
  refine ⟨Nat.zero_le _, fun L hL => ?_⟩
  have s1 : Same H (upd H L (.lst [])) := same_new hL _
  refine ⟨_, rfl, _, rfl, r, rfl, ⟨_, sql (s1 _ _ hrr)⟩, for_list (K := K) (a := r) (xs := rs.map V.str) (fun i σ H' => ∃ (o : Addr) (y4 : Option V), σ = [some (.ref p), some (.ref r), some (.ref L), some (.ref o), y4] ∧ Same H H' ∧ TpO H' o ((behindM bs (rs.take i)).map V.str) ∧ H' L = some (.lst ((liftedM bs (rs.take i)).map natV)))
    ⟨p, none, rfl, s1, hp.same s1, upd_same⟩ (fun i σ H' _ ⟨_, _, _, sm, _⟩ => sm.seq (sql hrr)) ?_ ?_⟩
  · rintro i x σ H' hx ⟨o, y4, rfl, sm, ho, hL'⟩
    obtain ⟨b, hb, rfl⟩ := strs_get hx
    have pm := behindM_perm (rs.take i) (take_sub hm i)
    have hbm := pm.mem_iff.mpr (hm b (List.mem_of_getElem? hb))
    have nLo : L ≠ o := fun e => by
      subst e
      obtain ⟨u, h1, o1, rfl, _⟩ := ho
      rw [hL'] at h1
      cases h1
    refine ⟨_, rfl, .inl ⟨rfl, _, sql hL'⟩, _, rfl, ⟨o, _, rfl, ho⟩, _, rfl, o, _, b, _, rfl, rfl, ho.sqt, idx_get hbm, idx_first, L, _, _, rfl, rfl, hL', ?_, ?_⟩
    · rw [List.length_map, liftedM_len, List.length_take]
      exact small1000 (by omega)
    · have ho2 : TpO (upd H' L (.lst ((liftedM bs (rs.take i)).map natV ++ [natV ((behindM bs (rs.take i)).idxOf b)]))) o ((behindM bs (rs.take i)).map V.str) := ho.move fun u h => by
        rw [upd_ne nLo.symm]
        exact h
      refine ⟨_, rfl, _, rfl, o, _, b, rfl, ho2, hbm, by rw [pm.length_eq]; exact hl, fun o2 H2 s2 h2 => ?_⟩
      refine ⟨o2, _, rfl, (same_put sm hL).trans s2, ?_, ?_⟩
      · rw [take_step hb, behindM_snoc]
        exact h2
      · rw [take_step hb, liftedM_snoc, List.map_append]
        exact s2 _ _ upd_same
  · rintro σ H' ⟨o, y4, rfl, sm, ho, hL'⟩
    rw [List.length_map, List.take_length] at hL'
    exact ⟨_, rfl, q L H' sm hL hL'⟩
theorem scLike : FnScope ["one", "two", "k"] ["one", "two"] (defScope sLike) := ⟨rfl, rfl, rfl, by decide +kernel, rfl, by decide +kernel, by decide +kernel⟩
theorem like_step {f : Addr} {fd : FuncData} {n : Nat} (F : Fun K "_law_like" "_law_like" sLike f fd) (B : Bi mg) (cI : Has P w K mg base n "_law_like" ["one", "two"] (spLike K n)) :
    FnOk P w K mg base CX0 (n + 1) f fd ["one", "two"] (spLike K (n + 1)) := by
  refine F.ok scLike (fun vs H Q E h => ?_) (fun cdv A outer s H vs Q E hr h => ?_)
  · obtain ⟨v1, v2, d, m, _, rfl, _⟩ := h
    rfl
  obtain ⟨v1, v2, d, m, hn, rfl, h1, h2, fine, q⟩ := h
  cases hn
  refine ⟨_, pss_cons (ps_if (pt_val (pe_callB call_isiT (by rfl) B.isinstance (by decide +kernel) (pa_cons (pv 0) (pa_cons (pe_tup (pa_cons (pe_bltn (v := .ty "list") (by rfl) B.list (by decide +kernel) rfl) (pa_cons (pe_bltn (v := .ty "tuple") (by rfl) B.tuple (by decide +kernel) rfl) pa_nil))) pa_nil))))
      (pss_cons (ps_if (PW.pt (pw_or (pt_cmpR op_ne (pe_callB call_isi (by rfl) B.isinstance (by decide +kernel) (pa_cons (pv 0) (pa_cons (pe_bltn (v := .ty "list") (by rfl) B.list (by decide +kernel) rfl) pa_nil)))
            (pe_callB call_isi (by rfl) B.isinstance (by decide +kernel) (pa_cons (pv 1) (pa_cons (pe_bltn (v := .ty "list") (by rfl) B.list (by decide +kernel) rfl) pa_nil))) (nomark _))
          (pw_or1 (pt_cmpR op_ne (pe_callB call_isi (by rfl) B.isinstance (by decide +kernel) (pa_cons (pv 0) (pa_cons (pe_bltn (v := .ty "tuple") (by rfl) B.tuple (by decide +kernel) rfl) pa_nil)))
            (pe_callB call_isi (by rfl) B.isinstance (by decide +kernel) (pa_cons (pv 1) (pa_cons (pe_bltn (v := .ty "tuple") (by rfl) B.tuple (by decide +kernel) rfl) pa_nil))) (nomark _))))) (pss_one (ps_ret pe_bl)) pss_nil)
      (pss_cons (ps_if (pt_cmpR op_ne (pe_callB call_len_seq (by rfl) B.len PySem.boot_len (pa_cons (pv 0) pa_nil)) (pe_callB call_len_seq (by rfl) B.len PySem.boot_len (pa_cons (pv 1) pa_nil)) (nomark _)) (pss_one (ps_ret pe_bl)) pss_nil)
      (pss_one (ps_ret (pe_cmpR (op_eqD hr.units) (pe_lc (own := [("k", 2)]) (g := gName 2) (tt := tNot (tB (tCall (spLike K n) [] E0 (tCons (tOp (rIx K) (tVar 0) (tVar 2)) (tCons (tOp (rIx K) (tVar 1) (tVar 2)) tNil)))))
          (by rfl) scLike.nd (pi_range1 (by rfl) B.range (pa_cons (pe_callB call_len_seq (by rfl) B.len PySem.boot_len (pa_cons (pv 0) pa_nil)) pa_nil)) (blkOk_by (own := [("k", 2)]) (N := ["one", "two", "k"]) (sc := defScope sLike) (by decide +kernel))
          (fun _ _ _ _ _ => pg_name (i := 2) scLike.nd rfl (.inl rfl))
          (fun _ _ _ _ _ => pts_one (pt_not (pt_val (pe_go cI hr (Nat.le_refl _) rfl (pa_cons (pe_ix (ixS (K := K) rfl) (pv 0) (pv 2) (fun _ _ => rfl)) (pa_cons (pe_ix (ixS (K := K) rfl) (pv 1) (pv 2) (fun _ _ => rfl)) pa_nil))))))
          (fun _ _ _ _ _ => pv 2)) (pe_lst pa_nil) (nomark _)))))) pss_nil)
    (pss_cons (ps_if (pt_val (pe_callB call_isiT (by rfl) B.isinstance (by decide +kernel) (pa_cons (pv 1) (pa_cons (pe_tup (pa_cons (pe_bltn (v := .ty "list") (by rfl) B.list (by decide +kernel) rfl) (pa_cons (pe_bltn (v := .ty "tuple") (by rfl) B.tuple (by decide +kernel) rfl) pa_nil))) pa_nil)))) (pss_one (ps_ret pe_bl)) pss_nil)
    (pss_one (ps_ret (pe_and (pe_cmpR op_eq (pe_callB call_isi (by rfl) B.isinstance (by decide +kernel) (pa_cons (pv 0) (pa_cons (pe_bltn (v := .ty "bool") (by rfl) B.bool (by decide +kernel) rfl) pa_nil)))
        (pe_callB call_isi (by rfl) B.isinstance (by decide +kernel) (pa_cons (pv 1) (pa_cons (pe_bltn (v := .ty "bool") (by rfl) B.bool (by decide +kernel) rfl) pa_nil))) (nomark _)) (pe_one (pe_cmpR (op_eqD hr.units) (pv 0) (pv 1) (nomark _))))))), ?_⟩
  have cls2 : Paired ClsV [V.ty "list", V.ty "tuple"] [Value.type "list", Value.type "tuple"] := .cons (.ty _) (.cons (.ty _) .nil)
  have kinds : (∃ (T : String) (bl : Bool), (∀ H', Same H H' → TyX K H' v1 (.type T) ∧ TyX K H' v2 (.type T)) ∧ kitB T "list" = some false ∧ kitB T "tuple" = some false ∧ kitB T "bool" = some bl ∧ SeqAt.shaped d = true ∧ PyData.eqv d d = true) ∨
      ∃ (T : String) (l : Bool) (a b : Addr) (xs ys : List V) (ds : List PyData) (m : Nat), (∀ H', Same H H' → TyX K H' v1 (.type T) ∧ TyX K H' v2 (.type T)) ∧ kitB T "list" = some l ∧ kitB T "tuple" = some (!l) ∧ v1 = .ref a ∧ v2 = .ref b ∧
        (∀ H', Same H H' → SqL K H' a xs ∨ SqT K H' a xs) ∧ (∀ H', Same H H' → SqL K H' b ys ∨ SqT K H' b ys) ∧ DpAll K H xs ds ∧ DpAll K H ys ds ∧ ds.length ≤ 1000 ∧ n = m + 1 ∧ ∀ d ∈ ds, Fine m d := by
    have both : ∀ H', Same H H' → TyX K H' v1 (.type (kindName d)) ∧ TyX K H' v2 (.type (kindName d)) := fun H' s' => ⟨ty_dp (dp_same s' h1), ty_dp (dp_same s' h2)⟩
    cases d with
    | none => exact .inl ⟨"NoneType", false, both, by decide +kernel, by decide +kernel, by decide +kernel, by decide +kernel, by simp [PyData.eqv]⟩
    | bool b => exact .inl ⟨"bool", true, both, by decide +kernel, by decide +kernel, by decide +kernel, shaped_of (by simp [PyData.canLay0]) (by simp [PyData.depth]), by simp [PyData.eqv]⟩
    | int i => exact .inl ⟨"int", false, both, by decide +kernel, by decide +kernel, by decide +kernel, shaped_of (by simp [PyData.canLay0]) (by simp [PyData.depth]), by simp [PyData.eqv]⟩
    | str x =>
      have fx : PyData.strOk x = true := by
        cases n <;> exact fine
      exact .inl ⟨"str", false, both, by decide +kernel, by decide +kernel, by decide +kernel, shaped_of (by simp [PyData.canLay0, fx]) (by simp [PyData.depth]), by simp [PyData.eqv]⟩
    | dict kvs => cases h1
    | list ds =>
      cases n with
      | zero => exact fine.elim
      | succ m =>
        cases h1 with
        | lst g1 a1 =>
          cases h2 with
          | lst g2 a2 => exact .inr ⟨"list", true, _, _, _, _, ds, m, both, by decide +kernel, by decide +kernel, rfl, rfl, fun H' s' => .inl (s'.seq g1), fun H' s' => .inl (s'.seq g2), a1, a2, fine.1, rfl, fine.2⟩
    | tuple ds =>
      cases n with
      | zero => exact fine.elim
      | succ m =>
        cases h1 with
        | tup g1 a1 =>
          cases h2 with
          | tup g2 a2 => exact .inr ⟨"tuple", false, _, _, _, _, ds, m, both, by decide +kernel, by decide +kernel, rfl, rfl, fun H' s' => .inr (same_tup s' g1), fun H' s' => .inr (same_tup s' g2), a1, a2, fine.1, rfl, fine.2⟩
  rcases kinds with ⟨T, bl, ty, k1, k2, kb, sh, ev⟩ | ⟨T, l, a, b, xs, ys, ds, m, ty, k1, k2, rfl, rfl, sa, sb, da, db, hl, rfl, fd'⟩
  · refine ⟨_, rfl, (by show 2 ≤ sizeLine; decide), fun tp htp => ?_⟩
    have s1 := same_new htp (.tup [V.ty "list", V.ty "tuple"])
    refine ⟨v1, tp, _, _, _, false, rfl, upd_same, cls2, (ty _ s1).1, kit_no k1 (kit_no k2 rfl), _, rfl, ?_⟩
    refine ⟨_, rfl, (by show 2 ≤ sizeLine; decide), fun tp2 htp2 => ?_⟩
    have s2 := s1.trans (same_new htp2 (.tup [V.ty "list", V.ty "tuple"]))
    refine ⟨v2, tp2, _, _, _, false, rfl, upd_same, cls2, (ty _ s2).2, kit_no k1 (kit_no k2 rfl), _, rfl, ?_⟩
    refine ⟨_, rfl, v1, _, _, _, bl, rfl, .ty _, (ty _ s2).1, kit_ty kb, _, rfl, v2, _, _, _, bl, rfl, .ty _, (ty _ s2).2, kit_ty kb, rfl, true, ?_, ?_⟩
    · rw [decide_eq_true rfl]
    · refine ⟨_, rfl, _, rfl, d, d, dp_same s2 h1, dp_same s2 h2, sh, sh, ?_⟩
      rw [ev]
      exact q _ s2
  · have lx := dpAll_len da
    have ly := dpAll_len db
    refine ⟨_, rfl, (by show 2 ≤ sizeLine; decide), fun tp htp => ?_⟩
    have s1 := same_new htp (.tup [V.ty "list", V.ty "tuple"])
    have anyT : PySem.W.kitAny K (.type T) [Value.type "list", Value.type "tuple"] = some true := by
      cases l with
      | true => exact kit_yes k1
      | false => exact kit_no k1 (kit_yes k2)
    refine ⟨.ref a, tp, _, _, _, true, rfl, upd_same, cls2, (ty _ s1).1, anyT, _, rfl, ?_⟩
    refine ⟨_, rfl, .ref a, _, _, _, l, rfl, .ty _, (ty _ s1).1, kit_ty k1, _, rfl, .ref b, _, _, _, l, rfl, .ty _, (ty _ s1).2, kit_ty k1, rfl, false, ?_, ?_⟩
    · rw [decide_eq_true rfl]
      rfl
    refine ⟨_, rfl, .ref a, _, _, _, !l, rfl, .ty _, (ty _ s1).1, kit_ty k2, _, rfl, .ref b, _, _, _, !l, rfl, .ty _, (ty _ s1).2, kit_ty k2, rfl, false, ?_, ?_⟩
    · rw [decide_eq_true rfl]
      rfl
    refine ⟨_, rfl, a, xs, rfl, sa _ s1, _, rfl, b, ys, rfl, sb _ s1, rfl, false, ?_, ?_⟩
    · rw [lx, ly, decide_eq_true rfl]
      rfl
    refine ⟨_, rfl, a, xs, rfl, sa _ s1, _, rfl, by omega, by omega, fun D hD => lc_range (lo := 0) (n := (xs.length : Int).toNat) (fun i H' => Same H H' ∧ H' D = some (.lst [])) ⟨s1.trans (same_new hD _), upd_same⟩ ?_ ?_⟩
    · rintro i H' hi ⟨s', hD'⟩
      have hi' : i < xs.length := by omega
      have gx : xs[i]? = some xs[i] := List.getElem?_eq_getElem hi'
      have gy : ys[i]? = some (ys[i]'(by omega)) := List.getElem?_eq_getElem (by omega)
      obtain ⟨d1, e1, p1⟩ := dpAll_get da gx
      obtain ⟨d2, e2, p2⟩ := dpAll_get db gy
      rw [e1] at e2
      cases e2
      have ea : atI xs (0 + (i : Int)) = some xs[i] := at_of (j := i) (by omega) gx
      have eb : atI ys (0 + (i : Int)) = some (ys[i]'(by omega)) := at_of (j := i) (by omega) gy
      rcases sa _ s' with za | za <;> rcases sb _ s' with zb | zb
      · refine ⟨rfl, _, rfl, _, rfl, .inl ⟨a, xs, _, _, rfl, rfl, za, ea, _, rfl, _, rfl, .inl ⟨b, ys, _, _, rfl, rfl, zb, eb, ?_⟩⟩⟩
        exact ⟨_, _, d1, m, rfl, rfl, dp_same s' p1, dp_same s' p2, fd' d1 (List.mem_of_getElem? e1), fun H2 s2 => ⟨true, rfl, s'.trans s2, s2 _ _ hD'⟩⟩
      · refine ⟨rfl, _, rfl, _, rfl, .inl ⟨a, xs, _, _, rfl, rfl, za, ea, _, rfl, _, rfl, .inr (.inl ⟨b, ys, _, _, rfl, rfl, zb, eb, ?_⟩)⟩⟩
        exact ⟨_, _, d1, m, rfl, rfl, dp_same s' p1, dp_same s' p2, fd' d1 (List.mem_of_getElem? e1), fun H2 s2 => ⟨true, rfl, s'.trans s2, s2 _ _ hD'⟩⟩
      · refine ⟨rfl, _, rfl, _, rfl, .inr (.inl ⟨a, xs, _, _, rfl, rfl, za, ea, _, rfl, _, rfl, .inl ⟨b, ys, _, _, rfl, rfl, zb, eb, ?_⟩⟩)⟩
        exact ⟨_, _, d1, m, rfl, rfl, dp_same s' p1, dp_same s' p2, fd' d1 (List.mem_of_getElem? e1), fun H2 s2 => ⟨true, rfl, s'.trans s2, s2 _ _ hD'⟩⟩
      · refine ⟨rfl, _, rfl, _, rfl, .inr (.inl ⟨a, xs, _, _, rfl, rfl, za, ea, _, rfl, _, rfl, .inr (.inl ⟨b, ys, _, _, rfl, rfl, zb, eb, ?_⟩)⟩)⟩
        exact ⟨_, _, d1, m, rfl, rfl, dp_same s' p1, dp_same s' p2, fd' d1 (List.mem_of_getElem? e1), fun H2 s2 => ⟨true, rfl, s'.trans s2, s2 _ _ hD'⟩⟩
    · rintro H' ⟨s', hD'⟩
      refine ⟨Nat.zero_le _, fun e he => ?_⟩
      have s5 := same_new he (.lst [])
      refine ⟨.list [], .list [], .lst (sql (s5 _ _ hD')) .nil, .lst (sql upd_same) .nil, by decide +kernel, by decide +kernel, ?_⟩
      have ev : PyData.eqv (.list []) (.list []) = true := by simp [PyData.eqv, PyData.eqvAll]
      rw [ev]
      exact q _ (s'.trans s5)
theorem like_all {f : Addr} {fd : FuncData} (F : Fun K "_law_like" "_law_like" sLike f fd) (B : Bi mg) (m : mg "_law_like" = some (.ref f)) (b : Binds K fd ["one", "two"] []) :
    ∀ n : Nat, FnOk P w K mg base CX0 n f fd ["one", "two"] (spLike K n)
  | 0 => by
    have no : ∀ vs H Q E, ¬ spLike K 0 vs H Q E := fun vs H Q E h => by
      obtain ⟨_, _, _, m, h, _⟩ := h
      cases h
    exact ⟨fun vs H Q E h => absurd h (no vs H Q E), fun A outer s H args us vs Q E _ _ _ _ h => absurd h (no vs H Q E)⟩
  | n + 1 => like_step F B ⟨f, fd, like_all F B m b n, m, F.kp, b⟩
theorem ints_get {ns : List Nat} {i : Nat} {x : V} (h : (ns.map natV)[i]? = some x) : ∃ k, ns[i]? = some k ∧ x = natV k := by
  rw [List.getElem?_map] at h
  cases e : ns[i]? with
  | none =>
    rw [e] at h
    cases h
  | some k =>
    rw [e] at h
    cases h
    exact ⟨k, rfl, rfl⟩
def spPut : Sp := fun vs H Q _ => ∃ (p : Addr) (bs : List Str) (k : Nat), vs = [.ref p, natV k] ∧ TpO H p (bs.map V.str) ∧ k < bs.length ∧ bs.length ≤ 1000 ∧
  ∀ (q : Addr) (H' : Hp), Same H H' → TpO H' q ((putM bs k).map V.str) → Q (.ref q) H'
theorem scPut : FnScope ["pile", "number"] ["pile", "number"] (defScope sPut) := ⟨rfl, rfl, rfl, by decide +kernel, rfl, by decide +kernel, by decide +kernel⟩
theorem ok_put {f : Addr} {fd : FuncData} (F : Fun K "put_back" "put_back" sPut f fd) : FnOk P w K mg base CX0 1 f fd ["pile", "number"] spPut := by
  refine F.ok scPut (fun vs H Q E h => ?_) (fun cdv A outer s H vs Q E hr h => ?_)
  · obtain ⟨p, bs, k, rfl, _⟩ := h
    rfl
  obtain ⟨p, bs, k, rfl, hp, hk, hl, q⟩ := h
  refine ⟨_, pss_one (ps_ret (pe_op op_catY (pe_op op_catY (pe_slice sl_tupY (pv 0) (po_some pe_int) (po_some (pe_op op_add (pv 1) pe_int))) (pe_slice sl_tupY (pv 0) po_none (po_some pe_int)))
    (pe_slice sl_tupY (pv 0) (po_some (pe_op op_add (pv 1) pe_int)) po_none))), ?_⟩
  have lm : (bs.map V.str).length = bs.length := List.length_map _
  refine ⟨_, rfl, _, rfl, _, rfl, _, _, rfl, rfl, _, rfl, p, _, rfl, hp, fun a H1 s1 ha => ?_⟩
  refine ⟨_, rfl, _, rfl, p, _, rfl, hp.same s1, fun b H2 s2 hb => ?_⟩
  have e1 : cutV (bs.map V.str) (some 1) (some ((k : Int) + 1)) = ((bs.drop 1).take k).map V.str := by
    rw [cut_mid (i := 1) (j := k + 1) (y := 1) (z := (k : Int) + 1) rfl (by omega) (by rw [lm]; omega) (by rw [lm]; omega), Nat.add_sub_cancel, List.map_take, List.map_drop]
  have e2 : cutV (bs.map V.str) none (some 1) = (bs.take 1).map V.str := by
    rw [cut_high (j := 1) (z := 1) rfl (by rw [lm]; omega), List.map_take]
  have e3 : cutV (bs.map V.str) (some ((k : Int) + 1)) none = (bs.drop (k + 1)).map V.str := by
    rw [cut_low (j := k + 1) (z := (k : Int) + 1) (by omega) (by rw [lm]; omega), List.map_drop]
  have big : ∀ n m : Nat, n ≤ 1000 → m ≤ 1000 → n + m ≤ sizeLine := fun n m h1 h2 => by rw [sizeLine_eq]; omega
  rw [e1] at ha
  rw [e2] at hb
  refine ⟨a, b, _, _, rfl, rfl, ha.same s2, hb, big _ _ (by rw [List.length_map, List.length_take, List.length_drop]; omega) (by rw [List.length_map, List.length_take]; omega), fun c H3 s3 hc => ?_⟩
  refine ⟨_, rfl, _, rfl, _, _, rfl, rfl, _, rfl, p, _, rfl, hp.same (s1.trans (s2.trans s3)), fun d H4 s4 hd => ?_⟩
  rw [e3] at hd
  refine ⟨c, d, _, _, rfl, rfl, hc.same s4, hd, big _ _ (by rw [List.length_append, List.length_map, List.length_map, List.length_take, List.length_take, List.length_drop]; omega) (by rw [List.length_map, List.length_drop]; omega), fun e H5 s5 he => ?_⟩
  refine q e H5 (s1.trans (s2.trans (s3.trans (s4.trans s5)))) ?_
  unfold putM
  rw [List.map_append, List.map_append]
  exact he
def spLiftable (K : PySem.W.Frag) : Sp := fun vs H Q _ => ∃ (p r : Addr) (bs : List Str) (ns : List Nat), vs = [.ref p, .ref r] ∧ SqT K H p (bs.map V.str) ∧ SqL K H r (ns.map natV) ∧ (∀ k ∈ ns, k < bs.length) ∧ ns.length ≤ 1000 ∧
  ∀ (l : Addr) (H' : Hp), Same H H' → H l = none → H' l = some (.lst (ns.map natV)) → Q (.ref l) H'
theorem scLiftable : FnScope ["pile", "numbers", "number"] ["pile", "numbers"] (defScope sLiftable) := ⟨rfl, rfl, rfl, by decide +kernel, rfl, by decide +kernel, by decide +kernel⟩
theorem ok_liftable {f : Addr} {fd : FuncData} (F : Fun K "liftable" "liftable" sLiftable f fd) (B : Bi mg) : FnOk P w K mg base CX0 1 f fd ["pile", "numbers"] (spLiftable K) := by
  refine F.ok scLiftable (fun vs H Q E h => ?_) (fun cdv A outer s H vs Q E hr h => ?_)
  · obtain ⟨p, r, bs, ns, rfl, _⟩ := h
    rfl
  obtain ⟨p, r, bs, ns, rfl, hp, hrr, hk, hl, q⟩ := h
  refine ⟨_, pss_one (ps_ret (pe_lc (own := [("number", 2)]) (g := gName 2) (tt := tTest (tChain (rI0 fun i j => .bl (decide (i ≤ j))) (rI0 fun i j => .bl (decide (i < j))) (tC (.int 0)) (tVar 2) (tCB (Evl.rLenS K) (tCons (tVar 0) tNil))))
      (by rfl) scLiftable.nd (pi_list (pv 1)) (blkOk_by (own := [("number", 2)]) (N := ["pile", "numbers", "number"]) (sc := defScope sLiftable) (by decide +kernel)) (fun _ _ _ _ _ => pg_name (i := 2) scLiftable.nd rfl (.inl rfl))
      (fun _ _ _ _ _ => pts_one (pt_chain op_le op_lt pe_int (pv 2) (pe_callB (cLen (K := K) rfl) (by rfl) B.len PySem.boot_len (pa_cons (pv 0) pa_nil)))) (fun _ _ _ _ _ => pv 2))), ?_⟩
  refine ⟨_, rfl, r, rfl, ⟨_, hrr⟩, fun D hD => lc_list (K := K) (a := r) (xs := ns.map natV) (fun j H' => Same H H' ∧ H' D = some (.lst ((ns.take j).map natV)))
    ⟨same_new hD _, upd_same⟩ (fun j H' _ h' => h'.1.seq hrr) ?_ ?_⟩
  · rintro j x H1 hx ⟨s1, hD1⟩
    obtain ⟨k, hk1, rfl⟩ := ints_get hx
    have lt := hk k (List.mem_of_getElem? hk1)
    have y1 : decide ((0 : Int) ≤ (k : Int)) = true := decide_eq_true (by omega)
    have y2 : decide ((k : Int) < (((bs.map V.str).length : Nat) : Int)) = true := decide_eq_true (by rw [List.length_map]; omega)
    refine ⟨rfl, _, rfl, _, _, rfl, rfl, true, congrArg V.bl y1, ?_⟩
    refine ⟨_, rfl, p, _, rfl, .inr (same_tup s1 hp), _, _, rfl, rfl, true, congrArg V.bl y2, ?_⟩
    refine ⟨_, rfl, _, hD1, ?_, same_put s1 hD, ?_⟩
    · rw [List.length_map, List.length_take]
      exact small1000 (by omega)
    · rw [upd_same, List.take_add_one, hk1, List.map_append]
      rfl
  · rintro H1 ⟨s1, hD1⟩
    rw [List.length_map, List.take_length] at hD1
    exact q D H1 s1 hD hD1
def spUndone (K : PySem.W.Frag) : Sp := fun vs H Q _ => ∃ (p r : Addr) (bs : List Str) (ns : List Nat), vs = [.ref p, .ref r] ∧ TpO H p (bs.map V.str) ∧ SqL K H r (ns.map natV) ∧ (∀ k ∈ ns, k < bs.length) ∧ bs.length ≤ 1000 ∧ ns.length ≤ 900 ∧
  ∀ (t o rd : Addr) (H' : Hp), Same H H' → H' t = some (.tup [.ref o, .ref rd]) → TpO H' o ((unR bs ns.reverse).map V.str) → H' rd = some (.lst ((hdR bs ns.reverse).reverse.map V.str)) → Q (.ref t) H'
abbrev nUndone : List Str := ["pile", "numbers", "readings", "order", "number"]
theorem scUndone : FnScope nUndone ["pile", "numbers"] (defScope sUndone) := ⟨rfl, rfl, rfl, by decide +kernel, rfl, by decide +kernel, by decide +kernel⟩
theorem ok_undone {f : Addr} {fd : FuncData} (F : Fun K "undone" "undone" sUndone f fd) (B : Bi mg) (cP : Has P w K mg base 1 "put_back" ["pile", "number"] spPut) (cL : Has P w K mg base 1 "liftable" ["pile", "numbers"] (spLiftable K)) :
    FnOk P w K mg base CX0 2 f fd ["pile", "numbers"] (spUndone K) := by
  refine F.ok scUndone (fun vs H Q E h => ?_) (fun cdv A outer s H vs Q E hr h => ?_)
  · obtain ⟨p, r, bs, ns, rfl, _⟩ := h
    rfl
  obtain ⟨p, r, bs, ns, rfl, hp, hrr, hk, hl, hl2, q⟩ := h
  refine ⟨_, pss_cons (ps_set (i := 2) scUndone.nd rfl (.inl rfl) (pe_lst pa_nil))
    (pss_cons (ps_set (i := 3) scUndone.nd rfl (.inl rfl) (pv 0))
    (pss_cons (ps_for PassesOwn.never rfl (RT.pi_revA (by rfl) B.reversed (pe_go cL hr (by decide) rfl (pa_cons (pv 0) (pa_cons (pv 1) pa_nil)))) (pg_name (i := 4) scUndone.nd rfl (.inl rfl))
      (pss_cons (ps_expr (pe_bm PySem.F.plainAttrs_list PySem.F.slot_list_append PySem.F.type_list_append mt_append (pv 2) (pa_cons (pe_ix ix_tup (pv 3) pe_int (fun _ _ => rfl)) pa_nil)))
      (pss_one (ps_set (i := 3) scUndone.nd rfl (.inl rfl) (pe_go cP hr (by decide) rfl (pa_cons (pv 3) (pa_cons (pv 4) pa_nil)))))))
    (pss_one (ps_ret (pe_tup (pa_cons (pv 3) (pa_cons (pe_revL (pv 2)) pa_nil))))))), ?_⟩
  refine ⟨Nat.zero_le _, fun L hL => ⟨_, rfl, ?_⟩⟩
  have s1 := same_new hL (.lst [])
  have hL1 : upd H L (.lst []) L = some (.lst []) := upd_same
  generalize upd H L (.lst []) = H1 at s1 hL1 ⊢
  refine ⟨_, rfl, _, rfl, p, r, bs, ns, rfl, (hp.same s1).sqt, s1.seq hrr, hk, by omega, fun l H2 s2 nl hl2' => ?_⟩
  have sm2 := s1.trans s2
  have nLl : L ≠ l := ne_of_none hL1 nl
  have ln : (ns.map natV).length = ns.length := List.length_map _
  refine ⟨l, _, rfl, .inl ⟨sql hl2', RT.for_Itv (fun i σ H' => ∃ (o : Addr) (y4 : Option V), σ = [some (.ref p), some (.ref r), some (.ref L), some (.ref o), y4] ∧ Same H H' ∧ H' l = some (.lst (ns.map natV)) ∧
      TpO H' o ((unR bs (ns.reverse.take i)).map V.str) ∧ H' L = some (.lst ((hdR bs (ns.reverse.take i)).map V.str)))
    ⟨p, none, rfl, sm2, hl2', hp.same sm2, s2 _ _ hL1⟩ (fun i σ H' ⟨_, _, _, _, h, _⟩ => sql h) ?_ ?_⟩⟩
  · rintro i x σ H3 hi hx ⟨o, y4, rfl, sm3, hl3, ho3, hL3⟩
    rw [ln] at hi hx
    obtain ⟨k, hk1, rfl⟩ := ints_get hx
    have ltk := hk k (List.mem_of_getElem? hk1)
    have hk2 : ns.reverse[i]? = some k := by rw [List.getElem?_reverse hi]; exact hk1
    have et : ns.reverse.take (i + 1) = ns.reverse.take i ++ [k] := by rw [List.take_add_one, hk2]; rfl
    rw [et, unR_snoc, hdR_snoc]
    have lu : (unR bs (ns.reverse.take i)).length = bs.length := (unR_perm _ _).length_eq
    have lh := hdR_len bs (ns.reverse.take i) (by omega)
    rw [List.length_take, List.length_reverse] at lh
    generalize unR bs (ns.reverse.take i) = cur at ho3 lu ⊢
    generalize hdR bs (ns.reverse.take i) = hd at hL3 lh ⊢
    cases cur with
    | nil =>
      rw [List.length_nil] at lu
      omega
    | cons t r' =>
      refine ⟨_, rfl, .inl ⟨rfl, _, sql hL3⟩, _, rfl, o, _, _, .str t, rfl, rfl, ho3.sqt, at_of (j := 0) rfl rfl, L, _, _, rfl, rfl, hL3, by rw [List.length_map]; exact small1000 (by omega), ?_⟩
      have sm4 : Same H (upd H3 L (.lst (hd.map V.str ++ [V.str t]))) := same_put sm3 hL
      have ho4 : TpO (upd H3 L (.lst (hd.map V.str ++ [V.str t]))) o ((t :: r').map V.str) := ho3.move fun u hu => by
        rw [upd_ne (ho3.ne hL3 fun o z => nomatch z)]
        exact hu
      refine ⟨_, rfl, _, rfl, o, t :: r', k, rfl, ho4, by omega, by omega, fun c H5 s5 hc => ?_⟩
      refine ⟨c, some (natV k), rfl, sm4.trans s5, s5 _ _ (by rw [upd_ne nLl.symm]; exact hl3), hc, s5 _ _ ?_⟩
      rw [upd_same, List.map_append]
      rfl
  · rintro σ H3 ⟨o, y4, rfl, sm3, hl3, ho3, hL3⟩
    rw [ln, List.take_of_length_le (by rw [List.length_reverse]; exact Nat.le_refl _)] at ho3 hL3
    refine ⟨_, rfl, _, rfl, L, _, rfl, sql hL3, fun rd hrd => ⟨(by show 2 ≤ sizeLine; decide), fun t ht => ?_⟩⟩
    have s4 := same_new hrd (.lst ((hdR bs ns.reverse).map V.str).reverse)
    have s5 := same_new ht (.tup [.ref o, .ref rd])
    refine q t o rd _ (sm3.trans (s4.trans s5)) upd_same (ho3.same (s4.trans s5)) (s5 _ _ ?_)
    rw [upd_same, List.map_reverse]
def spReadZ : Sp := fun vs H Q _ => ∃ (p r : Addr) (bs rs : List Str), vs = [.ref p, .ref r] ∧ TpO H p (bs.map V.str) ∧ H r = some (.lst (rs.map V.str)) ∧ bs.length ≤ 7 ∧ rs.length ≤ 60 ∧ (∀ b ∈ rs, b ∈ bs) ∧
  ∀ (t a n o : Addr) (H' : Hp) (ts : List Addr), Same H H' → H' t = some (.tup [.ref a, .ref n, .ref o]) → TpO H' a ((behindM bs rs).map V.str) → H' n = some (.lst ((liftedM bs rs).map natV)) →
    H' o = some (.lst (ts.map V.ref)) → PairsL H' ts (rowsM bs rs) → Q (.ref t) H'
abbrev nRead : List Str := ["pile", "readings", "left", "numbers", "rows", "book", "above", "other"]
theorem scRead : FnScope nRead ["pile", "readings"] (defScope sRead) := ⟨rfl, rfl, rfl, by decide +kernel, rfl, by decide +kernel, by decide +kernel⟩
theorem ok_readZ {f : Addr} {fd : FuncData} (F : Fun K "_law_read" "_law_read" sRead f fd) (B : Bi mg) : FnOk P w K mg base CX0 1 f fd ["pile", "readings"] spReadZ := by
  refine F.ok scRead (fun vs H Q E h => ?_) (fun cdv A outer s H vs Q E hr h => ?_)
  · obtain ⟨p, r, bs, rs, rfl, _⟩ := h
    rfl
  obtain ⟨p, r, bs, rs, rfl, hp, hrr, hl, hl2, hm, q⟩ := h
  refine ⟨_, pss_cons (ps_par3 (i := 2) (j := 3) (l := 4) (by rfl) scRead.nd rfl rfl rfl (by decide) (by decide) (by decide) rfl rfl rfl
      (pa_cons (pe_callTy call_list_of (by rfl) B.list (by decide +kernel) (pa_cons (pv 0) pa_nil)) (pa_cons (pe_lst pa_nil) (pa_cons (pe_lst pa_nil) pa_nil))) (by rfl))
    (pss_cons (ps_for PassesOwn.never rfl (pi_list (pv 1)) (pg_name (i := 5) scRead.nd rfl (.inr rfl))
      (pss_cons (ps_set (i := 6) scRead.nd rfl (.inl rfl) (pe_slice sl_list (pv 2) po_none (po_some (pe_bm PySem.F.plainAttrs_list PySem.F.slot_list_index PySem.F.type_list_index mt_index (pv 2) (pa_cons (pv 5) pa_nil)))))
      (pss_cons (ps_expr (pe_bm PySem.F.plainAttrs_list PySem.F.slot_list_append PySem.F.type_list_append mt_append (pv 3) (pa_cons (pe_callB call_len_seq (by rfl) B.len PySem.boot_len (pa_cons (pv 6) pa_nil)) pa_nil)))
      (pss_cons (ps_set (i := 4) scRead.nd rfl (.inl rfl) (pe_op op_cat (pv 4) (pe_lc (own := [("other", 7)]) (g := gName 7) (tt := tYes) (by rfl) scRead.nd (pi_list (pv 6))
          (blkOk_by (own := [("other", 7)]) (N := nRead) (sc := defScope sRead) (by decide +kernel)) (fun _ _ _ _ _ => pg_name (i := 7) scRead.nd rfl (.inl rfl)) (fun _ _ _ _ _ => pts_nil)
          (fun _ _ _ _ _ => pe_tup (pa_cons (pv 5) (pa_cons (pv 7) pa_nil))))))
      (pss_cons (ps_expr (pe_bm PySem.F.plainAttrs_list PySem.F.slot_list_remove PySem.F.type_list_remove (mt_removeS (hu_of hr)) (pv 2) (pa_cons (pv 5) pa_nil)))
      (pss_one (ps_expr (pe_bm PySem.F.plainAttrs_list PySem.F.slot_list_insert PySem.F.type_list_insert mt_insert (pv 2) (pa_cons pe_int (pa_cons (pv 5) pa_nil))))))))))
    (pss_one (ps_ret (pe_tup (pa_cons (pe_callTy call_tupleZ (by rfl) B.tuple (by decide +kernel) (pa_cons (pv 2) pa_nil)) (pa_cons (pv 3) (pa_cons (pv 4) pa_nil))))))), ?_⟩
  refine ⟨_, rfl, p, _, rfl, .inr hp.sqt, fun L hL => ⟨Nat.zero_le _, fun N hN => ⟨Nat.zero_le _, fun R hR => ⟨_, _, _, rfl, ?_⟩⟩⟩⟩
  have s1 := same_new hL (.lst (bs.map V.str))
  have s2 := same_new hN (.lst [])
  have s3 := same_new hR (.lst [])
  have sm0 : Same H (upd (upd (upd H L (.lst (bs.map V.str))) N (.lst [])) R (.lst [])) := s1.trans (s2.trans s3)
  have nLN : L ≠ N := ne_of_none upd_same hN
  have nLR : L ≠ R := ne_of_none (s2 _ _ upd_same) hR
  have nNR : N ≠ R := ne_of_none upd_same hR
  have nN0 : H N = none := s1.free hN
  have hL3 : upd (upd (upd H L (.lst (bs.map V.str))) N (.lst [])) R (.lst []) L = some (.lst (bs.map V.str)) := s3 _ _ (s2 _ _ upd_same)
  have hN3 : upd (upd (upd H L (.lst (bs.map V.str))) N (.lst [])) R (.lst []) N = some (.lst []) := s3 _ _ upd_same
  have hR3 : upd (upd (upd H L (.lst (bs.map V.str))) N (.lst [])) R (.lst []) R = some (.lst []) := upd_same
  generalize upd (upd (upd H L (.lst (bs.map V.str))) N (.lst [])) R (.lst []) = H3 at sm0 hL3 hN3 hR3 ⊢
  refine ⟨_, rfl, r, rfl, ⟨_, sm0.seq (sql hrr)⟩, for_list (K := K) (a := r) (xs := rs.map V.str)
    (fun i σ H' => ∃ (R : Addr) (y5 y6 : Option V) (ts : List Addr), σ = [some (.ref p), some (.ref r), some (.ref L), some (.ref N), some (.ref R), y5, y6, none] ∧ Same H H' ∧ L ≠ R ∧ N ≠ R ∧
      H' L = some (.lst ((behindM bs (rs.take i)).map V.str)) ∧ H' N = some (.lst ((liftedM bs (rs.take i)).map natV)) ∧ H' R = some (.lst (ts.map V.ref)) ∧ PairsL H' ts (rowsM bs (rs.take i)))
    ⟨R, none, none, [], rfl, sm0, nLR, nNR, hL3, hN3, hR3, PairsL.nil _⟩ (fun i σ H' _ ⟨_, _, _, _, _, sm, _⟩ => sm.seq (sql hrr)) ?_ ?_⟩
  · rintro i x σ H' hx ⟨R, y5, y6, ts, rfl, sm, nLR, nNR, hL', hN', hR', pl⟩
    obtain ⟨b, hb, rfl⟩ := strs_get hx
    have hi : i < rs.length := (List.getElem?_eq_some_iff.mp hb).1
    have pmi := behindM_perm (rs.take i) (take_sub hm i)
    have hbm := pmi.mem_iff.mpr (hm b (List.mem_of_getElem? hb))
    have rl : (rowsM bs (rs.take i)).length ≤ 420 := by
      have z := rowsM_len (rs.take i) (take_sub hm i)
      have z2 : (rs.take i).length * bs.length ≤ 60 * 7 := Nat.mul_le_mul (by rw [List.length_take]; omega) hl
      omega
    have e1 : lay (behindM bs (rs.take i)) b = behindM bs (rs.take (i + 1)) := by rw [take_step hb, behindM_snoc]
    have e2 : liftedM bs (rs.take i) ++ [(behindM bs (rs.take i)).idxOf b] = liftedM bs (rs.take (i + 1)) := by rw [take_step hb, liftedM_snoc]
    have e3 : rowsM bs (rs.take i) ++ (over (behindM bs (rs.take i)) b).map (fun o => (b, o)) = rowsM bs (rs.take (i + 1)) := by rw [take_step hb, rowsM_snoc]
    rw [← e1, ← e2, ← e3]
    have lnum : (liftedM bs (rs.take i)).length ≤ 60 := by rw [liftedM_len, List.length_take]; omega
    generalize behindM bs (rs.take i) = cur at hL' pmi hbm ⊢
    generalize rowsM bs (rs.take i) = rows at pl rl ⊢
    generalize liftedM bs (rs.take i) = nums at hN' lnum ⊢
    have lc : cur.length ≤ 7 := by rw [pmi.length_eq]; exact hl
    have ib := idx_lt hbm
    have lm : (cur.map V.str).length = cur.length := List.length_map _
    -- above
    refine ⟨_, rfl, _, rfl, .inl ⟨rfl, _, sql hL'⟩, _, rfl, L, _, _, cur.idxOf b, .str b, rfl, rfl, sql hL', rfl, flat_map _, by rw [List.getElem?_map, idx_get hbm]; rfl, by show (b == b) = true; exact beq_self_eq_true b, fun m z hm' hz => ?_, _, rfl, L, _, rfl, sql hL', fun A' hA => ?_⟩
    · obtain ⟨c, hc, rfl⟩ := strs_get hz
      show (c == b) = false
      exact beq_eq_false_iff_ne.mpr fun e => idx_first m hm' (by rw [hc, e])
    rw [cut_to (by rw [lm]; omega), ← List.map_take]
    have sA := same_new hA (.lst ((cur.take (cur.idxOf b)).map V.str))
    have hA' : upd H' A' (.lst ((cur.take (cur.idxOf b)).map V.str)) A' = some (.lst ((over cur b).map V.str)) := upd_same
    have hLA := sA _ _ hL'
    have hNA := sA _ _ hN'
    have hRA := sA _ _ hR'
    have plA := pl.move (KeepT.of sA)
    have smA := sm.trans sA
    have nAN : A' ≠ N := (ne_of_none hN' hA).symm
    have nAL : A' ≠ L := (ne_of_none hL' hA).symm
    have nAR : A' ≠ R := (ne_of_none hR' hA).symm
    generalize upd H' A' (.lst ((cur.take (cur.idxOf b)).map V.str)) = HA at hA' hLA hNA hRA plA smA ⊢
    have ol : (over cur b).length = cur.idxOf b := by
      unfold over
      rw [List.length_take]
      omega
    -- numbers
    refine ⟨_, rfl, .inl ⟨rfl, _, sql hNA⟩, _, rfl, A', _, rfl, .inl (sql hA'), N, _, _, rfl, rfl, hNA, by rw [List.length_map]; exact small1000 (by omega), ?_⟩
    have en : nums.map natV ++ [V.int (((over cur b).map V.str).length : Int)] = (nums ++ [cur.idxOf b]).map natV := by rw [List.map_append, List.length_map, ol]; rfl
    rw [en]
    have smN : Same H (upd HA N (.lst ((nums ++ [cur.idxOf b]).map natV))) := same_put smA nN0
    have plN := plA.move (KeepT.put (D := N) (o := .lst ((nums ++ [cur.idxOf b]).map natV)) hNA (fun xs z => nomatch z))
    have hAN : upd HA N (.lst ((nums ++ [cur.idxOf b]).map natV)) A' = some (.lst ((over cur b).map V.str)) := by rw [upd_ne nAN]; exact hA'
    have hLN : upd HA N (.lst ((nums ++ [cur.idxOf b]).map natV)) L = some (.lst (cur.map V.str)) := by rw [upd_ne nLN]; exact hLA
    have hRN : upd HA N (.lst ((nums ++ [cur.idxOf b]).map natV)) R = some (.lst (ts.map V.ref)) := by rw [upd_ne nNR.symm]; exact hRA
    have hNN : upd HA N (.lst ((nums ++ [cur.idxOf b]).map natV)) N = some (.lst ((nums ++ [cur.idxOf b]).map natV)) := upd_same
    generalize upd HA N (.lst ((nums ++ [cur.idxOf b]).map natV)) = HN at smN plN hAN hLN hRN hNN ⊢
    -- rows
    refine ⟨_, rfl, _, rfl, A', rfl, ⟨_, sql hAN⟩, fun D hD => lc_list (K := K) (a := A') (xs := (over cur b).map V.str)
      (fun j H2 => ∃ us : List Addr, Same HN H2 ∧ H2 D = some (.lst (us.map V.ref)) ∧ PairsL H2 us (((over cur b).take j).map fun o => (b, o)))
      ⟨[], same_new hD _, upd_same, PairsL.nil _⟩ (fun j H2 _ ⟨_, s2, _⟩ => s2.seq (sql hAN)) ?_ ?_⟩
    · rintro j x H2 hx2 ⟨us, s2, hD2, pl2⟩
      obtain ⟨o, ho, rfl⟩ := strs_get hx2
      refine ⟨rfl, _, rfl, _, rfl, (by show 2 ≤ sizeLine; decide), fun t ht => ?_⟩
      have s5 := same_new ht (.tup [.str b, .str o])
      refine ⟨_, s5 _ _ hD2, ?_, us ++ [t], same_put (s2.trans s5) hD, by rw [upd_same, List.map_append]; rfl, ?_⟩
      · have z := pl2.1
        rw [List.length_map, List.length_take] at z
        rw [List.length_map]
        exact small1000 (by omega)
      · rw [List.take_add_one, ho, List.map_append]
        exact ((pl2.move (KeepT.of s5)).snoc (t := t) (q := (b, o)) upd_same).move (KeepT.put (s5 _ _ hD2) (fun xs z => nomatch z))
    · rintro H2 ⟨us, s2, hD2, pl2⟩
      rw [List.length_map, List.take_length] at pl2
      have lus : us.length ≤ 7 := by rw [pl2.1, List.length_map]; omega
      have lts : ts.length ≤ 420 := by rw [plN.1]; exact rl
      refine ⟨R, D, _, _, rfl, rfl, s2 _ _ hRN, hD2, by rw [List.length_map, List.length_map]; exact Nat.le_of_lt (small1000 (by omega)), fun R2 hR2 => ?_⟩
      have s6 := same_new hR2 (.lst (ts.map V.ref ++ us.map V.ref))
      have hR6 : upd H2 R2 (.lst (ts.map V.ref ++ us.map V.ref)) R2 = some (.lst ((ts ++ us).map V.ref)) := by rw [upd_same, List.map_append]
      have sm6 : Same H (upd H2 R2 (.lst (ts.map V.ref ++ us.map V.ref))) := smN.trans (s2.trans s6)
      have hL6 := s6 _ _ (s2 _ _ hLN)
      have hN6 := s6 _ _ (s2 _ _ hNN)
      have nLR2 : L ≠ R2 := ne_of_none (s2 _ _ hLN) hR2
      have nNR2 : N ≠ R2 := ne_of_none (s2 _ _ hNN) hR2
      have pl6 : PairsL (upd H2 R2 (.lst (ts.map V.ref ++ us.map V.ref))) (ts ++ us) (rows ++ (over cur b).map fun o => (b, o)) := by
        have a1 := (plN.move (KeepT.of s2)).move (KeepT.of s6)
        have a2 := pl2.move (KeepT.of s6)
        refine ⟨by rw [List.length_append, List.length_append, a1.1, a2.1], fun k t z h1 h2 => ?_⟩
        by_cases hk : k < ts.length
        · rw [List.getElem?_append_left hk] at h1
          rw [List.getElem?_append_left (by rw [← a1.1]; exact hk)] at h2
          exact a1.2 k t z h1 h2
        · rw [List.getElem?_append_right (by omega)] at h1
          rw [List.getElem?_append_right (by rw [← a1.1]; omega), ← a1.1] at h2
          exact a2.2 _ t z h1 h2
      generalize upd H2 R2 (.lst (ts.map V.ref ++ us.map V.ref)) = H6 at hR6 sm6 hL6 hN6 pl6 ⊢
      -- remove, insert
      refine ⟨_, rfl, .inl ⟨rfl, _, sql hL6⟩, _, rfl, L, cur, b, cur.idxOf b, rfl, rfl, hL6, idx_get hbm, idx_first, ?_⟩
      refine ⟨_, rfl, .inl ⟨rfl, _, sql upd_same⟩, _, rfl, L, _, 0, _, rfl, rfl, upd_same, ?_, by decide, by decide, ?_⟩
      · rw [List.length_map]
        have z := List.length_eraseIdx_le cur (cur.idxOf b)
        exact small1000 (by omega)
      · rw [upd_upd]
        have el : ((cur.eraseIdx (cur.idxOf b)).map V.str).take (0 : Int).toNat ++ [V.str b] ++ ((cur.eraseIdx (cur.idxOf b)).map V.str).drop (0 : Int).toNat = (lay cur b).map V.str := rfl
        rw [el]
        refine ⟨R2, _, _, ts ++ us, rfl, same_put sm6 hL, nLR2, nNR2, upd_same, ?_, ?_, ?_⟩
        · rw [upd_ne nLN.symm]
          exact hN6
        · rw [upd_ne nLR2.symm]
          exact hR6
        · exact pl6.move (KeepT.put hL6 (fun xs z => nomatch z))
  · rintro σ H' ⟨R, y5, y6, ts, rfl, sm, nLR, nNR, hL', hN', hR', pl⟩
    rw [List.length_map, List.take_length] at hL' hN' pl
    refine ⟨_, rfl, L, _, rfl, sql hL', fun a u ha hu => ?_⟩
    have s4 := same_new ha u
    refine ⟨_, rfl, _, rfl, (by show 3 ≤ sizeLine; decide), fun t ht => ?_⟩
    have s5 := same_new ht (.tup [.ref a, .ref N, .ref R])
    exact q t a N R _ ts (sm.trans (s4.trans s5)) upd_same ((TpO.new hu).same s5) (s5 _ _ (s4 _ _ hN')) (s5 _ _ (s4 _ _ hR')) ((pl.move (KeepT.of s4)).move (KeepT.of s5))
end
end Lt

set_option Elab.async false
set_option linter.all false
set_option maxRecDepth 100000
set_option maxHeartbeats 4000000
namespace Lt
open PySem PySem.Spec PyProof.Rows L2
section
variable {P : Program} {w : World} {K : PySem.W.Frag} {mg : Str → Option Value} {base : Heap} {X : Cx}
def spName (K : PySem.W.Frag) (Pn : Addr) : Sp := fun vs H Q _ => ∃ (v : V) (d : PyData), vs = [v] ∧ Dp K H v d ∧ (∀ z, d = .str z → z.length ≤ 1000) ∧ GxR.TabG H Pn ∧ ∀ H', GxR.Tabbed Pn H H' → Q (.bl (nameD d)) H'
theorem scIsName : FnScope ["thing"] ["thing"] (defScope sIsName) := ⟨rfl, rfl, rfl, by decide +kernel, rfl, by decide +kernel, by decide +kernel⟩
theorem ok_isName {f c Pn : Addr} {fd : FuncData} (F : Fun K "is_name" "is_name" sIsName f fd) (hc : fd.code = .ref c) (TB : GxR.TabB base mg c Pn) (B : Bi mg) {tk : Tok} (mgL : mg "LONGEST_NAME" = some (.int 8 tk)) : FnOk P w K mg base CX0 1 f fd ["thing"] (spName K Pn) := by
  obtain ⟨oc, od, kV, doc, pm, an, cdv, ct, osl, rfl, lk, hcd⟩ := F.ex
  refine fn_of lk hcd scIsName (fun vs H Q E h => ?_) fun A outer s H vs Q E hr h => ?_
  · obtain ⟨v, d, rfl, _⟩ := h
    rfl
  obtain ⟨v, d, rfl, dp, len, tg, q⟩ := h
  have hc' : cdv = .ref c := hc
  subst hc'
  refine ⟨_, PSs.nox (pss_cons (ps_if (pt_not (pt_val (pe_callB call_isi (by rfl) B.isinstance (by decide +kernel) (pa_cons (pv 0) (pa_cons (pe_bltn (v := .ty "str") (by rfl) B.str (by decide +kernel) rfl) pa_nil))))) (pss_one (ps_ret pe_bl)) pss_nil)
    (pss_cons (ps_if (pt_not (pt_chain op_le op_le pe_int (pe_callB call_len_str (by rfl) B.len PySem.boot_len (pa_cons (pv 0) pa_nil)) (pe_glob (v := .int 8) (by rfl) mgL ⟨_, rfl⟩))) (pss_one (ps_ret pe_bl)) pss_nil)
    (pss_one (ps_ret (GxR.pe_allS hr (by rfl) B.all (by decide +kernel) TB rfl ⟨rfl, rfl, by decide +kernel, rfl, rfl, no_free (by decide +kernel)⟩ (pv 0) (elt_az rfl rfl) (fun _ => rfl)))))), ?_⟩
  rcases kind_str dp with ⟨z, rfl⟩ | ⟨h1, h2⟩
  · cases dp
    have zl := len z rfl
    refine ⟨_, rfl, _, _, _, _, true, rfl, .ty _, (show TyX K H (.str z) (.type "str") from .base (.str z)), kit_ty (by decide +kernel), true, rfl, ?_⟩
    have fin : (nameD (.str z) = false) → Q (.bl false) H := fun e => by
      have y := q H (tabbed_refl tg)
      rw [e] at y
      exact y
    refine ⟨_, rfl, z, rfl, by rw [sizeLine_eq]; omega, _, _, rfl, rfl, _, rfl, ite2 (fun c1 => ?_) (fun c1 => ?_)⟩
    · have d1 : 1 ≤ z.length := by
        have y := of_decide_eq_true c1
        omega
      refine ⟨_, _, rfl, rfl, _, rfl, ?_⟩
      by_cases d2 : z.length ≤ 8
      · have e2 : decide ((z.length : Int) ≤ 8) = true := decide_eq_true (by omega)
        rw [e2]
        refine ⟨_, rfl, z, rfl, tg, fun H2 tb => ?_⟩
        have y := q H2 tb
        rw [nameD_str, decide_eq_true d1, decide_eq_true d2, Bool.true_and, Bool.true_and] at y
        exact y
      · have e2 : decide ((z.length : Int) ≤ 8) = false := decide_eq_false (by omega)
        rw [e2]
        refine fin ?_
        rw [nameD_str, decide_eq_false d2, Bool.and_false, Bool.false_and]
    · have d1 : ¬ 1 ≤ z.length := fun y => c1 (decide_eq_true (by omega))
      refine ⟨_, rfl, fin ?_⟩
      rw [nameD_str, decide_eq_false d1, Bool.false_and, Bool.false_and]
  · refine ⟨_, rfl, _, _, _, _, false, rfl, .ty _, ty_dp dp, kit_ty h2, false, rfl, ?_⟩
    have z := q H (tabbed_refl tg)
    rw [name_no h1] at z
    exact z
def spIsPile (K : PySem.W.Frag) (Pn Pp : Addr) : Sp := fun vs H Q _ => ∃ (v : V) (d : PyData), vs = [v] ∧ Dp K H v d ∧ (∀ ds, d = .tuple ds → ∀ z, .str z ∈ ds → z.length ≤ 1000) ∧ GxR.TabG H Pn ∧ GxR.TabG H Pp ∧
  ∀ H', SameN H H' → (∀ b, H b = none → H' b = none) → GxR.TabG H' Pn → GxR.TabG H' Pp → Q (.bl (pileD d)) H'
theorem scIsPile : FnScope ["thing"] ["thing"] (defScope sIsPile) := ⟨rfl, rfl, rfl, by decide +kernel, rfl, by decide +kernel, by decide +kernel⟩
theorem ok_isPile {f c Pn Pp : Addr} {fd : FuncData} (F : Fun K "is_pile" "is_pile" sIsPile f fd) (hc : fd.code = .ref c) (TB : GxR.TabB base mg c Pp) (B : Bi mg) {tk : Tok} (mgL : mg "MOST_BOOKS" = some (.int 7 tk)) (cN : Has P w K mg base 1 "is_name" ["thing"] (spName K Pn)) :
    FnOk P w K mg base CX0 3 f fd ["thing"] (spIsPile K Pn Pp) := by
  obtain ⟨oc, od, kV, doc, pm, an, cdv, ct, osl, rfl, lk, hcd⟩ := F.ex
  refine fn_of lk hcd scIsPile (fun vs H Q E h => ?_) fun A outer s H vs Q E hr h => ?_
  · obtain ⟨v, d, rfl, _⟩ := h
    rfl
  obtain ⟨v, d, rfl, dp, len, tn, tp, q⟩ := h
  have hc' : cdv = .ref c := hc
  subst hc'
  refine ⟨_, PSs.nox (pss_cons (ps_if (pt_not (pt_val (pe_callB call_isi (by rfl) B.isinstance (by decide +kernel) (pa_cons (pv 0) (pa_cons (pe_bltn (v := .ty "tuple") (by rfl) B.tuple (by decide +kernel) rfl) pa_nil))))) (pss_one (ps_ret pe_bl)) pss_nil)
    (pss_cons (ps_if (pt_not (pt_chain op_le op_le pe_int (pe_callB call_len_seq (by rfl) B.len PySem.boot_len (pa_cons (pv 0) pa_nil)) (pe_glob (v := .int 7) (by rfl) mgL ⟨_, rfl⟩))) (pss_one (ps_ret pe_bl)) pss_nil)
    (pss_cons (ps_if (pt_not (pt_val (pe_allN (k := 1) (tel := tCall (spName K Pn) [] E0 (tCons (tVar 1) tNil)) hr (by rfl) B.all TB rfl ⟨rfl, rfl, by decide +kernel, rfl, rfl, by decide⟩ (pv 0) (fun A C code s4 H4 I rA => pe_go cN rA (Nat.le_refl _) rfl (pa_cons (pv 1) pa_nil))))) (pss_one (ps_ret pe_bl)) pss_nil)
    (pss_one (ps_ret (pe_cmpR op_eq (pe_lenSetT rfl (by rfl) B.len (by rfl) B.set (pv 0)) (pe_callB call_len_seq (by rfl) B.len PySem.boot_len (pa_cons (pv 0) pa_nil)) (nomark _))))))), ?_⟩
  have fin : pileD d = false → Q (.bl false) H := fun e => by
    have y := q H (SameN.refl H) (fun _ h => h) tn tp
    rw [e] at y
    exact y
  rcases kind_tup dp with ⟨ds, rfl⟩ | ⟨h1, h2⟩
  · cases dp with
    | @tup a vs _ sq da =>
    have lv := dpAll_len da
    refine ⟨_, rfl, _, _, _, _, true, rfl, .ty _, (show TyX K H (.ref a) (.type "tuple") from ty_dp (.tup sq da)), kit_ty (by decide +kernel), true, rfl, ?_⟩
    refine ⟨_, rfl, a, _, rfl, .inr sq, _, _, rfl, rfl, _, rfl, ite2 (fun c1 => ?_) (fun c1 => ?_)⟩
    · have d1 : 1 ≤ ds.length := by
        have y := of_decide_eq_true c1
        omega
      refine ⟨_, _, rfl, rfl, _, rfl, ?_⟩
      by_cases d2 : ds.length ≤ 7
      · have e2 : decide ((vs.length : Int) ≤ 7) = true := decide_eq_true (by omega)
        rw [e2]
        refine ⟨_, rfl, a, vs, atD nameD ds, fun _ H' => SameN H H' ∧ (∀ b, H b = none → H' b = none) ∧ GxR.TabG H' Pn ∧ GxR.TabG H' Pp, rfl, sq, tp, fun H2 tb => ?_, fun i H' w => ⟨w.1.tup sq, w.2.1⟩, ?_, ?_⟩
        · refine ⟨SameN.tab tp tb, fun b hb => ?_, tabG_tab tn tb, tb.1⟩
          by_cases e : b = Pp
          · obtain ⟨ps, h, _⟩ := tp
            rw [e, h] at hb
            cases hb
          · rw [tb.2 b e]
            exact hb
        · rintro J i H' v hv ⟨sn, nn, tn', tp'⟩
          obtain ⟨d, ed, dd⟩ := dpAll_get da hv
          refine ⟨_, rfl, v, d, rfl, dp_sameN sn dd, fun z e => len ds rfl z (by rw [← e]; exact List.mem_of_getElem? ed), tn', fun H3 tb => ⟨?_, sn.trans (SameN.tab tn' tb), fun b hb => ?_, tb.1, tabG_tab tp' tb⟩⟩
          · rw [atD_some ed]
          · have y := nn b hb
            by_cases e : b = Pn
            · obtain ⟨ps, h, _⟩ := tn'
              rw [e, h] at y
              cases y
            · rw [tb.2 b e]
              exact y
        · rintro j H' ⟨sn, nn, tn', tp'⟩
          have ea := all_at nameD ds
          rw [lv, ea]
          refine ⟨_, rfl, ?_⟩
          have y := q H' sn nn tn' tp'
          rw [pileD_tup, decide_eq_true d1, decide_eq_true d2, Bool.true_and, Bool.true_and] at y
          cases en : ds.all nameD with
          | false =>
            rw [en, Bool.false_and] at y
            exact y
          | true =>
            rw [en, Bool.true_and] at y
            have et := txts_all fun d hd => List.all_eq_true.mp en d hd
            have lt : (txts ds).length = ds.length := by
              have z := congrArg List.length et
              rw [List.length_map] at z
              exact z.symm
            have ev : vs = (txts ds).map V.str := dpAll_txts (by rw [← et]; exact da)
            refine ⟨_, rfl, a, txts ds, rfl, by rw [← ev]; exact sn.tup sq, by omega, _, rfl, a, _, rfl, .inr (sn.tup sq), rfl, ?_⟩
            have e3 : decide (V.int ((dist (txts ds) : Nat) : Int) = V.int ((vs.length : Nat) : Int)) = decide (dist (txts ds) = ds.length) := by
              rw [decide_eq_decide, lv]
              exact ⟨fun z => by injection z with z; omega, fun z => by rw [z]⟩
            show Q (.bl (decide (V.int ((dist (txts ds) : Nat) : Int) = V.int ((vs.length : Nat) : Int)))) H'
            rw [e3]
            exact y
      · have e2 : decide ((vs.length : Int) ≤ 7) = false := decide_eq_false (by omega)
        rw [e2]
        refine fin ?_
        rw [pileD_tup, decide_eq_false d2, Bool.and_false, Bool.false_and, Bool.false_and]
    · have d1 : ¬ 1 ≤ ds.length := fun y => c1 (decide_eq_true (by omega))
      refine ⟨_, rfl, fin ?_⟩
      rw [pileD_tup, decide_eq_false d1, Bool.false_and, Bool.false_and, Bool.false_and]
  · refine ⟨_, rfl, _, _, _, _, false, rfl, .ty _, ty_dp dp, kit_ty h2, false, rfl, ?_⟩
    exact fin (pile_no h1)
end
end Lt

set_option Elab.async false
set_option linter.all false
set_option maxRecDepth 100000
set_option maxHeartbeats 4000000
namespace Lt
open PySem PySem.Spec PyProof.Rows L2
section
variable {P : Program} {w : World} {K : PySem.W.Frag} {mg : Str → Option Value} {base : Heap} {X : Cx}
def spReadBy (K : PySem.W.Frag) : Sp := fun vs H Q _ => ∃ (p r : Addr) (bs : List Str) (ns : List Nat), vs = [.ref p, .ref r] ∧ TpO H p (bs.map V.str) ∧ SqL K H r (ns.map natV) ∧ (∀ k ∈ ns, k < bs.length) ∧ bs.length ≤ 1000 ∧ ns.length ≤ 900 ∧
  ∀ (l : Addr) (H' : Hp), Same H H' → H l = none → H' l = some (.lst ((readM bs ns).map V.str)) → Q (.ref l) H'
abbrev nReadBy : List Str := ["pile", "numbers", "readings", "order", "number", "book"]
theorem scReadBy : FnScope nReadBy ["pile", "numbers"] (defScope sReadBy) := ⟨rfl, rfl, rfl, by decide +kernel, rfl, by decide +kernel, by decide +kernel⟩
theorem ok_readBy {f : Addr} {fd : FuncData} (F : Fun K "readings_by" "readings_by" sReadBy f fd) (cLa : Has P w K mg base 1 "laid_on_top" ["pile", "book"] spLaid) (cL : Has P w K mg base 1 "liftable" ["pile", "numbers"] (spLiftable K)) :
    FnOk P w K mg base CX0 2 f fd ["pile", "numbers"] (spReadBy K) := by
  refine F.ok scReadBy (fun vs H Q E h => ?_) (fun cdv A outer s H vs Q E hr h => ?_)
  · obtain ⟨p, r, bs, ns, rfl, _⟩ := h
    rfl
  obtain ⟨p, r, bs, ns, rfl, hp, hrr, hk, hl, hl2, q⟩ := h
  refine ⟨_, pss_cons (ps_set (i := 2) scReadBy.nd rfl (.inl rfl) (pe_lst pa_nil))
    (pss_cons (ps_set (i := 3) scReadBy.nd rfl (.inl rfl) (pv 0))
    (pss_cons (ps_for PassesOwn.never rfl (pi_list (pe_go cL hr (by decide) rfl (pa_cons (pv 0) (pa_cons (pv 1) pa_nil)))) (pg_name (i := 4) scReadBy.nd rfl (.inl rfl))
      (pss_cons (ps_set (i := 5) scReadBy.nd rfl (.inl rfl) (pe_ix ix_tup (pv 3) (pv 4) (fun _ _ => rfl)))
      (pss_cons (ps_expr (pe_bm PySem.F.plainAttrs_list PySem.F.slot_list_append PySem.F.type_list_append mt_append (pv 2) (pa_cons (pv 5) pa_nil)))
      (pss_one (ps_set (i := 3) scReadBy.nd rfl (.inl rfl) (pe_go cLa hr (by decide) rfl (pa_cons (pv 3) (pa_cons (pv 5) pa_nil))))))))
    (pss_one (ps_ret (pv 2))))), ?_⟩
  refine ⟨Nat.zero_le _, fun L hL => ⟨_, rfl, ?_⟩⟩
  have s1 := same_new hL (.lst [])
  have hL1 : upd H L (.lst []) L = some (.lst []) := upd_same
  generalize upd H L (.lst []) = H1 at s1 hL1 ⊢
  refine ⟨_, rfl, _, rfl, p, r, bs, ns, rfl, (hp.same s1).sqt, s1.seq hrr, hk, by omega, fun l H2 s2 nl hl2' => ?_⟩
  have sm2 := s1.trans s2
  have nLl : L ≠ l := ne_of_none hL1 nl
  have ln : (ns.map natV).length = ns.length := List.length_map _
  refine ⟨l, rfl, ⟨_, sql hl2'⟩, for_list (K := K) (a := l) (xs := ns.map natV) (fun i σ H' => ∃ (o : Addr) (y4 y5 : Option V), σ = [some (.ref p), some (.ref r), some (.ref L), some (.ref o), y4, y5] ∧ Same H H' ∧ H' l = some (.lst (ns.map natV)) ∧
      TpO H' o ((behindM bs (readM bs (ns.take i))).map V.str) ∧ H' L = some (.lst ((readM bs (ns.take i)).map V.str)))
    ⟨p, none, none, rfl, sm2, hl2', hp.same sm2, s2 _ _ hL1⟩ (fun i σ H' _ ⟨_, _, _, _, _, h, _⟩ => sql h) ?_ ?_⟩
  · rintro i x σ H3 hx ⟨o, y4, y5, rfl, sm3, hl3, ho3, hL3⟩
    obtain ⟨k, hk1, rfl⟩ := ints_get hx
    have ltk := hk k (List.mem_of_getElem? hk1)
    have hi := (List.getElem?_eq_some_iff.mp hk1).1
    have et : ns.take (i + 1) = ns.take i ++ [k] := by rw [List.take_add_one, hk1]; rfl
    have mem := readM_mem (ns.take i) (bs := bs) fun j hj => hk j (List.mem_of_mem_take hj)
    have lr := readM_len (ns.take i) bs
    rw [List.length_take] at lr
    rw [et, readM_snoc, behindM_snoc]
    have pm := behindM_perm _ mem
    generalize behindM bs (readM bs (ns.take i)) = cur at ho3 pm ⊢
    generalize readM bs (ns.take i) = rd at hL3 lr ⊢
    have lc := pm.length_eq
    refine ⟨_, rfl, _, rfl, o, _, _, .str (nth cur k), rfl, rfl, ho3.sqt, at_of (j := k) rfl (by rw [List.getElem?_map, nth_get (by omega)]; rfl), ?_⟩
    refine ⟨_, rfl, .inl ⟨rfl, _, sql hL3⟩, _, rfl, L, _, _, rfl, rfl, hL3, by rw [List.length_map]; exact small1000 (by omega), ?_⟩
    have sm4 : Same H (upd H3 L (.lst (rd.map V.str ++ [V.str (nth cur k)]))) := same_put sm3 hL
    have ho4 : TpO (upd H3 L (.lst (rd.map V.str ++ [V.str (nth cur k)]))) o (cur.map V.str) := ho3.move fun u hu => by
      rw [upd_ne (ho3.ne hL3 fun o z => nomatch z)]
      exact hu
    refine ⟨_, rfl, _, rfl, o, cur, nth cur k, rfl, ho4, nth_mem (by omega), by omega, fun c H5 s5 hc => ?_⟩
    refine ⟨c, some (natV k), some (.str (nth cur k)), rfl, sm4.trans s5, s5 _ _ (by rw [upd_ne nLl.symm]; exact hl3), hc, s5 _ _ ?_⟩
    rw [upd_same, List.map_append]
    rfl
  · rintro σ H3 ⟨o, y4, y5, rfl, sm3, hl3, ho3, hL3⟩
    rw [ln, List.take_length] at hL3
    exact ⟨_, rfl, q L H3 sm3 hL hL3⟩
end
end Lt

set_option Elab.async false
set_option linter.all false
set_option maxRecDepth 100000
set_option maxHeartbeats 4000000
namespace Lt
open PySem PySem.Spec PyProof.Rows L2
theorem eqvAll_refl {n : Nat} {d : PyData} (h : Fine n d) : PyData.eqv d d = true := fine_eqv h
theorem dpAll_nats {K : PySem.W.Frag} {H : Hp} : ∀ ns : List Nat, DpAll K H (ns.map natV) (ns.map fun k => PyData.int (k : Nat))
  | [] => .nil
  | x :: r => .cons (.int _) (dpAll_nats r)
theorem fineN {ns : List Nat} (hl : ns.length ≤ 1000) (n : Nat) : Fine (n + 1) (.list (ns.map fun k => PyData.int (k : Nat))) :=
  ⟨by rw [List.length_map]; exact hl, fun d hd => by
    obtain ⟨k, _, rfl⟩ := List.mem_map.mp hd
    cases n <;> trivial⟩
theorem fineS {ss : List Str} (hl : ss.length ≤ 1000) (ok : ∀ b ∈ ss, b ∈ books) (n : Nat) : Fine (n + 1) (.list (ss.map PyData.str)) := fine_strs hl (fun b hb => books_ok b (ok b hb)) n
theorem fineT {ss : List Str} (hl : ss.length ≤ 1000) (ok : ∀ b ∈ ss, b ∈ books) (n : Nat) : Fine (n + 1) (.tuple (ss.map PyData.str)) := fine_strs hl (fun b hb => books_ok b (ok b hb)) n
theorem fine2 {a b : PyData} {n : Nat} (ha : Fine n a) (hb : Fine n b) : Fine (n + 1) (.tuple [a, b]) := ⟨by show 2 ≤ 1000; decide, fun d hd => by
  rcases List.mem_cons.mp hd with e | hd
  · rw [e]
    exact ha
  · rw [List.mem_singleton.mp hd]
    exact hb⟩
theorem books_names : ∀ b ∈ books, nameD (.str b) = true := by decide +kernel
theorem books_len : ∀ b ∈ books, b.length ≤ 1000 := by decide +kernel
theorem pile_yes {bs : List Str} (h : IsPile bs) : pileD (.tuple (bs.map PyData.str)) = true := by
  have e : (bs.map PyData.str).all nameD = true := List.all_eq_true.mpr fun d hd => by
    obtain ⟨b, hb, rfl⟩ := List.mem_map.mp hd
    exact books_names b (h.ok b hb)
  have p := h.pos
  have m := h.most
  have d : dist bs = bs.length := (dist_of h.nd fun z => Iff.rfl).symm
  rw [pileD_tup, e, txts_map, List.length_map, d, decide_eq_true (show 1 ≤ bs.length from p), decide_eq_true m, decide_eq_true rfl]
  rfl
theorem lifted_lt : ∀ (rs : List Str) {bs : List Str}, (∀ b ∈ rs, b ∈ bs) → ∀ k ∈ liftedM bs rs, k < bs.length
  | [], _, _, k, hk => nomatch hk
  | b :: r, bs, h, k, hk => by
    have hb := h b (List.mem_cons_self ..)
    have p := lay_perm hb
    rcases List.mem_cons.mp (show k ∈ bs.idxOf b :: liftedM (lay bs b) r from hk) with e | hk
    · rw [e]
      exact idx_lt hb
    · have z := lifted_lt r (bs := lay bs b) (fun c hc => p.mem_iff.mpr (h c (List.mem_cons_of_mem _ hc))) k hk
      rw [p.length_eq] at z
      exact z
abbrev nLaw : List Str := ["script", "tape", "turn", "pile", "readings", "there", "numbers", "rows", "some", "told", "ahead", "back", "k"]
theorem scLaw : FnScope nLaw ["script"] (defScope sLaw) := ⟨rfl, rfl, rfl, by decide +kernel, rfl, by decide +kernel, by decide +kernel⟩
/-- what stands through a turn -/
structure T7 (H : Hp) (T S p Pn Pp : Addr) (ns : List Int) (bs : List Str) : Prop where
  tp : Tape H T S ns
  hp : TpO H p (bs.map V.str)
  tn : GxR.TabG H Pn
  tq : GxR.TabG H Pp
theorem T7.same {H H' : Hp} {T S p Pn Pp : Addr} {ns : List Int} {bs : List Str} (h : T7 H T S p Pn Pp ns bs) (s : Same H H') : T7 H' T S p Pn Pp ns bs := ⟨h.tp.same s, h.hp.same s, tabG_same h.tn s, tabG_same h.tq s⟩
section
variable {P : Program} {w : World} {K : PySem.W.Frag} {mg : Str → Option Value} {base : Heap} {X : Cx}
def spLaw7 (K : PySem.W.Frag) (Pn Pp : Addr) : Sp := fun vs H Q _ => ∃ (a : Addr) (ns : List Int), vs = [.ref a] ∧ SqL K H a (ns.map V.int) ∧ ns.length ≤ 63 ∧ GxR.TabG H Pn ∧ GxR.TabG H Pp ∧ ∀ H', Q (.bl true) H'
theorem ok_law {f Pn Pp : Addr} {fd : FuncData} (F : Fun K "law" "law" sLaw f fd) (B : Bi mg) (cD : Has P w K mg base 1 "_law_draw" ["tape", "many"] spDraw) (cPi : Has P w K mg base 3 "_law_pile" ["tape", "size"] spPile)
    (cRe : Has P w K mg base 2 "_law_readings" ["tape", "books", "size"] spReadings) (cRd : Has P w K mg base 1 "_law_read" ["pile", "readings"] spReadZ)
    (cLk : Has P w K mg base 3 "_law_like" ["one", "two"] (spLike K 3)) (cRb : Has P w K mg base 2 "readings_by" ["pile", "numbers"] (spReadBy K)) (cUn : Has P w K mg base 2 "undone" ["pile", "numbers"] (spUndone K))
    (cBe : Has P w K mg base 2 "behind" ["pile", "readings"] spBehind) (cLi : Has P w K mg base 2 "lifted" ["pile", "readings"] spLifted) (cIp : Has P w K mg base 3 "is_pile" ["thing"] (spIsPile K Pn Pp)) : FnOk P w K mg base CX0 4 f fd ["script"] (spLaw7 K Pn Pp) := by
  refine F.ok scLaw (fun vs H Q E h => ?_) (fun cdv A outer s H vs Q E hr h => ?_)
  · obtain ⟨a, ns, rfl, _⟩ := h
    rfl
  obtain ⟨a, ns, rfl, hS, h63, tn, tq, q⟩ := h
  refine ⟨_, pss_cons (ps_set (i := 1) scLaw.nd rfl (.inr rfl) (pe_lst (pa_cons (pe_callTy call_list_of (by rfl) B.list (by decide +kernel) (pa_cons (pv 0) pa_nil)) (pa_cons pe_int (pa_cons pe_int pa_nil)))))
    (pss_cons (ps_for PassesOwn.never rfl (pi_range1 (by rfl) B.range (pa_cons pe_int pa_nil)) (pg_name (i := 2) scLaw.nd rfl (.inl rfl))
      (pss_cons (ps_set (i := 3) scLaw.nd rfl (.inr rfl) (pe_go cPi hr (by decide) rfl (pa_cons (pv 1) (pa_cons pe_int pa_nil))))
      (pss_cons (ps_set (i := 4) scLaw.nd rfl (.inl rfl) (pe_go cRe hr (by decide) rfl (pa_cons (pv 1) (pa_cons (pv 3) (pa_cons pe_int pa_nil)))))
      (pss_cons (ps_asg (pe_go cRd hr (by decide) rfl (pa_cons (pv 3) (pa_cons (pv 4) pa_nil))) (pg_tup rfl (pgs_cons (pg_name (i := 5) scLaw.nd rfl (.inl rfl)) (pgs_cons (pg_name (i := 6) scLaw.nd rfl (.inl rfl)) (pgs_cons (pg_name (i := 7) scLaw.nd rfl (.inl rfl)) pgs_nil)))))
      (pss_cons (ps_if (pt_not (pt_val (pe_go cLk hr (by decide) rfl (pa_cons (pe_go cRb hr (by decide) rfl (pa_cons (pv 3) (pa_cons (pv 6) pa_nil))) (pa_cons (pv 4) pa_nil))))) (pss_one (ps_ret pe_bl)) pss_nil)
      (pss_cons (ps_if (pt_not (pt_val (pe_go cLk hr (by decide) rfl (pa_cons (pe_go cUn hr (by decide) rfl (pa_cons (pv 5) (pa_cons (pv 6) pa_nil))) (pa_cons (pe_tup (pa_cons (pv 3) (pa_cons (pv 4) pa_nil))) pa_nil))))) (pss_one (ps_ret pe_bl)) pss_nil)
      (pss_cons (ps_setLc (i := 8) (own := [("k", 12)]) (g := gName 12) (tt := tYes) (by rfl) scLaw.nd rfl rfl (sw_true rfl rfl rfl (by decide +kernel)) (pi_range1 (by rfl) B.range (pa_cons (pe_go cD hr (by decide) rfl (pa_cons (pv 1) (pa_cons pe_int pa_nil))) pa_nil))
        (blkOk_by (own := [("k", 12)]) (N := nLaw) (sc := defScope sLaw) (by decide +kernel)) (fun _ _ _ _ _ => pg_name (i := 12) scLaw.nd rfl (.inl rfl)) (fun _ _ _ _ _ => pts_nil)
        (fun _ _ _ _ _ => pe_go cD hr (by decide) rfl (pa_cons (pv 1) (pa_cons (pe_callB (cLen (K := K) rfl) (by rfl) B.len PySem.boot_len (pa_cons (pv 3) pa_nil)) pa_nil))))
      (pss_cons (ps_set (i := 9) scLaw.nd rfl (.inl rfl) (pe_go cRb hr (by decide) rfl (pa_cons (pv 3) (pa_cons (pv 8) pa_nil))))
      (pss_cons (ps_if (PW.pt (pw_or (pt_cmpR (op_neD hr.units) (pe_ix ix_tup (pe_go cRd hr (by decide) rfl (pa_cons (pv 3) (pa_cons (pv 9) pa_nil))) pe_int (fun _ _ => rfl)) (pv 8) (nomark _))
        (pw_or1 (pt_cmpR (op_neD hr.units) (pe_go cLi hr (by decide) rfl (pa_cons (pv 3) (pa_cons (pv 9) pa_nil))) (pv 8) (nomark _))))) (pss_one (ps_ret pe_bl)) pss_nil)
      (pss_cons (ps_asg (pe_go cUn hr (by decide) rfl (pa_cons (pv 3) (pa_cons (pv 8) pa_nil))) (pg_tup rfl (pgs_cons (pg_name (i := 10) scLaw.nd rfl (.inl rfl)) (pgs_cons (pg_name (i := 11) scLaw.nd rfl (.inl rfl)) pgs_nil))))
      (pss_cons (ps_if (PW.pt (pw_or (pt_cmpR (op_neD hr.units) (pe_slice sl_tupA (pe_go cRd hr (by decide) rfl (pa_cons (pv 10) (pa_cons (pv 11) pa_nil))) po_none (po_some pe_int)) (pe_tup (pa_cons (pv 3) (pa_cons (pv 8) pa_nil))) (nomark _))
        (pw_or1 (pt_cmpR op_notBl (pe_go cIp hr (by decide) rfl (pa_cons (pv 10) pa_nil)) pe_bl (nomark _))))) (pss_one (ps_ret pe_bl)) pss_nil)
      (pss_one (ps_if (PW.pt (pw_or (pt_cmpR (op_neD hr.units) (pe_go cRb hr (by decide) rfl (pa_cons (pv 10) (pa_cons (pv 8) pa_nil))) (pv 11) (nomark _))
        (pw_or1 (pt_cmpR (op_neD hr.units) (pe_go cUn hr (by decide) rfl (pa_cons (pe_go cBe hr (by decide) rfl (pa_cons (pv 3) (pa_cons (pv 9) pa_nil))) (pa_cons (pv 8) pa_nil))) (pe_tup (pa_cons (pv 3) (pa_cons (pv 9) pa_nil))) (nomark _))))) (pss_one (ps_ret pe_bl)) pss_nil)))))))))))))
    (pss_one (ps_ret (pe_and (pe_cmpR (op_eqD hr.units) (pe_go cRb hr (by decide) rfl (pa_cons (pe_tupZ (pa_cons pe_str pa_nil)) (pa_cons (pe_lst pa_nil) pa_nil))) (pe_lst pa_nil) (nomark _))
      (pe_one (pe_cmpR (op_eqD hr.units) (pe_go cUn hr (by decide) rfl (pa_cons (pe_tupZ (pa_cons pe_str (pa_cons pe_str pa_nil))) (pa_cons (pe_lst pa_nil) pa_nil))) (pe_tup (pa_cons (pe_tup (pa_cons pe_str (pa_cons pe_str pa_nil))) (pa_cons (pe_lst pa_nil) pa_nil))) (nomark _))))))), ?_⟩
  refine ⟨_, rfl, a, _, rfl, .inl hS, fun S hS0 => ⟨(by show 3 ≤ sizeLine; decide), fun T hT0 => ?_⟩⟩
  have sm0 : Same H (upd (upd H S (.lst (ns.map V.int))) T (.lst [.ref S, .int 0, .int 0])) := (same_new hS0 _).trans (same_new hT0 _)
  have tn0 := tabG_same tn sm0
  have tq0 := tabG_same tq sm0
  have tp0 : Tape (upd (upd H S (.lst (ns.map V.int))) T (.lst [.ref S, .int 0, .int 0])) T S ns := ⟨⟨0, 0, upd_same⟩, by rw [upd_ne (ne_of_none upd_same hT0)]; exact upd_same⟩
  generalize upd (upd H S (.lst (ns.map V.int))) T (.lst [.ref S, .int 0, .int 0]) = H0 at tp0 tn0 tq0 ⊢
  refine ⟨5, rfl, by decide, by decide, for_range (lo := 0) (n := 5) (fun i σ H' => ∃ y2 y3 y4 y5 y6 y7 y8 y9 y10 y11 : Option V, σ = [some (.ref a), some (.ref T), y2, y3, y4, y5, y6, y7, y8, y9, y10, y11, none] ∧ Tape H' T S ns ∧ GxR.TabG H' Pn ∧ GxR.TabG H' Pp)
    ⟨none, none, none, none, none, none, none, none, none, none, rfl, tp0, tn0, tq0⟩ ?_ ?_⟩
  · rintro i σ H1 hi ⟨y2, y3, y4, y5, y6, y7, y8, y9, y10, y11, rfl, tp1, tn1, tq1⟩
    -- pile, readings
    refine ⟨_, rfl, T, S, ns, 7, rfl, tp1, by decide, by decide, fun p H2 bs sm2 tp2 np hp bsOk _ => ?_⟩
    have npT : p ≠ T := by
      obtain ⟨i', c, hT⟩ := tp2.at_
      exact hp.ne hT (fun o z => nomatch z)
    have lstT : ∀ {H' : Hp}, Tape H' T S ns → ∃ xs, H' T = some (.lst xs) := fun t => by
      obtain ⟨i', c, hT⟩ := t.at_
      exact ⟨_, hT⟩
    have b0 := bsOk.pos
    have b7 := bsOk.most
    have lb : (bs.map V.str).length = bs.length := List.length_map _
    have t2 : T7 H2 T S p Pn Pp ns bs := ⟨tp2, hp, tabG_but tn1 sm2 (lstT tp1), tabG_but tq1 sm2 (lstT tp1)⟩
    refine ⟨_, rfl, _, rfl, T, S, p, ns, bs, 60, rfl, tp2, hp, bsOk.pos, bsOk.most, by decide, by decide, fun rd H3 rs sm3 tp3 nrd hrd lrs mrs => ?_⟩
    have t3 : T7 H3 T S p Pn Pp ns bs := ⟨tp3, hp.sameT sm3 npT, tabG_but t2.tn sm3 (lstT tp2), tabG_but t2.tq sm3 (lstT tp2)⟩
    have r60 : rs.length ≤ 60 := by omega
    have okR : ∀ b ∈ rs, b ∈ books := fun b hb => bsOk.ok b (mrs b hb)
    -- there, numbers, rows
    refine ⟨_, rfl, _, rfl, p, rd, bs, rs, rfl, t3.hp, hrd, b7, r60, mrs, fun tt an nn ro H4 ts s4 htt han hnn hro pl => ?_⟩
    refine ⟨tt, _, rfl, sqt htt, rfl, _, _, rfl, _, _, rfl, _, _, rfl, rfl, ?_⟩
    have t4 := t3.same s4
    have hrd4 := s4 _ _ hrd
    have lnum : (liftedM bs rs).length ≤ 60 := by rw [liftedM_len]; exact r60
    -- readings_by(pile, numbers)
    refine ⟨_, rfl, _, rfl, p, nn, bs, liftedM bs rs, rfl, t4.hp, sql hnn, lifted_lt rs mrs, by omega, by omega, fun rb H5 s5 nrb hrb => ?_⟩
    rw [read_lifted rs mrs] at hrb
    refine ⟨_, rfl, _, _, _, 2, rfl, rfl, .lst (sql hrb) (dpAll_strs rs), .lst (sql (s5 _ _ hrd4)) (dpAll_strs rs), fineS (by omega) okR 1, fun H6 s6 => ⟨true, rfl, ?_⟩⟩
    have s46 := s5.trans s6
    have t6 := t4.same s46
    have hrd6 := s46 _ _ hrd4
    -- undone(there, numbers)
    have pmb := behindM_perm rs mrs
    refine ⟨_, rfl, _, rfl, an, nn, behindM bs rs, liftedM bs rs, rfl, han.same s46, sql (s46 _ _ hnn), fun k hk => by rw [pmb.length_eq]; exact lifted_lt rs mrs k hk, by rw [pmb.length_eq]; omega, by omega, fun ut uo ur H7 s7 hut huo hur => ?_⟩
    obtain ⟨u1, u2⟩ := undo_of rs mrs
    rw [u1] at huo
    rw [u2, List.reverse_reverse] at hur
    have t7 := t6.same s7
    refine ⟨_, rfl, _, rfl, (by show 2 ≤ sizeLine; decide), fun w1 hw1 => ?_⟩
    have s8 := same_new hw1 (.tup [.ref p, .ref rd])
    have dU : Dp K (upd H7 w1 (.tup [.ref p, .ref rd])) (.ref ut) (.tuple [.tuple (bs.map PyData.str), .list (rs.map PyData.str)]) := .tup (sqt (s8 _ _ hut)) (.cons (.tup (huo.same s8).sqt (dpAll_strs bs)) (.cons (.lst (sql (s8 _ _ hur)) (dpAll_strs rs)) .nil))
    have dW : Dp K (upd H7 w1 (.tup [.ref p, .ref rd])) (.ref w1) (.tuple [.tuple (bs.map PyData.str), .list (rs.map PyData.str)]) := .tup (sqt upd_same) (.cons (.tup (t7.hp.same s8).sqt (dpAll_strs bs)) (.cons (.lst (sql (s8 _ _ (s7 _ _ hrd6))) (dpAll_strs rs)) .nil))
    refine ⟨_, _, _, 2, rfl, rfl, dU, dW, fine2 (fineT (by omega) bsOk.ok 0) (fineS (by omega) okR 0), fun H9 s9 => ⟨true, rfl, ?_⟩⟩
    have t9 := t7.same (s8.trans s9)
    -- some
    refine ⟨_, rfl, T, S, ns, 61, rfl, t9.tp, by decide, by decide, fun r i2 c2 r0 r1 => ?_⟩
    have tp10 := t9.tp.put i2 c2
    have sm10 : SameT T H9 (upd H9 T (.lst [.ref S, .int i2, .int c2])) := sameT_put _
    generalize upd H9 T (.lst [.ref S, .int i2, .int c2]) = H10 at tp10 sm10 ⊢
    have t10 : T7 H10 T S p Pn Pp ns bs := ⟨tp10, t9.hp.sameT sm10 npT, tabG_but t9.tn sm10 (lstT t9.tp), tabG_but t9.tq sm10 (lstT t9.tp)⟩
    refine ⟨r, rfl, by omega, by omega, fun D hD => ?_⟩
    have nDT : D ≠ T := by
      obtain ⟨o, ho⟩ := tp10.taken
      exact new_ne ho hD
    refine lc_range (lo := 0) (n := r.toNat) (fun j H' => ∃ ks : List Nat, SameT T H10 H' ∧ Tape H' T S ns ∧ H' D = some (.lst (ks.map natV)) ∧ ks.length = j ∧ ∀ k ∈ ks, k < bs.length)
      ⟨[], SameT.of (same_new hD _), tp10.same (same_new hD _), upd_same, rfl, fun k hk => nomatch hk⟩ ?_ ?_
    · rintro j H11 hj ⟨ks, sm11, tp11, hD11, lk, mk⟩
      refine ⟨rfl, _, rfl, _, rfl, p, _, rfl, .inr (t10.hp.sameT sm11 npT).sqt, T, S, ns, _, rfl, tp11, by rw [lb]; omega, by rw [lb]; omega, fun r2 i3 c3 v0 v1 => ?_⟩
      rw [lb] at v1
      refine ⟨_, (by rw [upd_ne nDT]; exact hD11), by rw [List.length_map]; exact small1000 (by omega), ks ++ [r2.toNat], fun b o nb hb => ?_, ?_, ?_, ?_, ?_⟩
      · rw [upd_ne (ne_of_none hb hD)]
        exact sameT_put _ b o nb (sm11 b o nb hb)
      · have t2' := tp11.put i3 c3
        obtain ⟨x1, x2, t3'⟩ := t2'.at_
        refine ⟨⟨x1, x2, by rw [upd_ne nDT.symm]; exact t3'⟩, ?_⟩
        rw [upd_ne (ne_of_none tp10.scr hD)]
        exact t2'.scr
      · rw [upd_same, List.map_append]
        show _ = some (HO.lst (ks.map natV ++ [V.int ((r2.toNat : Nat) : Int)]))
        rw [Int.toNat_of_nonneg v0]
      · rw [List.length_append, lk]
        rfl
      · intro k hk
        rcases List.mem_append.mp hk with hk | hk
        · exact mk k hk
        · rw [List.mem_singleton.mp hk]
          omega
    · rintro H11 ⟨ks, sm11, tp11, hD11, lk, mk⟩
      have t11 : T7 H11 T S p Pn Pp ns bs := ⟨tp11, t10.hp.sameT sm11 npT, tabG_but t10.tn sm11 (lstT tp10), tabG_but t10.tq sm11 (lstT tp10)⟩
      have k60 : ks.length ≤ 60 := by omega
      have fK := fineN (ns := ks) (by omega) 0
      -- told
      refine ⟨_, rfl, _, rfl, p, D, bs, ks, rfl, t11.hp, sql hD11, mk, by omega, by omega, fun tl H12 s12 ntl htl => ?_⟩
      have t12 := t11.same s12
      have hD12 := s12 _ _ hD11
      have mtl := readM_mem ks mk
      have ltl := readM_len ks bs
      have el := lifted_read ks bsOk.nd mk
      refine ⟨_, rfl, _, rfl, p, tl, bs, readM bs ks, rfl, t12.hp, htl, b7, by omega, mtl, fun tt2 an2 nn2 ro2 H13 ts2 s13 htt2 _ hnn2 _ _ => ?_⟩
      rw [el] at hnn2
      refine ⟨tt2, _, _, _, rfl, rfl, sqt htt2, at_of (j := 1) rfl rfl, _, rfl, _, _, .lst (sql hnn2) (dpAll_nats ks), .lst (sql (s13 _ _ hD12)) (dpAll_nats ks), fine_shaped (n := 1) fK (by decide), fine_shaped (n := 1) fK (by decide), false, by rw [fine_eqv (n := 1) fK]; rfl, ?_⟩
      have t13 := t12.same s13
      refine ⟨_, rfl, _, rfl, p, tl, bs, readM bs ks, rfl, t13.hp, s13 _ _ htl, by omega, by omega, mtl, fun li H14 s14 nli hli => ?_⟩
      rw [el] at hli
      refine ⟨_, rfl, _, _, .lst (sql hli) (dpAll_nats ks), .lst (sql (s14 _ _ (s13 _ _ hD12))) (dpAll_nats ks), fine_shaped (n := 1) fK (by decide), fine_shaped (n := 1) fK (by decide), false, by rw [fine_eqv (n := 1) fK]; rfl, ?_⟩
      have s1214 := s13.trans s14
      have t14 := t12.same s1214
      have hD14 := s1214 _ _ hD12
      have htl14 := s1214 _ _ htl
      -- ahead, back
      refine ⟨_, rfl, _, rfl, p, D, bs, ks, rfl, t14.hp, sql hD14, mk, by omega, by omega, fun ut ah bk H15 s15 hut hah hbk => ?_⟩
      refine ⟨ut, _, rfl, sqt hut, rfl, _, _, rfl, _, _, rfl, rfl, ?_⟩
      have t15 := t14.same s15
      have hD15 := s15 _ _ hD14
      have htl15 := s15 _ _ htl14
      obtain ⟨e1, e2⟩ := redo_of ks.reverse bsOk.nd fun k hk => mk k (List.mem_reverse.mp hk)
      rw [List.reverse_reverse] at e2
      have pA := unR_perm bs ks.reverse
      have mB : ∀ b ∈ (hdR bs ks.reverse).reverse, b ∈ unR bs ks.reverse := fun b hb => pA.mem_iff.mpr (hdR_mem _ _ b (List.mem_reverse.mp hb))
      have lB : (hdR bs ks.reverse).reverse.length = ks.length := by rw [List.length_reverse, hdR_len _ _ b0, List.length_reverse]
      generalize unR bs ks.reverse = av at hah e1 e2 pA mB
      generalize (hdR bs ks.reverse).reverse = bv at hbk e1 e2 mB lB
      have aOk : IsPile av := ⟨pA.nodup_iff.mpr bsOk.nd, by rw [pA.length_eq]; exact b0, by rw [pA.length_eq]; exact b7, fun b hb => bsOk.ok b (pA.mem_iff.mp hb)⟩
      have okBv : ∀ b ∈ bv, b ∈ books := fun b hb => aOk.ok b (mB b hb)
      refine ⟨_, rfl, _, rfl, ah, bk, av, bv, rfl, hah, hbk, aOk.most, by omega, mB, fun tt3 an3 nn3 ro3 H16 ts3 s16 htt3 han3 hnn3 _ _ => ?_⟩
      rw [e1] at han3
      rw [e2] at hnn3
      refine ⟨_, rfl, tt3, _, rfl, sqt htt3, fun z => absurd (show (2 : Nat) = 3 from z.2) (by decide), fun _ cu hcu => ?_⟩
      have s17 := same_new hcu (.tup (cutV [V.ref an3, V.ref nn3, V.ref ro3] none (some 2)))
      have hcu17 : upd H16 cu (.tup (cutV [V.ref an3, V.ref nn3, V.ref ro3] none (some 2))) cu = some (.tup [V.ref an3, V.ref nn3]) := upd_same
      generalize upd H16 cu (.tup (cutV [V.ref an3, V.ref nn3, V.ref ro3] none (some 2))) = H17 at s17 hcu17 ⊢
      refine ⟨_, rfl, _, rfl, (by show 2 ≤ sizeLine; decide), fun w2 hw2 => ?_⟩
      have s18 := same_new hw2 (.tup [.ref p, .ref D])
      have s1518 := s16.trans (s17.trans s18)
      have s1618 := s17.trans s18
      have t18 := t15.same s1518
      have fP : Fine 2 (.tuple [.tuple (bs.map PyData.str), .list (ks.map fun k => PyData.int (k : Nat))]) := fine2 (fineT (by omega) bsOk.ok 0) fK
      have dC : Dp K (upd H17 w2 (.tup [.ref p, .ref D])) (.ref cu) (.tuple [.tuple (bs.map PyData.str), .list (ks.map fun k => PyData.int (k : Nat))]) := .tup (sqt (s18 _ _ hcu17)) (.cons (.tup (han3.same s1618).sqt (dpAll_strs bs)) (.cons (.lst (sql (s1618 _ _ hnn3)) (dpAll_nats ks)) .nil))
      have dE : Dp K (upd H17 w2 (.tup [.ref p, .ref D])) (.ref w2) (.tuple [.tuple (bs.map PyData.str), .list (ks.map fun k => PyData.int (k : Nat))]) := .tup (sqt upd_same) (.cons (.tup t18.hp.sqt (dpAll_strs bs)) (.cons (.lst (sql (s1518 _ _ hD15)) (dpAll_nats ks)) .nil))
      refine ⟨_, _, dC, dE, fine_shaped (n := 2) fP (by decide), fine_shaped (n := 2) fP (by decide), false, by rw [fine_eqv (n := 2) fP]; rfl, ?_⟩
      have hah18 := hah.same s1518
      have hbk18 := s1518 _ _ hbk
      have hD18 := s1518 _ _ hD15
      have htl18 := s1518 _ _ htl15
      generalize upd H17 w2 (.tup [.ref p, .ref D]) = H18 at t18 hah18 hbk18 hD18 htl18 ⊢
      -- is_pile(ahead)
      refine ⟨_, rfl, .ref ah, .tuple (av.map PyData.str), rfl, .tup hah18.sqt (dpAll_strs av), fun ds e z hz => ?_, t18.tn, t18.tq, fun H19 sn nn tn19 tq19 => ?_⟩
      · cases e
        obtain ⟨bb, hb, ez⟩ := List.mem_map.mp hz
        injection ez with ez
        rw [← ez]
        exact books_len bb (aOk.ok bb hb)
      rw [pile_yes aOk]
      refine ⟨_, _, rfl, rfl, false, rfl, ?_⟩
      have t19 : T7 H19 T S p Pn Pp ns bs := ⟨t18.tp.sameN sn, t18.hp.sameN sn, tn19, tq19⟩
      have hah19 := hah18.sameN sn
      have hbk19 := sn.lstH hbk18
      have hD19 := sn.lstH hD18
      have htl19 := sn.lstH htl18
      -- readings_by(ahead, some) != back
      refine ⟨_, rfl, _, rfl, ah, D, av, ks, rfl, hah19, sql hD19, fun k hk => by rw [pA.length_eq]; exact mk k hk, by rw [pA.length_eq]; omega, by omega, fun rb2 H20 s20 nrb2 hrb2 => ?_⟩
      have e3 : readM av ks = bv := by rw [← e2]; exact read_lifted bv mB
      rw [e3] at hrb2
      have fB := fineS (ss := bv) (by omega) okBv 0
      refine ⟨_, rfl, _, _, .lst (sql hrb2) (dpAll_strs bv), .lst (sql (s20 _ _ hbk19)) (dpAll_strs bv), fine_shaped (n := 1) fB (by decide), fine_shaped (n := 1) fB (by decide), false, by rw [fine_eqv (n := 1) fB]; rfl, ?_⟩
      have t20 := t19.same s20
      -- undone(behind(pile, told), some)
      refine ⟨_, rfl, _, rfl, p, tl, bs, readM bs ks, rfl, t20.hp, s20 _ _ htl19, by omega, mtl, fun be H21 s21 hbe => ?_⟩
      have pm2 := behindM_perm _ mtl
      refine ⟨_, rfl, be, D, behindM bs (readM bs ks), ks, rfl, hbe, sql (s21 _ _ (s20 _ _ hD19)), fun k hk => by rw [pm2.length_eq]; exact mk k hk, by rw [pm2.length_eq]; omega, by omega, fun ut2 uo2 ur2 H22 s22 hut2 huo2 hur2 => ?_⟩
      obtain ⟨v1, v2⟩ := undo_of (readM bs ks) mtl
      rw [el] at v1 v2
      rw [v1] at huo2
      rw [v2, List.reverse_reverse] at hur2
      have s2022 := s21.trans s22
      refine ⟨_, rfl, _, rfl, (by show 2 ≤ sizeLine; decide), fun w3 hw3 => ?_⟩
      have s23 := same_new hw3 (.tup [.ref p, .ref tl])
      have okT : ∀ b ∈ readM bs ks, b ∈ books := fun b hb => bsOk.ok b (mtl b hb)
      have fE : Fine 2 (.tuple [.tuple (bs.map PyData.str), .list ((readM bs ks).map PyData.str)]) := fine2 (fineT (by omega) bsOk.ok 0) (fineS (by omega) okT 0)
      have t23 := (t20.same s2022).same s23
      have dG : Dp K (upd H22 w3 (.tup [.ref p, .ref tl])) (.ref ut2) (.tuple [.tuple (bs.map PyData.str), .list ((readM bs ks).map PyData.str)]) := .tup (sqt (s23 _ _ hut2)) (.cons (.tup (huo2.same s23).sqt (dpAll_strs bs)) (.cons (.lst (sql (s23 _ _ hur2)) (dpAll_strs _)) .nil))
      have dI : Dp K (upd H22 w3 (.tup [.ref p, .ref tl])) (.ref w3) (.tuple [.tuple (bs.map PyData.str), .list ((readM bs ks).map PyData.str)]) := .tup (sqt upd_same) (.cons (.tup t23.hp.sqt (dpAll_strs bs)) (.cons (.lst (sql (s23 _ _ (s2022 _ _ (s20 _ _ htl19)))) (dpAll_strs _)) .nil))
      refine ⟨_, _, dG, dI, fine_shaped (n := 2) fE (by decide), fine_shaped (n := 2) fE (by decide), false, by rw [fine_eqv (n := 2) fE]; rfl, ?_⟩
      exact ⟨_, _, _, _, _, _, _, _, _, _, rfl, t23.tp, t23.tn, t23.tq⟩
  · rintro σ H1 ⟨y2, y3, y4, y5, y6, y7, y8, y9, y10, y11, rfl, tp1, tn1, tq1⟩
    refine ⟨(by show 1 ≤ sizeLine; decide), fun p1 u1 hp1 hu1 => ⟨Nat.zero_le _, fun n1 hn1 => ?_⟩⟩
    have s2 := same_new hn1 (.lst [])
    refine ⟨p1, n1, ["a"], [], rfl, (TpO.new hu1).same s2, sql upd_same, (fun k hk => nomatch hk), by decide, by decide, fun rb H3 s3 nrb hrb => ?_⟩
    refine ⟨Nat.zero_le _, fun n2 hn2 => ?_⟩
    have s4 := same_new hn2 (.lst [])
    refine ⟨.list [], .list [], .lst (sql (s4 _ _ hrb)) .nil, .lst (sql upd_same) .nil, by decide +kernel, by decide +kernel, true, by simp [PyData.eqv, PyData.eqvAll], ?_⟩
    refine ⟨(by show 2 ≤ sizeLine; decide), fun p3 u3 hp3 hu3 => ⟨Nat.zero_le _, fun n3 hn3 => ?_⟩⟩
    have s5 := same_new hn3 (.lst [])
    refine ⟨p3, n3, ["a", "b"], [], rfl, (TpO.new hu3).same s5, sql upd_same, (fun k hk => nomatch hk), by decide, by decide, fun ut uo ur H6 s6 hut huo hur => ?_⟩
    refine ⟨(by show 2 ≤ sizeLine; decide), fun w1 hw1 => ⟨Nat.zero_le _, fun n4 hn4 => ⟨(by show 2 ≤ sizeLine; decide), fun w2 hw2 => ?_⟩⟩⟩
    have s7 := same_new hw1 (.tup [V.str "a", V.str "b"])
    have s8 := same_new hn4 (.lst [])
    have s9 := same_new hw2 (.tup [V.ref w1, V.ref n4])
    have s79 := s7.trans (s8.trans s9)
    have d1 : Dp K (upd (upd (upd H6 w1 (.tup [V.str "a", V.str "b"])) n4 (.lst [])) w2 (.tup [V.ref w1, V.ref n4])) (.ref ut) (.tuple [.tuple [.str "a", .str "b"], .list []]) := .tup (sqt (s79 _ _ hut)) (.cons (.tup (huo.same s79).sqt (dpAll_strs ["a", "b"])) (.cons (.lst (sql (s79 _ _ hur)) .nil) .nil))
    have d2 : Dp K (upd (upd (upd H6 w1 (.tup [V.str "a", V.str "b"])) n4 (.lst [])) w2 (.tup [V.ref w1, V.ref n4])) (.ref w2) (.tuple [.tuple [.str "a", .str "b"], .list []]) := .tup (sqt upd_same) (.cons (.tup (sqt (s9 _ _ (s8 _ _ upd_same))) (dpAll_strs ["a", "b"])) (.cons (.lst (sql (s9 _ _ upd_same)) .nil) .nil))
    have fZ : Fine 2 (.tuple [.tuple [.str "a", .str "b"], .list []]) := fine2 (n := 1) (fine_strs (ss := ["a", "b"]) (by decide) (by decide +kernel) 0) ⟨by decide, fun d hd => nomatch hd⟩
    refine ⟨_, _, d1, d2, fine_shaped fZ (by decide), fine_shaped fZ (by decide), ?_⟩
    rw [fine_eqv fZ]
    exact q _
end
end Lt

set_option Elab.async false
set_option linter.all false
set_option maxRecDepth 100000
set_option maxHeartbeats 0
namespace Lt
open PySem PySem.Spec PyProof.Rows L2
def dd0 : He.DefD := ⟨("is_name", none), "is_name", "is_name", defArgs sIsName, defBody sIsName, defScope sIsName, [], []⟩
def dd1 : He.DefD := ⟨("is_pile", none), "is_pile", "is_pile", defArgs sIsPile, defBody sIsPile, defScope sIsPile, [], []⟩
def dd2 : He.DefD := ⟨("behind", none), "behind", "behind", defArgs sBehind, defBody sBehind, defScope sBehind, [], []⟩
def dd3 : He.DefD := ⟨("lifted", none), "lifted", "lifted", defArgs sLifted, defBody sLifted, defScope sLifted, [], []⟩
def dd4 : He.DefD := ⟨("laid_on_top", none), "laid_on_top", "laid_on_top", defArgs sLaid, defBody sLaid, defScope sLaid, [], []⟩
def dd5 : He.DefD := ⟨("readings_by", none), "readings_by", "readings_by", defArgs sReadBy, defBody sReadBy, defScope sReadBy, [], []⟩
def dd6 : He.DefD := ⟨("undone", none), "undone", "undone", defArgs sUndone, defBody sUndone, defScope sUndone, [], []⟩
def dd7 : He.DefD := ⟨("liftable", none), "liftable", "liftable", defArgs sLiftable, defBody sLiftable, defScope sLiftable, [], []⟩
def dd8 : He.DefD := ⟨("put_back", none), "put_back", "put_back", defArgs sPut, defBody sPut, defScope sPut, [], []⟩
def dd9 : He.DefD := ⟨("_law_draw", none), "_law_draw", "_law_draw", defArgs sDraw, defBody sDraw, defScope sDraw, [], []⟩
def dd10 : He.DefD := ⟨("_law_like", none), "_law_like", "_law_like", defArgs sLike, defBody sLike, defScope sLike, [], []⟩
def dd11 : He.DefD := ⟨("_law_any_order", none), "_law_any_order", "_law_any_order", defArgs sOrder, defBody sOrder, defScope sOrder, [], []⟩
def dd12 : He.DefD := ⟨("_law_books", none), "_law_books", "_law_books", defArgs sBooks, defBody sBooks, defScope sBooks, [], []⟩
def dd13 : He.DefD := ⟨("_law_pile", none), "_law_pile", "_law_pile", defArgs sPile, defBody sPile, defScope sPile, [], []⟩
def dd14 : He.DefD := ⟨("_law_readings", none), "_law_readings", "_law_readings", defArgs sReadings, defBody sReadings, defScope sReadings, [], []⟩
def dd15 : He.DefD := ⟨("_law_read", none), "_law_read", "_law_read", defArgs sRead, defBody sRead, defScope sRead, [], []⟩
def dd16 : He.DefD := ⟨("law", none), "law", "law", defArgs sLaw, defBody sLaw, defScope sLaw, [], []⟩
def defsAt : List He.DefD := [dd0, dd1, dd2, dd3, dd4, dd5, dd6, dd7, dd8, dd9, dd10, dd11, dd12, dd13, dd14, dd15, dd16]
def factsAt : List He.Fa := [.glo "is_name", .glo "is_pile", .glo "behind", .glo "lifted", .glo "laid_on_top", .glo "readings_by", .glo "undone", .glo "liftable", .glo "put_back", .glo "_law_draw", .glo "_law_like", .glo "_law_any_order", .glo "_law_books", .glo "_law_pile", .glo "_law_readings", .glo "_law_read", .glo "law", .free "len", .free "range", .free "tuple", .free "list", .free "sorted", .free "enumerate", .free "isinstance", .free "bool", .free "set", .free "sum", .free "min", .free "max", .free "dict", .free "reversed", .free "all", .free "any", .free "int", .free "str", .free "zip", .int "LONGEST_NAME" 8, .int "MOST_BOOKS" 7]
def tab0 : He.Defn := ("is_name", none)
def tab1 : He.Defn := ("is_pile", none)
def tabsAt : List He.Defn := [tab0, tab1]
abbrev rowX : PySem.W.OpenRow := PySem.W.OpenLaw.row PySem.Challenge.rw_laidontop_k07_whole_numbers_tell_the_rea
abbrev hookAt : PySem.W.Hook := He.hookX 4 factsAt defsAt [] tabsAt fun _ => true
def seenAt (s : PySem.W.SharedT) : He.AlX := He.obsX 4 factsAt defsAt [] tabsAt (fun _ => true) (HandSHeadRun.getT s)
theorem seenAt_eq (s : PySem.W.SharedT) : seenAt s = hookAt.obs s.abs := He.obsX_eq (HandSHeadRun.getT_eq s)
def namesAt : List Str := ["LONGEST_NAME", "is_name", "MOST_BOOKS", "is_pile", "behind", "lifted", "laid_on_top", "readings_by", "undone", "liftable", "put_back", "_law_draw", "_law_like", "_law_any_order", "_law_books", "_law_pile", "_law_readings", "_law_read"]
theorem runAt (w : World) : HandSHeadRun.RunEq rowX (PySem.W.view rowX.prog [22]) hookAt seenAt 2000 namesAt w := by
  intro os
  kernel_rfl
theorem fun_of {K : PySem.W.Frag} {x y : Str} {st : Stmt} {f : Addr} {fd : FuncData} (F : FunD K x y (defArgs st) (defBody st) (defScope st) [] [] f fd) : Fun K x y st f fd := by
  obtain ⟨oc, od, dV, kV, doc, pm, an, cdv, ct, sl, e, lk, cd, dfl, _⟩ := F.ex
  rcases dfl with ⟨_, rfl⟩ | ⟨no, _⟩
  · exact ⟨⟨oc, od, kV, doc, pm, an, cdv, ct, sl, e, lk, cd⟩, F.kp⟩
  · exact absurd rfl no
theorem code_at {K : PySem.W.Frag} {x y : Str} {st : Stmt} {p : He.Defn} {fd : FuncData} (F : Fun K x y st (He.fAd K p) fd) : fd.code = .ref (He.cT K p).1 := by
  obtain ⟨oc, od, kV, doc, pm, an, cdv, ct, sl, rfl, lk, cd⟩ := F.ex
  obtain ⟨c, rfl⟩ := He.codeIn_ref cd
  have e := He.codeOf_eq (c := c) lk rfl
  show Value.ref c = .ref (He.codeOf K p)
  rw [e]
theorem lawAt {w : World} {K : PySem.W.Frag} {h : Heap} {mg : Str → Option Value} {fa : Addr} (X : K.In h) (G : h.Ns mainGlobals mg) (hfa : mg ("law" : Str) = some (.ref fa)) (c : He.SaysX factsAt defsAt [] tabsAt (fun _ => true) w h K) :
    LamX.LawAtS PySem.Challenge.rw_laidontop_k07_whole_numbers_tell_the_rea w K CX0 4 63 "script" mg fa h := by
  have d := c.t.d
  obtain ⟨fd0, D0⟩ := d.def_ 0 (d := dd0) rfl
  have F0 : Fun K "is_name" "is_name" sIsName (He.fAd K ("is_name", none)) fd0 := fun_of D0
  have g0 : mg "is_name" = some (.ref (He.fAd K ("is_name", none))) := He.glo_ok X G (d.fact 0 (f := .glo "is_name") rfl)
  have b0 := F0.binds (ps := ["thing"]) fun _ _ _ _ _ _ us hl => match us, hl with | [_], _ => rfl
  obtain ⟨fd1, D1⟩ := d.def_ 1 (d := dd1) rfl
  have F1 : Fun K "is_pile" "is_pile" sIsPile (He.fAd K ("is_pile", none)) fd1 := fun_of D1
  have g1 : mg "is_pile" = some (.ref (He.fAd K ("is_pile", none))) := He.glo_ok X G (d.fact 1 (f := .glo "is_pile") rfl)
  have b1 := F1.binds (ps := ["thing"]) fun _ _ _ _ _ _ us hl => match us, hl with | [_], _ => rfl
  obtain ⟨fd2, D2⟩ := d.def_ 2 (d := dd2) rfl
  have F2 : Fun K "behind" "behind" sBehind (He.fAd K ("behind", none)) fd2 := fun_of D2
  have g2 : mg "behind" = some (.ref (He.fAd K ("behind", none))) := He.glo_ok X G (d.fact 2 (f := .glo "behind") rfl)
  have b2 := F2.binds (ps := ["pile", "readings"]) fun _ _ _ _ _ _ us hl => match us, hl with | [_, _], _ => rfl
  obtain ⟨fd3, D3⟩ := d.def_ 3 (d := dd3) rfl
  have F3 : Fun K "lifted" "lifted" sLifted (He.fAd K ("lifted", none)) fd3 := fun_of D3
  have g3 : mg "lifted" = some (.ref (He.fAd K ("lifted", none))) := He.glo_ok X G (d.fact 3 (f := .glo "lifted") rfl)
  have b3 := F3.binds (ps := ["pile", "readings"]) fun _ _ _ _ _ _ us hl => match us, hl with | [_, _], _ => rfl
  obtain ⟨fd4, D4⟩ := d.def_ 4 (d := dd4) rfl
  have F4 : Fun K "laid_on_top" "laid_on_top" sLaid (He.fAd K ("laid_on_top", none)) fd4 := fun_of D4
  have g4 : mg "laid_on_top" = some (.ref (He.fAd K ("laid_on_top", none))) := He.glo_ok X G (d.fact 4 (f := .glo "laid_on_top") rfl)
  have b4 := F4.binds (ps := ["pile", "book"]) fun _ _ _ _ _ _ us hl => match us, hl with | [_, _], _ => rfl
  obtain ⟨fd5, D5⟩ := d.def_ 5 (d := dd5) rfl
  have F5 : Fun K "readings_by" "readings_by" sReadBy (He.fAd K ("readings_by", none)) fd5 := fun_of D5
  have g5 : mg "readings_by" = some (.ref (He.fAd K ("readings_by", none))) := He.glo_ok X G (d.fact 5 (f := .glo "readings_by") rfl)
  have b5 := F5.binds (ps := ["pile", "numbers"]) fun _ _ _ _ _ _ us hl => match us, hl with | [_, _], _ => rfl
  obtain ⟨fd6, D6⟩ := d.def_ 6 (d := dd6) rfl
  have F6 : Fun K "undone" "undone" sUndone (He.fAd K ("undone", none)) fd6 := fun_of D6
  have g6 : mg "undone" = some (.ref (He.fAd K ("undone", none))) := He.glo_ok X G (d.fact 6 (f := .glo "undone") rfl)
  have b6 := F6.binds (ps := ["pile", "numbers"]) fun _ _ _ _ _ _ us hl => match us, hl with | [_, _], _ => rfl
  obtain ⟨fd7, D7⟩ := d.def_ 7 (d := dd7) rfl
  have F7 : Fun K "liftable" "liftable" sLiftable (He.fAd K ("liftable", none)) fd7 := fun_of D7
  have g7 : mg "liftable" = some (.ref (He.fAd K ("liftable", none))) := He.glo_ok X G (d.fact 7 (f := .glo "liftable") rfl)
  have b7 := F7.binds (ps := ["pile", "numbers"]) fun _ _ _ _ _ _ us hl => match us, hl with | [_, _], _ => rfl
  obtain ⟨fd8, D8⟩ := d.def_ 8 (d := dd8) rfl
  have F8 : Fun K "put_back" "put_back" sPut (He.fAd K ("put_back", none)) fd8 := fun_of D8
  have g8 : mg "put_back" = some (.ref (He.fAd K ("put_back", none))) := He.glo_ok X G (d.fact 8 (f := .glo "put_back") rfl)
  have b8 := F8.binds (ps := ["pile", "number"]) fun _ _ _ _ _ _ us hl => match us, hl with | [_, _], _ => rfl
  obtain ⟨fd9, D9⟩ := d.def_ 9 (d := dd9) rfl
  have F9 : Fun K "_law_draw" "_law_draw" sDraw (He.fAd K ("_law_draw", none)) fd9 := fun_of D9
  have g9 : mg "_law_draw" = some (.ref (He.fAd K ("_law_draw", none))) := He.glo_ok X G (d.fact 9 (f := .glo "_law_draw") rfl)
  have b9 := F9.binds (ps := ["tape", "many"]) fun _ _ _ _ _ _ us hl => match us, hl with | [_, _], _ => rfl
  obtain ⟨fd10, D10⟩ := d.def_ 10 (d := dd10) rfl
  have F10 : Fun K "_law_like" "_law_like" sLike (He.fAd K ("_law_like", none)) fd10 := fun_of D10
  have g10 : mg "_law_like" = some (.ref (He.fAd K ("_law_like", none))) := He.glo_ok X G (d.fact 10 (f := .glo "_law_like") rfl)
  have b10 := F10.binds (ps := ["one", "two"]) fun _ _ _ _ _ _ us hl => match us, hl with | [_, _], _ => rfl
  obtain ⟨fd11, D11⟩ := d.def_ 11 (d := dd11) rfl
  have F11 : Fun K "_law_any_order" "_law_any_order" sOrder (He.fAd K ("_law_any_order", none)) fd11 := fun_of D11
  have g11 : mg "_law_any_order" = some (.ref (He.fAd K ("_law_any_order", none))) := He.glo_ok X G (d.fact 11 (f := .glo "_law_any_order") rfl)
  have b11 := F11.binds (ps := ["tape", "many"]) fun _ _ _ _ _ _ us hl => match us, hl with | [_, _], _ => rfl
  obtain ⟨fd12, D12⟩ := d.def_ 12 (d := dd12) rfl
  have F12 : Fun K "_law_books" "_law_books" sBooks (He.fAd K ("_law_books", none)) fd12 := fun_of D12
  have g12 : mg "_law_books" = some (.ref (He.fAd K ("_law_books", none))) := He.glo_ok X G (d.fact 12 (f := .glo "_law_books") rfl)
  have b12 := F12.binds (ps := []) fun _ _ _ _ _ _ us hl => match us, hl with | [], _ => rfl
  obtain ⟨fd13, D13⟩ := d.def_ 13 (d := dd13) rfl
  have F13 : Fun K "_law_pile" "_law_pile" sPile (He.fAd K ("_law_pile", none)) fd13 := fun_of D13
  have g13 : mg "_law_pile" = some (.ref (He.fAd K ("_law_pile", none))) := He.glo_ok X G (d.fact 13 (f := .glo "_law_pile") rfl)
  have b13 := F13.binds (ps := ["tape", "size"]) fun _ _ _ _ _ _ us hl => match us, hl with | [_, _], _ => rfl
  obtain ⟨fd14, D14⟩ := d.def_ 14 (d := dd14) rfl
  have F14 : Fun K "_law_readings" "_law_readings" sReadings (He.fAd K ("_law_readings", none)) fd14 := fun_of D14
  have g14 : mg "_law_readings" = some (.ref (He.fAd K ("_law_readings", none))) := He.glo_ok X G (d.fact 14 (f := .glo "_law_readings") rfl)
  have b14 := F14.binds (ps := ["tape", "books", "size"]) fun _ _ _ _ _ _ us hl => match us, hl with | [_, _, _], _ => rfl
  obtain ⟨fd15, D15⟩ := d.def_ 15 (d := dd15) rfl
  have F15 : Fun K "_law_read" "_law_read" sRead (He.fAd K ("_law_read", none)) fd15 := fun_of D15
  have g15 : mg "_law_read" = some (.ref (He.fAd K ("_law_read", none))) := He.glo_ok X G (d.fact 15 (f := .glo "_law_read") rfl)
  have b15 := F15.binds (ps := ["pile", "readings"]) fun _ _ _ _ _ _ us hl => match us, hl with | [_, _], _ => rfl
  obtain ⟨fd16, D16⟩ := d.def_ 16 (d := dd16) rfl
  have F16 : Fun K "law" "law" sLaw (He.fAd K ("law", none)) fd16 := fun_of D16
  have g16 : mg "law" = some (.ref (He.fAd K ("law", none))) := He.glo_ok X G (d.fact 16 (f := .glo "law") rfl)
  have B : Bi mg := ⟨He.free_ok X G (d.fact 17 (f := .free "len") rfl), He.free_ok X G (d.fact 18 (f := .free "range") rfl), He.free_ok X G (d.fact 19 (f := .free "tuple") rfl), He.free_ok X G (d.fact 20 (f := .free "list") rfl), He.free_ok X G (d.fact 21 (f := .free "sorted") rfl), He.free_ok X G (d.fact 22 (f := .free "enumerate") rfl), He.free_ok X G (d.fact 23 (f := .free "isinstance") rfl), He.free_ok X G (d.fact 24 (f := .free "bool") rfl), He.free_ok X G (d.fact 25 (f := .free "set") rfl), He.free_ok X G (d.fact 26 (f := .free "sum") rfl), He.free_ok X G (d.fact 27 (f := .free "min") rfl), He.free_ok X G (d.fact 28 (f := .free "max") rfl), He.free_ok X G (d.fact 29 (f := .free "dict") rfl), He.free_ok X G (d.fact 30 (f := .free "reversed") rfl), He.free_ok X G (d.fact 31 (f := .free "all") rfl), He.free_ok X G (d.fact 32 (f := .free "any") rfl), He.free_ok X G (d.fact 33 (f := .free "int") rfl), He.free_ok X G (d.fact 34 (f := .free "str") rfl), He.free_ok X G (d.fact 35 (f := .free "zip") rfl)⟩
  obtain ⟨ti0, mi0⟩ := He.int_ok X G (d.fact 36 (f := .int "LONGEST_NAME" 8) rfl)
  obtain ⟨ti1, mi1⟩ := He.int_ok X G (d.fact 37 (f := .int "MOST_BOOKS" 7) rfl)
  have e := hfa.symm.trans g16
  cases e
  have bl := FunD.bindsA (ps := ["script"]) D16 fun _ _ _ _ _ _ us hl => match us, hl with | [_], _ => rfl
  have in0 : tab0 ∈ tabsAt := by simp [tabsAt]
  have im0 : He.cT K tab0 ∈ tabsAt.map (He.cT K) := List.mem_map.mpr ⟨_, in0, rfl⟩
  have in1 : tab1 ∈ tabsAt := by simp [tabsAt]
  have im1 : He.cT K tab1 ∈ tabsAt.map (He.cT K) := List.mem_map.mpr ⟨_, in1, rfl⟩
  have one : ∀ p ∈ tabsAt.map (He.cT K), ∃ t ∈ tabsAt, p = He.cT K t := fun p hp => by
    obtain ⟨t, ht, e⟩ := List.mem_map.mp hp
    exact ⟨t, ht, e.symm⟩
  refine ⟨fd16, tabsAt.map (He.cT K), spLaw7 K (He.cT K tab0).2 (He.cT K tab1).2, fun p hp => ?_, fun p hp => ?_, fun p hp => ?_, fun s v => bl s [v] rfl, fun H a ns hl _ hH hS => ?_, fun base _ _ TBs => ?_⟩
  · obtain ⟨t, ht, rfl⟩ := one p hp
    exact c.empty t ht
  · obtain ⟨t, ht, rfl⟩ := one p hp
    exact c.out t ht
  · obtain ⟨t, ht, rfl⟩ := one p hp
    exact PySem.W.codeHd_of_K X (c.hd t ht)
  · exact ⟨a, ns, rfl, hS, hl, ⟨#[], hH _ im0, by first | trivial | exact rfl | simp [TriplesOk]⟩, ⟨#[], hH _ im1, by first | trivial | exact rfl | simp [TriplesOk]⟩, fun _ => rfl⟩
  · have tb0 := TBs _ im0
    have TB0 : GxR.TabB base mg (He.cT K tab0).1 (He.cT K tab0).2 := ⟨tb0.code, tb0.bm, tb0.gP⟩
    have tb1 := TBs _ im1
    have TB1 : GxR.TabB base mg (He.cT K tab1).1 (He.cT K tab1).2 := ⟨tb1.code, tb1.bm, tb1.gP⟩
    have cD : Has PySem.Challenge.rw_laidontop_k07_whole_numbers_tell_the_rea.prog w K mg base 1 "_law_draw" ["tape", "many"] spDraw := ⟨_, _, ok_draw F9 B.len, g9, F9.kp, b9⟩
    have cO : Has PySem.Challenge.rw_laidontop_k07_whole_numbers_tell_the_rea.prog w K mg base 2 "_law_any_order" ["tape", "many"] spOrder := ⟨_, _, ok_order F11 B cD, g11, F11.kp, b11⟩
    have cB : Has PySem.Challenge.rw_laidontop_k07_whole_numbers_tell_the_rea.prog w K mg base 1 "_law_books" [] spBooks := ⟨_, _, ok_books F12, g12, F12.kp, b12⟩
    have cPi : Has PySem.Challenge.rw_laidontop_k07_whole_numbers_tell_the_rea.prog w K mg base 3 "_law_pile" ["tape", "size"] spPile := ⟨_, _, ok_pile F13 B cD cO cB, g13, F13.kp, b13⟩
    have cRe : Has PySem.Challenge.rw_laidontop_k07_whole_numbers_tell_the_rea.prog w K mg base 2 "_law_readings" ["tape", "books", "size"] spReadings := ⟨_, _, ok_readings F14 B cD, g14, F14.kp, b14⟩
    have cRd : Has PySem.Challenge.rw_laidontop_k07_whole_numbers_tell_the_rea.prog w K mg base 1 "_law_read" ["pile", "readings"] spReadZ := ⟨_, _, ok_readZ F15 B, g15, F15.kp, b15⟩
    have cLk : Has PySem.Challenge.rw_laidontop_k07_whole_numbers_tell_the_rea.prog w K mg base 3 "_law_like" ["one", "two"] (spLike K 3) := ⟨_, _, like_all F10 B g10 b10 3, g10, F10.kp, b10⟩
    have cLd : Has PySem.Challenge.rw_laidontop_k07_whole_numbers_tell_the_rea.prog w K mg base 1 "laid_on_top" ["pile", "book"] spLaid := ⟨_, _, ok_laid F4, g4, F4.kp, b4⟩
    have cBe : Has PySem.Challenge.rw_laidontop_k07_whole_numbers_tell_the_rea.prog w K mg base 2 "behind" ["pile", "readings"] spBehind := ⟨_, _, ok_behind F2 cLd, g2, F2.kp, b2⟩
    have cLi : Has PySem.Challenge.rw_laidontop_k07_whole_numbers_tell_the_rea.prog w K mg base 2 "lifted" ["pile", "readings"] spLifted := ⟨_, _, ok_lifted F3 cLd, g3, F3.kp, b3⟩
    have cPu : Has PySem.Challenge.rw_laidontop_k07_whole_numbers_tell_the_rea.prog w K mg base 1 "put_back" ["pile", "number"] spPut := ⟨_, _, ok_put F8, g8, F8.kp, b8⟩
    have cLf : Has PySem.Challenge.rw_laidontop_k07_whole_numbers_tell_the_rea.prog w K mg base 1 "liftable" ["pile", "numbers"] (spLiftable K) := ⟨_, _, ok_liftable F7 B, g7, F7.kp, b7⟩
    have cUn : Has PySem.Challenge.rw_laidontop_k07_whole_numbers_tell_the_rea.prog w K mg base 2 "undone" ["pile", "numbers"] (spUndone K) := ⟨_, _, ok_undone F6 B cPu cLf, g6, F6.kp, b6⟩
    have cRb : Has PySem.Challenge.rw_laidontop_k07_whole_numbers_tell_the_rea.prog w K mg base 2 "readings_by" ["pile", "numbers"] (spReadBy K) := ⟨_, _, ok_readBy F5 cLd cLf, g5, F5.kp, b5⟩
    have cNm : Has PySem.Challenge.rw_laidontop_k07_whole_numbers_tell_the_rea.prog w K mg base 1 "is_name" ["thing"] (spName K (He.cT K tab0).2) := ⟨_, _, ok_isName F0 (code_at (p := tab0) F0) TB0 B mi0, g0, F0.kp, b0⟩
    have cIp : Has PySem.Challenge.rw_laidontop_k07_whole_numbers_tell_the_rea.prog w K mg base 3 "is_pile" ["thing"] (spIsPile K (He.cT K tab0).2 (He.cT K tab1).2) := ⟨_, _, ok_isPile F1 (code_at (p := tab1) F1) TB1 B mi1 cNm, g1, F1.kp, b1⟩
    exact ok_law F16 B cD cPi cRe cRd cLk cRb cUn cBe cLi cIp
end Lt
open PySem PySem.W PySem.Calls PyProof.Rows in
set_option maxRecDepth 100000 in
set_option maxHeartbeats 0 in
theorem PySem.Challenge.cw_laidontop_k07_whole_numbers_tell_the_rea_holds : PySem.Challenge.rw_laidontop_k07_whole_numbers_tell_the_rea.Holds := by
  w_on; o_law
  refine HandSHeadRun.head_any (r := Lt.rowX) (q := view Lt.rowX.prog [22]) (H := Lt.hookAt) (ob := Lt.seenAt) (M := 2000) (loose := Lt.namesAt) (d := HandSHeadRun.topDef Lt.rowX.prog 22) (kwd := []) Lt.seenAt_eq (by kernel_rfl) (fun s => by kernel_rfl) Lt.runAt
    (by kernel_rfl) (by kernel_rfl) (by kernel_rfl) (by rfl) (by first | assumption | decide +kernel) (by decide +kernel) ⟨rfl, rfl, rfl, rfl, rfl, by decide +kernel⟩ ?hw ?hc
  case hw => w_witness2
  case hc =>
    refine LamX.walk_ofTsE (l := PySem.Challenge.rw_laidontop_k07_whole_numbers_tell_the_rea) (n := 63) (k := 4) (x := "script") (CX := fun _ => L2.CX0) rfl (by decide) (by kernel_rfl) ⟨rfl, by decide, by decide⟩ ?F (fun _ _ _ _ _ z => z)
    rintro w mg fa h ⟨K, KX, c⟩ G hm
    refine ⟨K, KX, Lt.lawAt KX G ?_ c⟩
    have e : (HandSHeadRun.topDef Lt.rowX.prog 22).name = ("law" : PySem.Str) := by kernel_rfl
    rw [← e]
    exact hm
