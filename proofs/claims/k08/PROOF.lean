import PyProof.Rows.All
import Wide.All
import OpenK.AllK
import Wide.FinOn
import HandS.Base
import HandS.Call
import HandS.List
import HandS.Comp
import HandS.Dict
import HandS.More
import HandS.Words
import HandS.Strs
import HandS.TupAny
import KE.DataFind
import KE.Datum
import KE.GoesMore
import KE.GoesComp
import HandS.ForMost
import HandS.IsInst
import HandS.Wide
import HandS.Style
import HandS.Walk
import HandS.Evl
import PyProof.Rows.SetFrom
import HandS.SortRule
import HandS.Rev
import HandS.Deep
import PySem.Challenge.RW_laidontop_k08_first_piles_by_all_piles
set_option Elab.async false
set_option linter.all false
set_option maxRecDepth 100000
set_option maxHeartbeats 4000000
/-! Rules for what this text needs beside the hand layer's: a text taken out of a list, a tuple of texts sorted, a dict of a constant over tuple keys, methods of tuples. -/
namespace Lt
open PySem PySem.Spec PyProof.Rows L2

theorem erase_map {a b : Type} (f : a → b) : ∀ (l : List a) (j : Nat), (l.map f).eraseIdx j = (l.eraseIdx j).map f
  | [], j => by simp
  | x :: r, 0 => by simp
  | x :: r, j + 1 => by simp [erase_map f r j]
theorem txts_data {K : PySem.W.Frag} {H : Hp} : ∀ ss : List Str, DpAll K H (ss.map V.str) (ss.map PySem.W.Datum.toD)
  | [] => .nil
  | x :: r => .cons (.str x) (txts_data r)
section
variable {X : Cx}
def rRemS : V → List V → Hp → VK → Prop := fun x xs H Q => ∃ (l : Addr) (ss : List Str) (z : Str) (j : Nat),
  x = .ref l ∧ xs = [.str z] ∧ H l = some (.lst (ss.map V.str)) ∧ ss[j]? = some z ∧ (∀ m : Nat, m < j → ss[m]? ≠ some z) ∧
  Q .non (upd H l (.lst ((ss.eraseIdx j).map V.str)))
/-- xs.remove(y), texts: the first place of y goes -/
theorem mt_removeS (hu : X.A.units + 1 < cLine) : MtM X "list.remove" rRemS := by
  rintro pins s σ H _ _ v us Q inv relx relxs ⟨l, ss, z, j, rfl, rfl, hH, hj, hno, q⟩
  cases relx
  obtain ⟨_, rfl, t, rfl⟩ := relxs.one
  obtain ⟨hz, its, n, vals, hl, ho⟩ := inv.lstM hH
  have isl : s.heap.IsList l its.toArray := ⟨_, ho, rfl, n, rfl⟩
  obtain ⟨as, rds⟩ := Dp.readsAll inv (ss.map PySem.W.Datum.toD) (ss.map V.str) its (txts_data ss) vals
  have gone := vals.eraseIdx j
  rw [erase_map] at gone
  rw [List.length_map] at hz hl
  refine PySem.W.remove_list_datum (xs := ss) (x := z) isl ⟨as, by simpa using rds⟩ ⟨_, Reads.str z t⟩ (show X.A.units + 1 + 0 < cLine from hu) hj hno (by rw [List.size_toArray]; omega)
    ⟨.non, _, inv.lset (its' := its.eraseIdx j) (t' := s.toks) hH ho (by simp) gone ?_, rfl, q⟩
  have le := List.length_eraseIdx_le ss j
  rw [List.length_map]
  omega
/-- sorted(t), t a tuple of fewer than 64 texts -/
def rSortedT (K : PySem.W.Frag) : List V → Hp → VK → Prop := fun vs H Q => ∃ (a : Addr) (xs : List Str), vs = [V.ref a] ∧ SqT K H a (xs.map V.str) ∧ xs.length < 64 ∧
  ∀ (ys : List Str) (p : Addr), ys.Perm xs → sortedS ys = true → H p = none →
    Q (.ref p) (upd H p (.lst (ys.map V.str)))
theorem cr_sortedT : CallR X (.builtin "sorted") (rSortedT X.K) := by
  rintro pins s σ H _ us Q inv rel ⟨a, xs, rfl, sq, few, q⟩
  rw [Vals.ref1 rel]
  obtain ⟨its, vals, ⟨o, ho, hc, n, hd⟩, _⟩ := inv.tuple sq
  have len : its.length = xs.length := by rw [← vals.length, List.length_map]
  have txt : StrsAre its xs := vals.strs
  have fits : its.length ≤ sizeLine := Nat.le_trans (Nat.le_of_lt (len ▸ few)) (by decide)
  refine Calls.call_function_entry kind_sorted plain_sorted entry_sorted (args_sorted1 _) (wpAny_bind (m := checkCount "sorted" 1 1 _) (wpAny_pure
    (wpAny_bind (wpAny_collect_seq a (.inr rfl) ho hc hd (fun h1 kept => ?_) (by rw [List.size_toArray]; exact fits)))))
  have back : its.toArray.toList = its := by simp
  rw [back]
  refine wpAny_bind (wpAny_newList ?_ fits)
  have lst : (h1.push (seqObj "list" its.toArray 0)).get? h1.objs.size = some (seqObj "list" its.toArray 0) := Heap.get?_push_size _ rfl
  have inv1 : Inv X pins σ H { s with heap := h1 } := inv.kept (t' := s.toks) kept
  show wpAny _ _ _ _ _ { s with heap := h1.push (seqObj "list" its.toArray 0) }
  refine wpAny_bind (wpAny_holding (wpAny_call_entry slot_list_sort ⟨_, lst, rfl⟩ entry_list_sort (list_sort_treeK strKind_oneLt (s := { s with heap := h1.push (seqObj "list" its.toArray 0) }) lst txt.keysOf
    (fun v1 v2 rest e => keyKind_strs (by rw [← e]; exact txt)) (len ▸ few) fun st perm ord => ⟨_, rfl, ?_⟩) (args_list_sort _)))
  obtain ⟨ys, are, permS, ordS⟩ := sorted_out_str txt perm ord
  obtain ⟨ep, at1⟩ := sortedHeap_at (vs := its) (out := (arrOf st).map (·.2)) lst
  have lys : (ys.map V.str).length ≤ sizeLine := by
    rw [List.length_map, permS.length_eq]
    exact small64 few
  refine wpAny_pure ⟨_, rfl, .ref h1.objs.size, _, inv1.laid (t' := s.toks) (fun b u e => ?_) (Nat.le_refl _) (show ObjOk X.prog X.w _ _ _ (.lst (ys.map V.str)) from ⟨lys, _, ep, vals_of_strs are, by rw [Array.toArray_toList]; exact at1⟩), rfl,
    q ys _ permS ordS (inv1.hok.fresh (Nat.le_refl _))⟩
  have lt : b < h1.objs.size := Heap.lt_size e
  rw [sortedHeap_old (Nat.ne_of_lt lt) (by rw [size_push']; exact Nat.lt_succ_of_lt lt)]
  exact Heap.get?_push_of_some _ e
end
/-! ### {x: c for x in rows}, the rows tuples of ints and texts: over the library's DictComp_goes -/
def consts (c : Int) (ks : List (List Key)) : List (List Key × V) := ks.foldl (fun acc k => putK acc k (.int c)) []
theorem consts_snoc (c : Int) (ks : List (List Key)) (k : List Key) : consts c (ks ++ [k]) = putK (consts c ks) k (.int c) := by
  unfold consts
  rw [List.foldl_append]
  rfl
theorem consts_len (c : Int) (ks : List (List Key)) : (consts c ks).length ≤ ks.length := by
  have key : ∀ (ks : List (List Key)) (acc : List (List Key × V)), (ks.foldl (fun acc k => putK acc k (V.int c)) acc).length ≤ acc.length + ks.length := by
    intro ks
    induction ks with
    | nil => intro acc; exact Nat.le_refl _
    | cons k r ih =>
      intro acc
      have z := ih (putK acc k (.int c))
      have z2 := length_putK acc k (V.int c)
      rw [List.foldl_cons, List.length_cons]
      omega
  have z := key ks []
  rw [List.length_nil, Nat.zero_add] at z
  exact z
theorem consts_val (c : Int) (ks : List (List Key)) : ∀ k ∈ ks, valV (consts c ks) k = some (.int c) := by
  have key : ∀ (ks : List (List Key)) (acc : List (List Key × V)) (k : List Key), (k ∈ ks ∨ valV acc k = some (V.int c)) → valV (ks.foldl (fun acc k => putK acc k (V.int c)) acc) k = some (V.int c) := by
    intro ks
    induction ks with
    | nil =>
      intro acc k h
      rcases h with h | h
      · cases h
      · exact h
    | cons x r ih =>
      intro acc k h
      rw [List.foldl_cons]
      refine ih _ k ?_
      rw [valV_put]
      by_cases e : k = x
      · exact .inr (if_pos e)
      · rw [if_neg e]
        rcases h with h | h
        · exact .inl ((List.mem_cons.mp h).resolve_left e)
        · exact .inr h
  exact fun k hk => key ks [] k (.inl hk)
theorem keys_all {H : Hp} : ∀ {ls : List (List Key × V)} {ms : List (List Key × Addr × Value)}, KT H ls ms → ∀ z ∈ ms, H z.2.1 = some (.tup (z.1.map kV))
  | _, _, .nil, z, hz => by cases hz
  | _, _, .cons h t, z, hz => by
    rcases List.mem_cons.mp hz with rfl | hz
    · rw [← h.1]
      exact h.2.1
    · exact keys_all t z hz
/-- a dict's entries as they stand at D -/
def Raw (P : Program) (w : World) (h : Heap) (D : Addr) (xs : List (List Key × Addr × Value)) : Prop :=
  ∃ o es ep, h.get? D = some o ∧ o.ExactDict ∧ o.data = .dict es ep ∧ es.toList = xs.map (entryOfKey (tupleKind (mixKind P w))) ∧ (xs.map (·.1)).Nodup
theorem Raw.at {P : Program} {w : World} {h h' : Heap} {D : Addr} {xs : List (List Key × Addr × Value)} (r : Raw P w h D xs) (k : ∀ o, h.get? D = some o → h'.get? D = some o) : Raw P w h' D xs := by
  obtain ⟨o, es, ep, a1, a2⟩ := r
  exact ⟨o, es, ep, k o a1, a2⟩
theorem Raw.dict {P : Program} {w : World} {h h0 : Heap} {H : Hp} {D : Addr} {ls : List (List Key × V)} {xs : List (List Key × Addr × Value)} (r : Raw P w h D xs) (ok : HOk P w H h0) (kp : ∀ b o, h0.get? b = some o → h.get? b = some o) (kt : KT H ls xs) :
    h.DictOfH (tupleKind (mixKind P w)) D xs := by
  obtain ⟨o, es, ep, a1, a2, a3, a4, a5⟩ := r
  refine ⟨o, es, ep, a1, a2, a3, a4, fun z hz => ?_, a5⟩
  obtain ⟨ob, its, n, b1, b2⟩ := key_of ok (keys_all kt z hz)
  exact ⟨ob, its, n, kp _ ob b1, b2⟩
theorem below {b N C : Nat} (hb : b < N) (hC : N + 1 ≤ C) : b ≠ C ∧ b ≠ N := by omega
section
variable {X : Cx}
def tDcK (K : PySem.W.Frag) (c : Int) (te : TE) : TE := fun σ H Q => te σ H fun v H1 => ∃ (l : Addr) (ts : List Addr) (ks : List (List Key)), v = .ref l ∧ SqL K H1 l (ts.map V.ref) ∧ ts.length = ks.length ∧
  (∀ (i : Nat) (t : Addr) (k : List Key), ts[i]? = some t → ks[i]? = some k → H1 t = some (.tup (k.map kV))) ∧ ks.length ≤ 1000 ∧ ∀ D, H1 D = none → Q (.ref D) (upd H1 D (.dT (consts c ks)))
theorem pe_dcK {x : Str} {c : Int} {jc : Nat} {px pk pc pos : Pos} {iter : Expr} {scope : Scope} {te : TE} (hu : X.A.units + 1 < cLine) (hcalm : X.calm = true) (he : PE X iter te)
    (names : scope.names.all (fun y => y.2 == .local) = true) (uniq : ∀ y ∈ scope.names, y.2 = .local → scope.names.lookup y.1 = some .local) (hx : scope.names.lookup x = some .local) (hkind : scope.kind = .function)
    (hdb : (x == ("__debug__" : Str)) = false := by decide) (hs : ∀ x, foldedSetIterable iter X.env x = pure x := by intro _; rfl) :
    PE X (.DictComp (.Name x pk) (.Constant (.int c) jc pc) [⟨.Name x px, iter, [], 0⟩] scope pos) (tDcK X.K c te) := by
  refine ⟨fun pins s σ H Q inv h => ?_⟩
  have loc : ∀ y ∈ scope.names, y.2 = .local := fun y hy => by simpa using List.all_eq_true.mp names y hy
  have calm := inv.ok.hd hcalm
  refine DictComp_goes (closure_ok fun y hy e => by rw [loc y hy] at e; cases e) (fun y hy e => by rw [loc y hy] at e; cases e) hkind uniq
    (thn (he.run pins s σ H _ inv h) fun xv s1 ⟨v, H1, inv1, rel, l, ts, ks, ev, sq, len, keys, small, q⟩ => ?_) hs
  subst ev
  cases rel
  obtain ⟨its, vals, pl, _⟩ := inv1.list sq
  have hlt : (l : Nat) < s1.heap.objs.size := by
    obtain ⟨o, ho, _⟩ := pl.isList
    exact Heap.lt_size ho
  refine wpAny_pyIter_list pl.isList ⟨_, _, _, _, _, _, rfl, Goes.list calm s1.heap.objs.size l (Nat.ne_of_lt hlt) its.toArray, ⟨⟨_, Heap.get?_push_size _ rfl, rfl, rfl⟩, pl.isList.push _⟩, fun D C s3 begins empty => ?_⟩
  obtain ⟨⟨h3, tk3, rfl⟩, old, newD, newC, ne, ns0⟩ := begins
  have gC : (s1.heap.objs.size + 1 : Nat) ≤ C := by
    have z : (s1.heap.push { cls := .type "list_iterator", data := .fields #[.ref l, .int 0 0] }).objs.size ≤ C := newC
    rwa [Heap.size_push] at z
  have gD : (s1.heap.objs.size + 1 : Nat) ≤ D := by
    have z : (s1.heap.push { cls := .type "list_iterator", data := .fields #[.ref l, .int 0 0] }).objs.size ≤ D := newD
    rwa [Heap.size_push] at z
  have gD' : s1.heap.objs.size ≤ D := Nat.le_trans (Nat.le_succ _) gD
  have freeD : H1 D = none := inv1.hok.fresh gD'
  have kx : ∀ cl, (compEnvC scope cl C X.env).kindOf x = some .local := fun cl => lookup_relabel_local hx
  have plain : ∀ cl, ((compEnvC scope cl C X.env).scope.kind == .class || ((compEnvC scope cl C X.env).scope.kind == .module && (compEnvC scope cl C X.env).locals != (compEnvC scope cl C X.env).globals)) = false := fun cl => by
    show (scope.kind == .class || (scope.kind == .module && _)) = false
    rw [hkind]
    rfl
  have lits : its.length = ts.length := by rw [← vals.length, List.length_map]
  have lit : ∀ (i : Nat) (u : Value), its.toArray[i]? = some u → ∃ t k, u = .ref t ∧ ks[i]? = some k ∧ H1 t = some (.tup (k.map kV)) := fun i u e => by
    have e' : its[i]? = some u := by simpa using e
    have hi : i < ts.length := by
      rw [← lits]
      exact (List.getElem?_eq_some_iff.mp e').1
    obtain ⟨u2, g1, g2⟩ := vals.get (i := i) (x := .ref ts[i]) (by simp [hi])
    rw [e'] at g1
    cases g1
    exact ⟨ts[i], ks[i]'(by omega), g2, List.getElem?_eq_getElem (by omega), keys i _ _ (List.getElem?_eq_getElem hi) (List.getElem?_eq_getElem (by omega))⟩
  have isz : its.toArray.size = ks.length := by rw [List.size_toArray, lits, len]
  refine ⟨fun i sv => ∃ (h' : Heap) (tk : Nat) (m : Str → Option Value) (xs : List (List Key × Addr × Value)), sv = { s1 with heap := h', toks := tk } ∧ h'.Ns C m ∧ Raw X.prog X.w h' D xs ∧ KT H1 (consts c (ks.take i)) xs ∧
      ∀ b o, s1.heap.get? b = some o → h'.get? b = some o,
    ⟨h3, tk3, _, [], rfl, ns0, ⟨_, #[], 0, empty, ⟨rfl, rfl, rfl⟩, rfl, rfl, List.nodup_nil⟩, .nil, fun b o e => old b o (Heap.get?_push_of_some _ e)⟩, ?_, ?_, ?_⟩
  · rintro i _ h' tk ⟨h4, tk4, m, xs, rfl, ns, dd, kt, kp⟩ keeps _
    have off : ∀ b : Addr, b ≠ s1.heap.objs.size → b ∉ [s1.heap.objs.size] := fun b hb hm => hb (by simpa using hm)
    have nC : C ≠ s1.heap.objs.size := Nat.ne_of_gt gC
    have nD : D ≠ s1.heap.objs.size := Nat.ne_of_gt gD
    exact ⟨h', tk, m, xs, rfl, ns.at' fun o e => keeps _ o (off _ nC) e, dd.at fun o e => keeps _ o (off _ nD) e, kt, fun b o e => keeps b o (off b (Nat.ne_of_lt (Heap.lt_size e))) (kp b o e)⟩
  · rintro i v _ hi hv st ⟨h4, tk4, m, xs, rfl, ns, dd, kt, kp⟩
    obtain ⟨t, k, rfl, ek, hk⟩ := lit i v hv
    refine wpAny_assign_Name (wpAny_storeName_local (kx _) ns (fun h5 ns5 same5 => ?_) (plain _))
    refine wpAny_tests_nil ?_
    show wpAny _ _ _ _ _ _
    rw [eval_Name _ _ _ hdb]
    refine wpAny_bind (wpAny_standAt (wpAny_loadName_local hkind (kx _) ns5 (v := .ref t) (if_pos rfl) (wpAny_Constant_int ?_)))
    have up5 : ∀ b o, b ≠ C → h4.get? b = some o → h5.get? b = some o := fun b o hb e => same5.extBut b o hb e
    have oldC : ∀ b o, s1.heap.get? b = some o → b ≠ C := fun b o e => (below (Heap.lt_size e) gC).1
    have kp5 : ∀ b o, s1.heap.get? b = some o → h5.get? b = some o := fun b o e => up5 b o (oldC b o e) (kp b o e)
    have dd5 := (dd.at fun o e => up5 D o ne e).dict inv1.hok kp5 kt
    have room : (tupleKind (mixKind X.prog X.w)).room X.A := Nat.lt_trans (Nat.lt_succ_self _) hu
    have isk : (tupleKind (mixKind X.prog X.w)).is h5 k t := by
      obtain ⟨ob, its2, n2, b1, b2⟩ := key_of inv1.hok hk
      exact ⟨ob, its2, n2, kp5 _ ob b1, b2⟩
    have lxs : xs.length ≤ sizeLine := by
      rw [← Paired.length kt]
      have z := consts_len c (ks.take i)
      rw [List.length_take] at z
      exact Nat.le_of_lt (small1000 (by omega))
    refine wpAny_dictSet_heap (hsz := lxs) room isk dd5 fun h6 dd6 same6 => ?_
    have step : consts c (ks.take (i + 1)) = putK (consts c (ks.take i)) k (.int c) := by
      rw [List.take_add_one, ek]
      exact consts_snoc c _ k
    have keep6 : ∀ b o, b ≠ D → h5.get? b = some o → h6.get? b = some o := fun b o hb e => (same6.2 b hb).trans e
    have oldD : ∀ b o, s1.heap.get? b = some o → b ≠ D := fun b o e => (below (Heap.lt_size e) gD).1
    obtain ⟨o6, es6, ep6, c1, c2, c3, c4, _, c6⟩ := dd6
    refine ⟨⟨h6, _, _, _, rfl, ns5.at' fun o e => keep6 _ o ne.symm e, ⟨o6, es6, ep6, c1, c2, c3, c4, c6⟩, ?_, fun b o e => keep6 b o (oldD b o e) (kp5 b o e)⟩, ?_⟩
    · rw [step]
      exact kt.put k hk ⟨_, rfl⟩
    · have nI : s1.heap.objs.size ≠ C := (Nat.ne_of_gt gC).symm
      have nI2 : s1.heap.objs.size ≠ D := (Nat.ne_of_gt gD).symm
      have nl := below hlt gC
      have nl2 := below hlt gD
      exact ⟨st.1.at fun o e => keep6 _ o nI2 (up5 _ o nI e), st.2.at fun o e => keep6 _ o nl2.1 (up5 _ o nl.1 e)⟩
  · rintro _ ⟨h4, tk4, m, xs, rfl, ns, dd, kt, kp⟩
    refine ⟨m, ns, fun h' same => ?_⟩
    have kp' : ∀ b o, s1.heap.get? b = some o → h'.get? b = some o := fun b o e => same.extBut b o (below (Heap.lt_size e) gC).1 (kp b o e)
    rw [isz, List.take_length] at kt
    have fit : (consts c ks).length ≤ sizeLine := Nat.le_of_lt (small1000 (Nat.le_trans (consts_len c ks) small))
    have sys : (D == sysModules) = false := beq_eq_false_iff_ne.mpr (Nat.ne_of_gt (Nat.lt_of_lt_of_le inv1.big gD'))
    obtain ⟨o, es, ep, a1, a2, a3, a4, a5⟩ := dd.at (h' := h') fun o e => same.extBut _ o ne e
    exact ⟨.ref D, _, inv1.laid (t' := tk4) kp' gD' (show ObjOk X.prog X.w _ h' D (.dT (consts c ks)) from ⟨fit, sys, xs, kt.keeps fun b ys e => by rw [upd_ne (ne_of_none e freeD)]; exact e, o, es, ep, a1, a2, a3, a4, a5⟩), rfl, q D freeD⟩
end
/-! ### tuples whose object is known to have no dict: their methods can be called -/
section
def IsFz (u : HO) (xs : List V) : Prop := ∃ o : Obj, u = .frz o (.tup xs) ∧ o.cls = .type "tuple" ∧ o.dict = none
def TpO (H : Hp) (a : Addr) (xs : List V) : Prop := ∃ u, H a = some u ∧ IsFz u xs
theorem TpO.sqt {K : PySem.W.Frag} {H : Hp} {a : Addr} {xs : List V} (h : TpO H a xs) : SqT K H a xs := by
  obtain ⟨u, h1, o, rfl, _⟩ := h
  exact .inl (.inr ⟨o, h1⟩)
theorem TpO.ne {H : Hp} {a b : Addr} {xs : List V} {v : HO} (h : TpO H a xs) (h' : H b = some v) (d : ∀ o : Obj, v ≠ .frz o (.tup xs)) : a ≠ b := by
  obtain ⟨u, h1, o, rfl, _⟩ := h
  exact ne_of h1 h' fun z => d o z.symm
theorem TpO.new {H : Hp} {a : Addr} {xs : List V} {u : HO} (h : IsFz u xs) : TpO (upd H a u) a xs := ⟨u, upd_same, h⟩
theorem TpO.taken {H : Hp} {a b : Addr} {xs : List V} (h : TpO H a xs) (n : H b = none) : a ≠ b := by
  obtain ⟨u, h1, _⟩ := h
  exact ne_of_none h1 n
theorem TpO.move {H H' : Hp} {a : Addr} {xs : List V} (h : TpO H a xs) (e : ∀ u, H a = some u → H' a = some u) : TpO H' a xs := by
  obtain ⟨u, h1, h2⟩ := h
  exact ⟨u, e u h1, h2⟩
variable {X : Cx}
/-- a new tuple is laid where nothing stood: what is known of it -/
theorem laid_fz {pins : List (Addr × Obj)} {σ : L2.St} {H : Hp} {s : Shared} {h' : Heap} {Q : VK} {xs : List V} {us : List Value} (inv : Inv X pins σ H { s with heap := h' }) (vals : Vals xs us) (fit : xs.length ≤ sizeLine)
    (q : ∀ p u, H p = none → IsFz u xs → Q (.ref p) (upd H p u)) : EP X pins σ Q (.ref h'.objs.size) { s with heap := h'.push { cls := .type "tuple", data := .seq us.toArray } } := by
  have at1 : (h'.push { cls := .type "tuple", data := .seq us.toArray }).get? h'.objs.size = some { cls := .type "tuple", data := .seq us.toArray } := Heap.get?_push_size _ rfl
  refine ⟨.ref h'.objs.size, _, inv.laid (t' := s.toks) (fun b u e => Heap.get?_push_of_some _ e) (Nat.le_refl _) ?_, rfl, q _ (.frz { cls := .type "tuple", data := .seq us.toArray } (.tup xs)) (inv.hok.fresh (Nat.le_refl _)) ⟨_, rfl, rfl, rfl⟩⟩
  exact ⟨at1, fit, us, vals, _, at1, rfl, _, rfl⟩
def tTupZ (t : TA) : TE := fun σ H Q => t σ H fun xs H1 => xs.length ≤ sizeLine ∧ ∀ p u, H1 p = none → IsFz u xs → Q (.ref p) (upd H1 p u)
theorem pe_tupZ {x1} {es : List Expr} {t : TA} {pos : Pos} (h : PA X es t) : PE X (.Tuple es x1 pos) (tTupZ t) :=
  ⟨fun pins s σ H Q inv hq => wpAny_Tuple_spliced (thn (h.run pos pins s σ H _ inv hq) fun us s1 ⟨xs, H1, inv1, vals, fit, q⟩ => ⟨vals.length ▸ fit, laid_fz (s := s1) inv1 vals fit q⟩)⟩
def rCatZ (K : PySem.W.Frag) : R2 := fun x y H Q => ∃ a b xs ys, x = .ref a ∧ y = .ref b ∧ SqT K H a xs ∧ SqT K H b ys ∧ xs ≠ [] ∧ xs.length + ys.length ≤ sizeLine ∧
  (ys = [] → Q (.ref a) H) ∧ (ys ≠ [] → ∀ p u, H p = none → IsFz u (xs ++ ys) → Q (.ref p) (upd H p u))
theorem op_catZ : OpR X (binaryOp .Add) (rCatZ X.K) := by
  rintro pins s σ H _ _ v u Q inv relx rely ⟨a, b, xs, ys, rfl, rfl, sa, sb, some1, fit, same, new⟩
  cases relx
  cases rely
  obtain ⟨us, valsA, tupA, _⟩ := inv.tuple sa
  obtain ⟨ws, valsB, tupB, _⟩ := inv.tuple sb
  exact HT.cat_tup tupA tupB (fun e => some1 (valsA.nil_iff.mp e)) (fun e => ⟨.ref a, H, inv, rfl, same (valsB.nil_iff.mp e)⟩)
    (fun e => laid_fz (s := s) inv (valsA.append valsB) (by rw [List.length_append]; exact fit) (new fun w => e (valsB.nil_iff.mpr w))) (by rw [← valsA.length, ← valsB.length]; exact fit)
def rTupZ (K : PySem.W.Frag) : List V → Hp → VK → Prop := fun xs H Q => ∃ p ys, xs = [.ref p] ∧ SqL K H p ys ∧ ∀ l u, H l = none → IsFz u ys → Q (.ref l) (upd H l u)
theorem call_tupleZ : CallR X (.type "tuple") (rTupZ X.K) := by
  rintro pins s σ H _ us Q inv rel ⟨p, ys, rfl, sq, q⟩
  rw [Vals.ref1 rel]
  obtain ⟨its, vals, pl, fit⟩ := inv.list sq
  exact call_tuple_list pl.isList (fun h' kp => laid_fz (s := s) (inv.kept (t' := s.toks) kp) vals fit q) (by rw [List.size_toArray, ← vals.length]; exact fit)
def tTM (r : V → List V → Hp → VK → Prop) (to : TE) (t : TA) : TE := fun σ H Q => to σ H fun x H1 => (∃ a xs, x = .ref a ∧ TpO H1 a xs) ∧ t σ H1 fun xs H2 => r x xs H2 Q
/-- t.m(e, ..), t such a tuple -/
theorem pe_tm {o e : Expr} {es : List Expr} {to : TE} {t : TA} {name : Str} {apos cpos : Pos} {id : String} {r : V → List V → Hp → VK → Prop} (slot : Slot "tuple" name id)
    (hty : typeOf (.builtin id) = pure (.type "method_descriptor")) (hm : MtR X id r) (ho : PE X o to) (ha : PA X (e :: es) t)
    (h1 : attributeBase o name X.env (eval o X.env) = eval o X.env := by rfl)
    (h2 : ((backTo cpos (starEach (e :: es) X.env)).all (fun x => !x.1) && (backToKw cpos (keywordEach [] X.env)).all (fun x => x.1.isSome) && decide ((e :: es).length + ([] : List Keyword).length + (if ([] : List Keyword).isEmpty then 0 else 1) < 30)) = true := by rfl)
    (h3 : (apos.endLine == cpos.line) = true := by rfl) (h4 : starEach (e :: es) X.env = (false, eval e X.env) :: starEach es X.env := by rfl)
    (h5 : (backTo cpos (starEach es X.env)).any (·.1) = false := by rfl) : PE X (.Call (.Attribute o name apos) (e :: es) [] cpos) (tTM r to t) := by
  refine ⟨fun pins s σ H Q inv h => wpAny_Call_method_late h1 h2 h3 rfl (thn (ho.run pins s σ H _ inv h) fun v s1 ⟨x, H1, inv1, rel, ty, q1⟩ => ?_)⟩
  obtain ⟨a, xs, rfl, _, hu, ob, rfl, hc, hd⟩ := ty
  cases rel
  have stands : s1.heap.get? a = some ob := (inv1.hok a _ hu).1
  have args := ha.run cpos pins s1 σ H1 _ inv1 q1
  rw [h4] at args
  refine ⟨"tuple", id, PySem.F.plainAttrs_tuple, slot, hty, ⟨ob, stands, hc⟩, fun b e => by cases e; exact ⟨ob, stands, hd⟩, ?_⟩
  rw [h4]
  have plain : ((false, eval e X.env) :: backTo cpos (starEach es X.env)).any (·.1) = false := by rw [List.any_cons, h5]; rfl
  exact Calls.callWith_builtin plain (Calls.evalArgs_plain (thn args fun us s2 ⟨vs, H2, inv2, rels, q2⟩ => hm pins s2 σ H2 (.ref a) vs _ us Q inv2 rfl rels q2))
end
end Lt

set_option Elab.async false
set_option linter.all false
set_option maxRecDepth 100000
set_option maxHeartbeats 4000000
namespace Lt
open PySem PySem.Spec PyProof.Rows L2
/-! ### heaps -/
theorem same_new {H : Hp} {p : Addr} (h : H p = none) (o : HO) : Same H (upd H p o) := fun b u q => by
  rw [upd_ne (ne_of_none q h)]
  exact q
theorem same_put {H H' : Hp} {p : Addr} {o : HO} (s : Same H H') (h : H p = none) : Same H (upd H' p o) := fun b u q => by
  rw [upd_ne (ne_of_none q h)]
  exact s _ _ q
theorem same_tup {K : PySem.W.Frag} {H H' : Hp} {a : Addr} {xs : List V} (e : Same H H') (h : SqT K H a xs) : SqT K H' a xs := by
  rcases h with (h | ⟨o, h⟩) | h
  · exact .inl (.inl (e _ _ h))
  · exact .inl (.inr ⟨o, e _ _ h⟩)
  · exact .inr h
theorem sqt {K : PySem.W.Frag} {H : Hp} {a : Addr} {xs : List V} (h : H a = some (.tup xs)) : SqT K H a xs := .inl (.inl h)
theorem sql {K : PySem.W.Frag} {H : Hp} {a : Addr} {xs : List V} (h : H a = some (.lst xs)) : SqL K H a xs := .inl (.inl h)
/-- all but what stands at T is as it was -/
def SameT (T : Addr) (H H' : Hp) : Prop := ∀ b o, b ≠ T → H b = some o → H' b = some o
theorem SameT.refl (T : Addr) (H : Hp) : SameT T H H := fun _ _ _ h => h
theorem SameT.trans {T : Addr} {H H1 H2 : Hp} (a : SameT T H H1) (b : SameT T H1 H2) : SameT T H H2 := fun c o n h => b c o n (a c o n h)
theorem SameT.of {T : Addr} {H H' : Hp} (s : Same H H') : SameT T H H' := fun c o _ h => s c o h
theorem SameT.free {T : Addr} {H H' : Hp} (e : SameT T H H') {l : Addr} (hl : l ≠ T) (h : H' l = none) : H l = none := by
  cases q : H l with
  | none => rfl
  | some o =>
    rw [e l o hl q] at h
    cases h
mutual
theorem dp_same {K : PySem.W.Frag} {H H' : Hp} (e : Same H H') : ∀ {v : V} {d : PyData}, Dp K H v d → Dp K H' v d
  | _, _, .non => .non
  | _, _, .bl b => .bl b
  | _, _, .int i => .int i
  | _, _, .str x => .str x
  | _, _, .lst h a => .lst (e.seq h) (dpAll_same e a)
  | _, _, .tup h a => .tup (same_tup e h) (dpAll_same e a)
theorem dpAll_same {K : PySem.W.Frag} {H H' : Hp} (e : Same H H') : ∀ {vs : List V} {ds : List PyData}, DpAll K H vs ds → DpAll K H' vs ds
  | _, _, .nil => .nil
  | _, _, .cons h t => .cons (dp_same e h) (dpAll_same e t)
end
theorem dpAll_strs {K : PySem.W.Frag} {H : Hp} : ∀ ss : List Str, DpAll K H (ss.map V.str) (ss.map PyData.str)
  | [] => .nil
  | x :: r => .cons (.str x) (dpAll_strs r)
theorem dpAll_ints {K : PySem.W.Frag} {H : Hp} : ∀ ns : List Int, DpAll K H (ns.map V.int) (ns.map PyData.int)
  | [] => .nil
  | x :: r => .cons (.int x) (dpAll_ints r)
theorem dpAll_snoc {K : PySem.W.Frag} {H : Hp} : ∀ {vs : List V} {ds : List PyData} {v : V} {d : PyData}, DpAll K H vs ds → Dp K H v d → DpAll K H (vs ++ [v]) (ds ++ [d])
  | _, _, _, _, .nil, h => .cons h .nil
  | _, _, _, _, .cons a t, h => .cons a (dpAll_snoc t h)
theorem dpAll_append {K : PySem.W.Frag} {H : Hp} : ∀ {vs ws : List V} {ds es : List PyData}, DpAll K H vs ds → DpAll K H ws es → DpAll K H (vs ++ ws) (ds ++ es)
  | _, _, _, _, .nil, h => h
  | _, _, _, _, .cons a t, h => .cons a (dpAll_append t h)
theorem dpAll_len {K : PySem.W.Frag} {H : Hp} : ∀ {vs : List V} {ds : List PyData}, DpAll K H vs ds → vs.length = ds.length
  | _, _, .nil => rfl
  | _, _, .cons _ t => congrArg (· + 1) (dpAll_len t)
theorem dpAll_get {K : PySem.W.Frag} {H : Hp} : ∀ {vs : List V} {ds : List PyData}, DpAll K H vs ds → ∀ {i : Nat} {v : V}, vs[i]? = some v → ∃ d, ds[i]? = some d ∧ Dp K H v d
  | _, _, .nil, i, v, h => by simp at h
  | _, _, .cons a t, 0, v, h => by
    simp only [List.getElem?_cons_zero, Option.some.injEq] at h
    exact ⟨_, rfl, h ▸ a⟩
  | _, _, .cons a t, i + 1, v, h => by
    simp only [List.getElem?_cons_succ] at h ⊢
    exact dpAll_get t h
theorem TpO.same {H H' : Hp} {a : Addr} {xs : List V} (h : TpO H a xs) (e : Same H H') : TpO H' a xs := h.move fun u q => e _ _ q
theorem TpO.sameT {T : Addr} {H H' : Hp} {a : Addr} {xs : List V} (h : TpO H a xs) (e : SameT T H H') (n : a ≠ T) : TpO H' a xs := h.move fun u q => e _ _ n q
/-! ### walks -/
theorem in_it {J : It} {n : Nat} {G : Hp → Prop} {Y : Nat → Hp → V → Hp → Prop} (w : Walk J n G Y) {Qd : Hp → Prop} {R : V → Hp → (Hp → Prop) → Prop} {H0 : Hp} (Pv : Nat → Hp → Prop) (h0 : Pv 0 H0)
    (hG : ∀ i H, i ≤ n → Pv i H → G H) (hs : ∀ i x H H', i < n → Pv i H → Y i H x H' → R x H' (Pv (i + 1))) (hd : ∀ H, Pv n H → Qd H) :
    ∃ W : Nat → Nat → Hp → Prop, (∃ m, W 0 m H0) ∧ ∀ i m H, W i m H → (J.stop i H ∧ Qd H) ∨
      (J.go i H ∧ ∃ Nx : Hp → Prop, (∀ H', Nx H' → ∃ m', m' < m ∧ W (i + 1) m' H') ∧ ∀ x H', J.yld i H x H' → R x H' Nx) := by
  refine ⟨fun i m H => m = n - i ∧ i ≤ n ∧ Pv i H, ⟨n, by simp, Nat.zero_le _, h0⟩, ?_⟩
  rintro i m H ⟨rfl, hi, p⟩
  by_cases hlt : i < n
  · exact .inr ⟨w.goes i H hlt (hG i H hi p), Pv (i + 1), fun H' p' => ⟨n - (i + 1), by omega, rfl, hlt, p'⟩, fun x H' y => hs i x H H' hlt p (w.yields i H x H' hlt (hG i H hi p) y)⟩
  · have e : i = n := by omega
    subst e
    exact .inl ⟨w.stops H (hG i H hi p), hd H p⟩
/-! ### the tape -/
structure Tape (H : Hp) (T S : Addr) (ns : List Int) : Prop where
  at_ : ∃ i c : Int, H T = some (.lst [.ref S, .int i, .int c])
  scr : H S = some (.lst (ns.map V.int))
theorem Tape.ne {H : Hp} {T S : Addr} {ns : List Int} (t : Tape H T S ns) : S ≠ T := by
  obtain ⟨i, c, h⟩ := t.at_
  refine ne_of t.scr h fun z => ?_
  injection z with z
  cases ns with
  | nil => cases z
  | cons a r => cases z
theorem Tape.same {H H' : Hp} {T S : Addr} {ns : List Int} (t : Tape H T S ns) (s : Same H H') : Tape H' T S ns := by
  obtain ⟨i, c, h⟩ := t.at_
  exact ⟨⟨i, c, s _ _ h⟩, s _ _ t.scr⟩
theorem Tape.put {H : Hp} {T S : Addr} {ns : List Int} (t : Tape H T S ns) (i c : Int) : Tape (upd H T (.lst [.ref S, .int i, .int c])) T S ns :=
  ⟨⟨i, c, upd_same⟩, by rw [upd_ne t.ne]; exact t.scr⟩
theorem Tape.taken {H : Hp} {T S : Addr} {ns : List Int} (t : Tape H T S ns) : ∃ o, H T = some o := by
  obtain ⟨i, c, h⟩ := t.at_
  exact ⟨_, h⟩
theorem sameT_put {T : Addr} {H : Hp} (o : HO) : SameT T H (upd H T o) := fun b u n q => by rw [upd_ne n]; exact q
theorem new_ne {H' : Hp} {T p : Addr} {o : HO} (h : H' T = some o) (n : H' p = none) : p ≠ T := fun e => by
  rw [e, h] at n
  cases n
/-! ### texts in order -/
abbrev ltS (a b : Str) : Prop := a.cps.toList < b.cps.toList
theorem str_ext {a b : Str} (h : a.cps.toList = b.cps.toList) : a = b := by
  cases a with
  | mk x =>
    cases b with
    | mk y =>
      have e : x = y := Array.toList_inj.mp h
      rw [e]
theorem ltS_tri {a b : Str} (h1 : ¬ ltS a b) (h2 : ¬ ltS b a) : a = b := by
  apply str_ext
  rw [List.not_lt] at h1 h2
  exact List.le_antisymm h2 h1
theorem ltS_asymm {a b : Str} (h : ltS a b) : ¬ ltS b a := List.lt_asymm h
theorem ltS_irrefl (a : Str) : ¬ ltS a a := List.lt_irrefl _
theorem rising_pw : ∀ (p : Str) (l : List Str), risingS p l = true → (p :: l).Pairwise fun a b => ¬ ltS b a
  | p, [], _ => List.pairwise_singleton _ _
  | p, x :: r, h => by
    have h' : (!ltCps x.cps.toList p.cps.toList && risingS x r) = true := h
    rw [Bool.and_eq_true] at h'
    have ih := rising_pw x r h'.2
    have hx : ¬ ltS x p := by
      have q := h'.1
      rw [ltCps_eq] at q
      simpa using q
    refine List.pairwise_cons.mpr ⟨fun y hy => ?_, ih⟩
    rcases List.mem_cons.mp hy with e | hy
    · rw [e]
      exact hx
    · have q := (List.pairwise_cons.mp ih).1 y hy
      intro z
      by_cases e : ltS p x
      · exact q (List.lt_trans z e)
      · rw [ltS_tri e hx] at z
        exact q z
theorem sorted_pw {l : List Str} (h : sortedS l = true) : l.Pairwise fun a b => ¬ ltS b a := by
  cases l with
  | nil => exact List.Pairwise.nil
  | cons x r => exact rising_pw x r h
theorem sorted_one {l m : List Str} (hl : sortedS l = true) (hm : sortedS m = true) (p : l.Perm m) : l = m :=
  List.Perm.eq_of_pairwise (fun a b _ _ h1 h2 => ltS_tri h2 h1) (sorted_pw hl) (sorted_pw hm) p
/-- both of a pair, the lesser first -/
def asPair (q : Str × Str) : Str × Str := if ltS q.1 q.2 then (q.1, q.2) else (q.2, q.1)
theorem sorted_two {a b : Str} {l : List Str} (p : l.Perm [a, b]) (h : sortedS l = true) : l = [(asPair (a, b)).1, (asPair (a, b)).2] := by
  refine sorted_one h ?_ (p.trans ?_)
  · unfold asPair
    by_cases c : ltS a b
    · rw [if_pos c]
      show (!ltCps b.cps.toList a.cps.toList && true) = true
      rw [ltCps_eq, decide_eq_false (ltS_asymm c)]
      rfl
    · rw [if_neg c]
      show (!ltCps a.cps.toList b.cps.toList && true) = true
      rw [ltCps_eq, decide_eq_false c]
      rfl
  · unfold asPair
    by_cases c : ltS a b
    · rw [if_pos c]
    · rw [if_neg c]
      exact List.Perm.swap b a []
/-- the pairs of a row of texts, by the place of the first -/
def prs (ys : List Str) : Nat → List (Str × Str)
  | 0 => []
  | i + 1 => prs ys i ++ match ys[i]? with
    | some a => (ys.drop (i + 1)).map fun b => (a, b)
    | none => []
theorem prs_succ {ys : List Str} {i : Nat} {a : Str} (h : ys[i]? = some a) : prs ys (i + 1) = prs ys i ++ (ys.drop (i + 1)).map fun b => (a, b) := by
  show prs ys i ++ (match ys[i]? with | some a => (ys.drop (i + 1)).map fun b => (a, b) | none => []) = _
  rw [h]
theorem prs_mem {ys : List Str} {i j : Nat} {a b : Str} (hi : ys[i]? = some a) (hj : ys[j]? = some b) (h : i < j) : ∀ n, i < n → (a, b) ∈ prs ys n
  | 0, z => by omega
  | n + 1, z => by
    by_cases e : i = n
    · subst e
      rw [prs_succ hi]
      refine List.mem_append_right _ (List.mem_map.mpr ⟨b, ?_, rfl⟩)
      have q : (ys.drop (i + 1))[j - (i + 1)]? = some b := by
        rw [List.getElem?_drop, show i + 1 + (j - (i + 1)) = j by omega]
        exact hj
      exact List.mem_of_getElem? q
    · exact List.mem_append_left _ (prs_mem hi hj h n (by omega))
theorem prs_len (ys : List Str) : ∀ n, (prs ys n).length ≤ n * ys.length
  | 0 => by simp [prs]
  | n + 1 => by
    have ih := prs_len ys n
    rw [Nat.succ_mul]
    cases h : ys[n]? with
    | none =>
      have e : prs ys (n + 1) = prs ys n ++ (match ys[n]? with | some a => (ys.drop (n + 1)).map fun b => (a, b) | none => []) := rfl
      rw [e, h, List.append_nil]
      omega
    | some a =>
      rw [prs_succ h, List.length_append, List.length_map, List.length_drop]
      omega
theorem pair_in {ys bs : List Str} {a b : Str} (p : ys.Perm bs) (hs : sortedS ys = true) (ha : a ∈ bs) (hb : b ∈ bs) (ne : a ≠ b) : asPair (a, b) ∈ prs ys ys.length := by
  have key : ∀ {c d : Str}, c ∈ bs → d ∈ bs → ltS c d → (c, d) ∈ prs ys ys.length := fun {c d} hc hd lt => by
    obtain ⟨i, hi⟩ := List.getElem?_of_mem (p.mem_iff.mpr hc)
    obtain ⟨j, hj⟩ := List.getElem?_of_mem (p.mem_iff.mpr hd)
    have li := (List.getElem?_eq_some_iff.mp hi).1
    have lj := (List.getElem?_eq_some_iff.mp hj).1
    refine prs_mem hi hj ?_ _ li
    by_cases h : i < j
    · exact h
    · exfalso
      by_cases e : i = j
      · subst e
        rw [hi] at hj
        cases hj
        exact ltS_irrefl _ lt
      · have pw := List.pairwise_iff_getElem.mp (sorted_pw hs) j i lj li (by omega)
        rw [(List.getElem?_eq_some_iff.mp hi).2, (List.getElem?_eq_some_iff.mp hj).2] at pw
        exact pw lt
  unfold asPair
  by_cases c : ltS a b
  · rw [if_pos c]
    exact key ha hb c
  · rw [if_neg c]
    refine key hb ha ?_
    by_cases d : ltS b a
    · exact d
    · exact absurd (ltS_tri c d) ne
/-! ### what readings do -/
/-- the pile behind one reading -/
def lay (bs : List Str) (b : Str) : List Str := b :: bs.eraseIdx (bs.idxOf b)
/-- the books above -/
def over (bs : List Str) (b : Str) : List Str := bs.take (bs.idxOf b)
def behindM : List Str → List Str → List Str
  | bs, [] => bs
  | bs, b :: r => behindM (lay bs b) r
def liftedM : List Str → List Str → List Nat
  | _, [] => []
  | bs, b :: r => bs.idxOf b :: liftedM (lay bs b) r
def rowsM : List Str → List Str → List (Str × Str)
  | _, [] => []
  | bs, b :: r => (over bs b).map (fun o => (b, o)) ++ rowsM (lay bs b) r
theorem behindM_snoc (bs : List Str) : ∀ (rs : List Str) (b : Str), behindM bs (rs ++ [b]) = lay (behindM bs rs) b := by
  intro rs
  induction rs generalizing bs with
  | nil => intro b; rfl
  | cons x r ih => intro b; exact ih (lay bs x) b
theorem liftedM_snoc (bs : List Str) : ∀ (rs : List Str) (b : Str), liftedM bs (rs ++ [b]) = liftedM bs rs ++ [(behindM bs rs).idxOf b] := by
  intro rs
  induction rs generalizing bs with
  | nil => intro b; rfl
  | cons x r ih =>
    intro b
    show bs.idxOf x :: liftedM (lay bs x) (r ++ [b]) = bs.idxOf x :: (liftedM (lay bs x) r ++ [(behindM (lay bs x) r).idxOf b])
    rw [ih]
theorem rowsM_snoc (bs : List Str) : ∀ (rs : List Str) (b : Str), rowsM bs (rs ++ [b]) = rowsM bs rs ++ (over (behindM bs rs) b).map fun o => (b, o) := by
  intro rs
  induction rs generalizing bs with
  | nil => intro b; exact List.append_nil _
  | cons x r ih =>
    intro b
    show (over bs x).map (fun o => (x, o)) ++ rowsM (lay bs x) (r ++ [b]) = ((over bs x).map (fun o => (x, o)) ++ rowsM (lay bs x) r) ++ (over (behindM (lay bs x) r) b).map fun o => (b, o)
    rw [ih, List.append_assoc]
theorem idx_lt {bs : List Str} {b : Str} (h : b ∈ bs) : bs.idxOf b < bs.length := List.idxOf_lt_length_iff.mpr h
theorem idx_get {bs : List Str} {b : Str} (h : b ∈ bs) : bs[bs.idxOf b]? = some b := by
  rw [List.getElem?_eq_getElem (idx_lt h), List.getElem_idxOf (idx_lt h)]
theorem idx_first {bs : List Str} {b : Str} : ∀ m, m < bs.idxOf b → bs[m]? ≠ some b := by
  induction bs with
  | nil => intro m h; simp at h
  | cons x r ih =>
    intro m h
    rw [List.idxOf_cons] at h
    by_cases e : x == b
    · rw [e] at h
      simp at h
    · have e' : (x == b) = false := by simpa using e
      rw [e'] at h
      simp only [cond_false] at h
      cases m with
      | zero =>
        intro z
        simp only [List.getElem?_cons_zero, Option.some.injEq] at z
        rw [z] at e'
        simp at e'
      | succ m =>
        simp only [List.getElem?_cons_succ]
        exact ih m (by omega)
theorem lay_perm {bs : List Str} {b : Str} (h : b ∈ bs) : (lay bs b).Perm bs := by
  have q := (List.perm_cons_erase h).symm
  rw [List.erase_eq_eraseIdx_of_idxOf rfl] at q
  exact q
theorem behindM_perm : ∀ {bs : List Str} (rs : List Str), (∀ b ∈ rs, b ∈ bs) → (behindM bs rs).Perm bs
  | bs, [], _ => List.Perm.refl _
  | bs, b :: r, h => by
    have hb := h b (List.mem_cons_self ..)
    have p := lay_perm hb
    exact (behindM_perm r fun c hc => p.mem_iff.mpr (h c (List.mem_cons_of_mem _ hc))).trans p
/-- a book above another is another -/
theorem over_ne {bs : List Str} {b o : Str} (h : o ∈ over bs b) : o ≠ b := by
  obtain ⟨m, hm⟩ := List.getElem?_of_mem h
  have l := (List.getElem?_eq_some_iff.mp hm).1
  unfold over at hm l
  rw [List.length_take] at l
  rw [List.getElem?_take_of_lt (by omega)] at hm
  intro e
  subst e
  exact idx_first m (by omega) hm
theorem over_mem {bs : List Str} {b o : Str} (h : o ∈ over bs b) : o ∈ bs := List.mem_of_mem_take h
/-- how often both passed one another -/
def cnt (rows : List (Str × Str)) (q : Str × Str) : Nat := (rows.filter fun r => decide (asPair r = q)).length
theorem cnt_nil (q : Str × Str) : cnt [] q = 0 := rfl
theorem cnt_snoc (rows : List (Str × Str)) (r q : Str × Str) : cnt (rows ++ [r]) q = cnt rows q + if asPair r = q then 1 else 0 := by
  unfold cnt
  rw [List.filter_append, List.length_append]
  by_cases h : asPair r = q
  · rw [if_pos h, List.filter_cons_of_pos (by simpa using h)]
    rfl
  · rw [if_neg h, List.filter_cons_of_neg (by simpa using h)]
    rfl
/-! ### slices -/
theorem cut_to {xs : List V} {j : Nat} (h : j ≤ xs.length) : cutV xs none (some (j : Int)) = xs.take j := by
  unfold cutV
  rw [HT.sIx_none, HT.sIx_nat, Nat.min_eq_left h]
  simp
theorem cut_from {xs : List V} {j : Nat} (h : j ≤ xs.length) : cutV xs (some (j : Int)) none = xs.drop j := by
  unfold cutV
  rw [HT.sIx_none, HT.sIx_nat, Nat.min_eq_left h]
  rw [List.take_of_length_le (by rw [List.length_drop]; omega)]
/-! ### shapes -/
theorem shaped_of {d : PyData} (h1 : d.canLay0 = true) (h2 : d.depth ≤ 64) : SeqAt.shaped d = true := by
  unfold SeqAt.shaped
  rw [h1, decide_eq_true h2]
  rfl
theorem canAll : ∀ ds : List PyData, (∀ d ∈ ds, d.canLay0 = true) → PyData.canLayAll0 ds = true
  | [], _ => by rw [PyData.canLayAll0]
  | d :: r, h => by
    rw [PyData.canLayAll0, h d (List.mem_cons_self ..), canAll r fun x hx => h x (List.mem_cons_of_mem _ hx)]
    rfl
theorem depthAll_le {n : Nat} : ∀ ds : List PyData, (∀ d ∈ ds, d.depth ≤ n) → PyData.depthAll ds ≤ n
  | [], _ => by rw [PyData.depthAll]; exact Nat.zero_le _
  | d :: r, h => by
    rw [PyData.depthAll]
    exact Nat.max_le.mpr ⟨h d (List.mem_cons_self ..), depthAll_le r fun x hx => h x (List.mem_cons_of_mem _ hx)⟩
/-! ### rules within a comprehension: the written part is named -/
section
variable {X : Cx} {K : PySem.W.Frag}
theorem ixL (e : X.K = K) : IxR X (rIxL K) := by
  subst e
  exact ix_list
theorem ixT (e : X.K = K) : IxR X (rIxT K) := by
  subst e
  exact ix_tup
theorem cLen (e : X.K = K) : CallR X (.builtin "len") (Evl.rLenS K) := by
  subst e
  exact call_len_seq
theorem cSortT (e : X.K = K) : CallR X (.builtin "sorted") (rSortedT K) := by
  subst e
  exact cr_sortedT
theorem oEqD (hu : X.A.units + 64 < cLine) (e : X.K = K) : OpR X (compareOp .Eq) (rEqD K) := by
  subst e
  exact op_eqD hu
end
end Lt

set_option Elab.async false
set_option linter.all false
set_option maxRecDepth 100000
set_option maxHeartbeats 4000000
/-! len(set(xs)) of texts, whatever stands in xs more than once. -/
namespace Lt
open PySem PySem.Spec PyProof.Rows L2
/-! ### how many unlike texts -/
def nub (l : List Str) : List Str := l.foldl (fun acc x => if x ∈ acc then acc else acc ++ [x]) []
theorem nub_snoc (l : List Str) (x : Str) : nub (l ++ [x]) = if x ∈ nub l then nub l else nub l ++ [x] := by
  unfold nub
  rw [List.foldl_append]
  rfl
theorem snoc_ind {p : List Str → Prop} (h0 : p []) (h1 : ∀ l x, p l → p (l ++ [x])) : ∀ l, p l := by
  intro l
  have z : ∀ r : List Str, p r.reverse := by
    intro r
    induction r with
    | nil => exact h0
    | cons a r ih =>
      rw [List.reverse_cons]
      exact h1 _ a ih
  have q := z l.reverse
  rwa [List.reverse_reverse] at q
theorem nub_mem (l : List Str) : ∀ z, z ∈ nub l ↔ z ∈ l := by
  refine snoc_ind (p := fun l => ∀ z, z ∈ nub l ↔ z ∈ l) (fun z => Iff.rfl) (fun l x ih z => ?_) l
  rw [nub_snoc]
  by_cases c : x ∈ nub l
  · rw [if_pos c, ih z, List.mem_append, List.mem_singleton]
    exact ⟨.inl, fun h => h.elim id fun e => by rw [e]; exact (ih x).mp c⟩
  · rw [if_neg c, List.mem_append, List.mem_append, ih z]
theorem nub_nodup (l : List Str) : (nub l).Nodup := by
  refine snoc_ind (p := fun l => (nub l).Nodup) List.nodup_nil (fun l x ih => ?_) l
  rw [nub_snoc]
  by_cases c : x ∈ nub l
  · rw [if_pos c]
    exact ih
  · rw [if_neg c]
    exact nd_snoc ih c
def dist (l : List Str) : Nat := (nub l).length
theorem dist_snoc (l : List Str) (x : Str) : dist (l ++ [x]) = if x ∈ l then dist l else dist l + 1 := by
  unfold dist
  rw [nub_snoc]
  by_cases c : x ∈ nub l
  · rw [if_pos c, if_pos ((nub_mem l x).mp c)]
  · rw [if_neg c, if_neg fun z => c ((nub_mem l x).mpr z), List.length_append]
    rfl
theorem dist_le (l : List Str) : dist l ≤ l.length := by
  refine snoc_ind (p := fun l => dist l ≤ l.length) (Nat.le_refl _) (fun l x ih => ?_) l
  rw [dist_snoc, List.length_append, List.length_singleton]
  split <;> omega
/-- unlike texts, the same ones: as many -/
theorem dist_of {l ys : List Str} (nd : ys.Nodup) (mem : ∀ z, z ∈ ys ↔ z ∈ l) : ys.length = dist l := by
  have p : ys.Perm (nub l) := by
    rw [List.perm_ext_iff_of_nodup nd (nub_nodup l)]
    exact fun z => (mem z).trans (nub_mem l z).symm
  exact p.length_eq
/-! ### the set -/
section
variable {prog : Program} {w : World} {A : Around} {R : Result → Shared → Prop} {I : Addr} {fp wr : List Addr} {G : Array GenState → Array GenState → Prop} {n : Nat} {P : Nat → Value → Prop} {St : Nat → Shared → Prop}
theorem txt_loop (W : WalksS prog w A.in1 I fp wr G n P St) (S : Addr) (off : S ∉ fp) (ss : List Str) (len : n = ss.length) (room : n + 1 < scanBound) (val : ∀ i v, P i v → ∃ z t, ss[i]? = some z ∧ v = .str z t) :
    ∀ (m i : Nat) (s : Shared), i + m = n → St i s → s.heap.SetOf (PySem.strKind prog w) S (fun z => decide (z ∈ ss.take i)) (dist (ss.take i)) →
      (∀ s', Moved (S :: wr) G s s' → s'.heap.SetOf (PySem.strKind prog w) S (fun z => decide (z ∈ ss)) (dist ss) → R (.ok (.ret .none)) s') →
      codeAny (model prog w) A (.builtin "set.update.loop" ⟨[.ref S, .ref I], []⟩) R s := by
  have offW : S ∉ wr := fun h => off (W.sub _ h)
  have more : ∀ b ∈ wr, b ∈ S :: wr := fun b hb => .tail _ hb
  have carry : ∀ {s1 s2 : Shared} {M : Str → Bool} {c : Nat}, Moved wr G s1 s2 → s1.heap.SetOf (PySem.strKind prog w) S M c → s2.heap.SetOf (PySem.strKind prog w) S M c := fun mv st => by
    obtain ⟨o, es, ep, tb, ho, rest⟩ := st
    exact ⟨o, es, ep, tb, mv.heap S _ offW ho, rest⟩
  intro m
  induction m with
  | zero =>
    intro i s him st set done
    have hin : i = n := by omega
    subst hin
    refine codeAny_builtin F.entry_set_update_loop ?_
    rw [Around.under_plainId F.plain_set_update_loop _]
    show wpAny _ A.in1 (pyNext (.ref I) >>= _) _ _ s
    refine wpAny_bind (W.done s _ _ st fun s2 mv => ?_)
    rw [List.take_of_length_le (Nat.le_of_eq len.symm)] at set
    exact wpAny_pure (done s2 (mv.mono more) (carry mv set))
  | succ m ih =>
    intro i s him st set done
    refine codeAny_builtin F.entry_set_update_loop ?_
    rw [Around.under_plainId F.plain_set_update_loop _]
    show wpAny _ A.in1 (pyNext (.ref I) >>= _) _ _ s
    refine wpAny_bind (W.item i s _ _ (by omega) st fun v s2 pv st2 mv => ?_)
    obtain ⟨z, t, hz, rfl⟩ := val i v pv
    have isz : (PySem.strKind prog w).is z (.str z t) = true := strKind_is _ _ _ _
    have few : dist (ss.take i) ≤ i := Nat.le_trans (dist_le _) (by rw [List.length_take]; omega)
    have set2 := carry mv set
    show wpAny _ A.in1 (holding [Value.str z t] (setAdd S (.str z t)) >>= _) _ _ s2
    refine wpAny_bind (wpAny_holding ?_)
    unfold setAdd
    refine wpAny_holding (wpAny_bind ((PySem.strKind prog w).pyHash (k := z) isz (wpAny_setAddHashed_of (knd := PySem.strKind prog w) (s := { s2 with toks := s2.toks + 1 }) isz rfl set2 (by omega) fun h3 same set3 => ?_)))
    have set4 : h3.SetOf (PySem.strKind prog w) S (fun y => decide (y ∈ ss.take (i + 1))) (dist (ss.take (i + 1))) := by
      have e1 : ss.take (i + 1) = ss.take i ++ [z] := by
        rw [List.take_add_one, hz]
        rfl
      refine SetOf_congr set3 (fun y => ?_) ?_
      · rw [e1]
        simp [List.mem_append]
      · rw [e1, dist_snoc]
        simp
    have keep : ∀ b o, b ≠ S → s2.heap.get? b = some o → h3.get? b = some o := fun b o hb e => (same.2 b hb).trans e
    refine wpAny_pure ⟨plainId_quiet F.plain_set_update_loop _, ih (i + 1) _ (by omega) (W.frame _ s2 _ _ st2 (Nat.le_succ _) fun b hb o e => keep b o (fun h => off (h ▸ hb)) e) set4 fun s5 mv5 set5 => ?_⟩
    exact done s5 (Moved.trans W.gtrans ((mv.mono more).then_heap (Nat.le_succ _) fun b o hb e => keep b o (fun h => hb (h ▸ List.mem_cons_self)) e) mv5) set5
end
section
variable {prog : Program} {w : World} {A : Around} {E : Value → Shared → Prop} {s : Shared}
/-- set(v): what is left is to fill the new set -/
theorem set_call {v : Value} {Q : Value → Shared → Prop} (fill : ∀ led : Bool, wpAny (model prog w) A.in1.in1 (Builtin.«set.__init__» ⟨[.ref s.heap.objs.size, v], []⟩)
      (fun fin s' => match fin with
        | .done f => wants (fun r s2 => r = .none ∧ Q (.ref s.heap.objs.size) s2) E (.ok f) s'
        | .again c => c.quiet = true ∧ codeAny (model prog w) A.in1 c (wants (fun r s2 => r = .none ∧ Q (.ref s.heap.objs.size) s2) E) s')
      (fun e s' => wants (fun r s2 => r = .none ∧ Q (.ref s.heap.objs.size) s2) E (.error e) s')
      { s with heap := s.heap.push { cls := .type "set", dict := none, data := .set #[] 0 (.fresh 0 0 led) } }) : wpAny (model prog w) A (call (.type "set") [v]) Q E s := by
  have ft := PySem.F.called_set
  obtain ⟨c, tl, mro⟩ := ft.mro
  have made := ft.made
  have sub := ft.sub
  have notT := ft.notType
  have can := ft.canCreate
  have okT := PySem.F.typeCall_set_1 v
  refine wpAny_call (codeAny_of_tree (show wpAny _ _ (callAny (.type "set") _) _ _ _ from wpAny_pure ⟨Code.quiet_builtin _ (by decide +kernel), codeAny_builtin PySem.F.entry_type_call ?_⟩))
  rw [Around.under_plain (weight_type_call_type "set" [v] []) rfl]
  repeat (any_goals (first | assumption | wp_step))
  refine codeAny_mono (code_set_new_1 v (E := E) (Q₁ := fun obj s1 => ∃ led : Bool, obj = .ref s.heap.objs.size ∧ s1 = { s with heap := s.heap.push { cls := .type "set", dict := none, data := .set #[] 0 (.fresh 0 0 led) } }) fun led => ⟨led, rfl, rfl⟩) fun r s1 got => ?_
  cases r with
  | error e => exact got
  | ok fl =>
    cases fl with
    | ret obj =>
      obtain ⟨led, rfl, rfl⟩ := got
      have isSet : Shared.TypeIs { s with heap := s.heap.push { cls := .type "set", dict := none, data := .set #[] 0 (.fresh 0 0 led) } } (.ref s.heap.objs.size) "set" := ⟨_, Heap.get?_push_size _ rfl, rfl⟩
      have look := ft.init.lookup
      have bound := ft.init.bind (.ref s.heap.objs.size)
      repeat (any_goals (first | assumption | wp_step))
      refine codeAny_mono (codeAny_call_builtin ft.init.plain PySem.F.entry_set_init (check_set_init_1 isSet (fill led))) fun r2 s2 got2 => ?_
      cases r2 with
      | error e => exact got2
      | ok fl2 =>
        cases fl2 with
        | ret r =>
          obtain ⟨rfl, q⟩ := got2
          repeat (any_goals (first | assumption | wp_step))
        | _ => exact got2.elim
    | _ => exact got.elim
theorem set_txts {l : Addr} {items : Array Value} {ss : List Str} {Q : Value → Shared → Prop} (calm : A.handled = none) (hl : s.heap.IsList l items) (val : ∀ (i : Nat) (v : Value), items[i]? = some v → ∃ z t, ss[i]? = some z ∧ v = .str z t)
    (len : items.size = ss.length) (room : items.size + 1 < scanBound)
    (h : ∀ (h' : Heap) (tk : Nat), h'.SetOf (PySem.strKind prog w) s.heap.objs.size (fun z => decide (z ∈ ss)) (dist ss) → (∀ b o, s.heap.get? b = some o → h'.get? b = some o) → Q (.ref s.heap.objs.size) { s with heap := h', toks := tk }) :
    wpAny (model prog w) A (call (.type "set") [.ref l]) Q E s := by
  refine set_call fun led => ?_
  have below : (l : Nat) < s.heap.objs.size := by
    obtain ⟨o, ho, _⟩ := hl
    exact Heap.lt_size ho
  have atS : (s.heap.push { cls := .type "set", dict := none, data := .set #[] 0 (.fresh 0 0 led) }).get? s.heap.objs.size = some { cls := .type "set", dict := none, data := .set #[] 0 (.fresh 0 0 led) } := Heap.get?_push_size _ rfl
  have hl1 : (s.heap.push { cls := .type "set", dict := none, data := .set #[] 0 (.fresh 0 0 led) }).IsList l items := hl.push _
  obtain ⟨⟨oc, od, odt, osl⟩, ho1, hc1, n1, hd1⟩ := id hl1
  simp only at hc1 hd1
  subst hc1 hd1
  have no1 := PySem.F.sub_list_set
  have no2 := PySem.F.sub_list_frozenset
  have no3 : (Value.type "list" == Value.type "dict") = false := by decide
  unfold Builtin.«set.__init__» noKeywords Builtin.Frozenset.updateFrom
  generalize hPI : pyIter = PI
  wp_walk
  subst hPI
  refine wpAny_pyIter_list hl1 (wpAny_bind (wpAny_runValue ?_))
  have top1 : (s.heap.push { cls := .type "set", dict := none, data := .set #[] 0 (.fresh 0 0 led) }).objs.size = s.heap.objs.size + 1 := Heap.size_push _ _
  have calm3 : A.in1.in1.in1.handled = none := by simp [calm]
  have neI : l ≠ (s.heap.push { cls := .type "set", dict := none, data := .set #[] 0 (.fresh 0 0 led) }).objs.size := by
    rw [top1]
    exact Nat.ne_of_lt (Nat.lt_succ_of_lt below)
  have offS : s.heap.objs.size ∉ [(s.heap.push { cls := .type "set", dict := none, data := .set #[] 0 (.fresh 0 0 led) }).objs.size, l] := by
    rw [top1]
    intro z
    rcases List.mem_cons.mp z with e | e
    · exact Nat.succ_ne_self _ e.symm
    · exact absurd (List.mem_singleton.mp e) (Nat.ne_of_gt below)
  refine txt_loop ((Walks.list calm3 _ l neI items).toS) s.heap.objs.size offS ss len room val items.size 0 _ (Nat.zero_add _) ⟨⟨_, Heap.get?_push_size _ rfl, rfl, rfl⟩, hl1.push _⟩ ?empty ?filled
  case empty =>
    refine SetOf_congr ((setObjOf_fresh (knd := PySem.strKind prog w) led).setOf (Heap.get?_push_of_some _ atS) (by unfold scanBound; omega)) (fun z => ?_) rfl
    simp
  case filled =>
    intro s5 mv set5
    obtain ⟨h5, g5, d5, tk5, os5⟩ := s5
    obtain rfl : g5 = s.gens := mv.gens
    obtain rfl : d5 = s.drawn := mv.drawn
    obtain rfl : os5 = s.os := mv.os
    show wpAny _ _ _ _ _ _
    refine wpAny_pure (show wpAny _ _ (ret Value.none) _ _ _ from wpAny_pure ⟨rfl, h h5 tk5 set5 fun b o e => ?_⟩)
    have lt : b < s.heap.objs.size := Heap.lt_size e
    refine mv.heap b o (fun z => ?_) (Heap.get?_push_of_some _ (Heap.get?_push_of_some _ e))
    rcases List.mem_cons.mp z with e2 | e2
    · exact absurd e2 (Nat.ne_of_lt lt)
    · rw [List.mem_singleton.mp e2, top1] at lt
      exact absurd lt (Nat.not_lt.mpr (Nat.le_succ _))
end
section
variable {X : Cx}
def tLenSetS (K : PySem.W.Frag) (ta : TE) : TE := fun σ H Q => ta σ H fun x H1 => ∃ (l : Addr) (ss : List Str), x = .ref l ∧ SqL K H1 l (ss.map V.str) ∧ ss.length ≤ 1000 ∧ Q (.int (dist ss : Nat)) H1
theorem pe_lenSetS {a : Expr} {ta : TE} {p p2 q pos : Pos} (hcalm : X.calm = true) (g1 : Gl X "len") (m1 : X.mg "len" = none) (g2 : Gl X "set") (m2 : X.mg "set" = none) (ha : PE X a ta)
    (one : starEach [a] X.env = (false, eval a X.env) :: starEach [] X.env := by rfl) : PE X (.Call (.Name "len" p) [.Call (.Name "set" p2) [a] [] q] [] pos) (tLenSetS X.K ta) := by
  refine ⟨fun pins s σ H Q inv h => Call_ (ld_blt inv g1 m1 boot_len (callWith_builtin1 (args_cons ?_ rfl) rfl rfl))⟩
  refine Call_ (ld_blt inv g2 m2 boot_set (callWith_type1 (args_cons (thn (ha.run pins s σ H _ inv h) fun v s1 ⟨x, H1, inv1, rel, l, ss, ev, sq, few, q1⟩ => args_nil ?_) one) one rfl))
  subst ev
  cases rel
  obtain ⟨its, vals, pl, _⟩ := inv1.list sq
  have len : its.toArray.size = ss.length := by rw [List.size_toArray, ← vals.length, List.length_map]
  refine set_txts (ss := ss) (inv1.ok.hd hcalm) pl.isList (fun i v e => ?_) len (by rw [len]; unfold scanBound; omega) fun h' tk set kept => args_nil ?_
  · have e' : its[i]? = some v := by simpa using e
    have hi : i < ss.length := by
      have z := (List.getElem?_eq_some_iff.mp e').1
      rw [← len, List.size_toArray]
      exact z
    obtain ⟨u, g3, t, g4⟩ := vals.get (i := i) (x := .str ss[i]) (by simp [hi])
    rw [e'] at g3
    cases g3
    exact ⟨ss[i], t, List.getElem?_eq_getElem hi, g4⟩
  · obtain ⟨o, es, ep, tb, ho, ex, hd, _, _, _, fits, num⟩ := set
    have small : dist ss ≤ 1000 := Nat.le_trans (dist_le ss) few
    have inv2 : Inv X pins σ H1 { s1 with heap := h', toks := tk } := inv1.kept kept
    exact call_len_set ho ex hd fits (by rw [num]; omega) ⟨.int (dist ss : Nat), H1, inv2.tok _, ⟨_, by rw [num]⟩, q1⟩
end
end Lt

set_option Elab.async false
set_option linter.all false
set_option maxRecDepth 100000
set_option maxHeartbeats 4000000
namespace Lt
open PySem PySem.Spec PyProof.Rows L2
/-! ### who lies above was wanted since -/
theorem nub_cons (b : Str) (l : List Str) : nub (b :: l) = b :: (nub l).filter (fun z => decide (z ≠ b)) := by
  refine snoc_ind (p := fun l => nub (b :: l) = b :: (nub l).filter fun z => decide (z ≠ b)) rfl (fun l x ih => ?_) l
  have e : b :: (l ++ [x]) = (b :: l) ++ [x] := rfl
  have m1 : x ∈ nub (b :: l) ↔ x = b ∨ x ∈ nub l := by rw [nub_mem, nub_mem, List.mem_cons]
  rw [e, nub_snoc, nub_snoc]
  by_cases c : x ∈ nub l
  · rw [if_pos c, if_pos (m1.mpr (.inr c)), ih]
  · rw [if_neg c, List.filter_append]
    by_cases d : x = b
    · rw [if_pos (m1.mpr (.inl d)), ih, List.filter_cons_of_neg (by simpa using d), List.filter_nil, List.append_nil]
    · rw [if_neg fun z => (m1.mp z).elim d c, ih, List.filter_cons_of_pos (by simpa using d), List.filter_nil]
      rfl
theorem lay_filter {cur : List Str} {b : Str} (nd : cur.Nodup) : lay cur b = b :: cur.filter (fun z => decide (z ≠ b)) := by
  unfold lay
  rw [← List.erase_eq_eraseIdx_of_idxOf rfl, nd.erase_eq_filter]
  congr 1
  apply List.filter_congr
  intro z _
  by_cases e : z = b
  · subst e
    simp
  · have z1 : (z != b) = true := by simpa using e
    rw [z1]
    simp [e]
theorem behind_is {bs : List Str} (nd : bs.Nodup) : ∀ rs : List Str, (∀ b ∈ rs, b ∈ bs) → behindM bs rs = nub rs.reverse ++ bs.filter fun z => decide (z ∉ rs) := by
  refine snoc_ind (p := fun rs => (∀ b ∈ rs, b ∈ bs) → behindM bs rs = nub rs.reverse ++ bs.filter fun z => decide (z ∉ rs)) (fun _ => ?_) (fun rs b ih h => ?_)
  · show bs = [] ++ bs.filter fun z => decide (z ∉ ([] : List Str))
    rw [List.nil_append, List.filter_eq_self.mpr fun z _ => by simp]
  · have h1 : ∀ c ∈ rs, c ∈ bs := fun c hc => h c (List.mem_append_left _ hc)
    have nd2 : (behindM bs rs).Nodup := (behindM_perm rs h1).nodup_iff.mpr nd
    rw [behindM_snoc, lay_filter nd2, ih h1, List.filter_append, List.reverse_append, List.reverse_singleton]
    show b :: _ = nub (b :: rs.reverse) ++ _
    rw [nub_cons, List.filter_filter]
    show b :: _ = b :: ((nub rs.reverse).filter (fun z => decide (z ≠ b)) ++ bs.filter fun z => decide (z ∉ rs ++ [b]))
    congr 2
    apply List.filter_congr
    intro z _
    by_cases c1 : z ∈ rs
    · simp [c1]
    · by_cases c2 : z = b
      · simp [c2]
      · simp [c1, c2]
theorem nub_prefix (l : List Str) : ∀ r : List Str, ∃ t, nub (l ++ r) = nub l ++ t := by
  refine snoc_ind (p := fun r => ∃ t, nub (l ++ r) = nub l ++ t) ⟨[], by rw [List.append_nil, List.append_nil]⟩ (fun r x ih => ?_)
  obtain ⟨t, e⟩ := ih
  rw [← List.append_assoc, nub_snoc, e]
  by_cases c : x ∈ nub l ++ t
  · rw [if_pos c]
    exact ⟨t, rfl⟩
  · rw [if_neg c]
    exact ⟨t ++ [x], by rw [List.append_assoc]⟩
theorem idx_mid {l r : List Str} {b : Str} (h : b ∉ l) : (l ++ b :: r).idxOf b = l.length := by
  rw [List.idxOf_append, if_neg h, List.idxOf_cons_self, Nat.zero_add]
theorem nub_idx {l r : List Str} {b : Str} (h : b ∉ l) : (nub (l ++ b :: r)).idxOf b = (nub l).length := by
  obtain ⟨t, e⟩ := nub_prefix (l ++ [b]) r
  rw [List.append_assoc] at e
  have e2 : l ++ ([b] ++ r) = l ++ b :: r := rfl
  have nb : b ∉ nub l := fun z => h ((nub_mem l b).mp z)
  rw [e2, nub_snoc, if_neg nb, List.append_assoc] at e
  rw [e]
  exact idx_mid nb
theorem split_at {l : List Str} {b : Str} (h : b ∈ l) : l = l.take (l.idxOf b) ++ b :: l.drop (l.idxOf b + 1) ∧ b ∉ l.take (l.idxOf b) := by
  refine ⟨?_, fun z => over_ne (bs := l) (b := b) (o := b) z rfl⟩
  have i := idx_lt h
  have e := List.take_append_drop (l.idxOf b) l
  rw [List.drop_eq_getElem_cons i, List.getElem_idxOf i] at e
  exact e.symm
theorem lifted_seen {bs a : List Str} {b : Str} (nd : bs.Nodup) (ha : ∀ c ∈ a, c ∈ bs) (hb : b ∈ a) : (behindM bs a).idxOf b = dist (a.drop (a.length - a.reverse.idxOf b)) := by
  have hr : b ∈ a.reverse := List.mem_reverse.mpr hb
  obtain ⟨e, no⟩ := split_at hr
  have hn : b ∈ nub a.reverse := (nub_mem _ b).mpr hr
  rw [behind_is nd a ha, List.idxOf_append, if_pos hn]
  have k := nub_idx (l := a.reverse.take (a.reverse.idxOf b)) (r := a.reverse.drop (a.reverse.idxOf b + 1)) no
  rw [← e] at k
  rw [k]
  refine dist_of (nub_nodup _) fun z => ?_
  rw [nub_mem, List.take_reverse, List.mem_reverse]
theorem lifted_new {bs a : List Str} {b : Str} (nd : bs.Nodup) (ha : ∀ c ∈ a, c ∈ bs) (hbs : b ∈ bs) (hb : b ∉ a) : (behindM bs a).idxOf b = dist (a ++ over bs b) := by
  have hr : b ∉ nub a.reverse := fun z => hb (List.mem_reverse.mp ((nub_mem _ b).mp z))
  obtain ⟨e, no⟩ := split_at hbs
  have ef : (bs.filter fun z => decide (z ∉ a)).idxOf b = ((over bs b).filter fun z => decide (z ∉ a)).length := by
    have e2 : bs.filter (fun z => decide (z ∉ a)) = ((over bs b).filter fun z => decide (z ∉ a)) ++ b :: (bs.drop (bs.idxOf b + 1)).filter fun z => decide (z ∉ a) := by
      conv =>
        lhs
        rw [e]
      rw [List.filter_append, List.filter_cons_of_pos (by simpa using hb)]
      rfl
    rw [e2]
    exact idx_mid fun z => no ((List.mem_filter.mp z).1)
  rw [behind_is nd a ha, List.idxOf_append, if_neg hr, ef, Nat.add_comm, ← List.length_append]
  refine dist_of ?_ fun z => ?_
  · rw [List.nodup_append]
    refine ⟨nub_nodup _, (nd.sublist (List.take_sublist _ _)).filter _, fun x hx y hy xy => ?_⟩
    subst xy
    have z1 := List.mem_reverse.mp ((nub_mem _ _).mp hx)
    have z2 := (List.mem_filter.mp hy).2
    simp [z1] at z2
  · rw [List.mem_append, List.mem_append, nub_mem, List.mem_reverse, List.mem_filter]
    by_cases c : z ∈ a
    · simp [c]
    · simp [c]
theorem behindM_append (bs : List Str) : ∀ one two : List Str, behindM bs (one ++ two) = behindM (behindM bs one) two := by
  intro one
  induction one generalizing bs with
  | nil => intro two; rfl
  | cons x r ih => intro two; exact ih (lay bs x) two
theorem liftedM_append (bs : List Str) : ∀ one two : List Str, liftedM bs (one ++ two) = liftedM bs one ++ liftedM (behindM bs one) two := by
  intro one
  induction one generalizing bs with
  | nil => intro two; rfl
  | cons x r ih =>
    intro two
    show bs.idxOf x :: liftedM (lay bs x) (r ++ two) = bs.idxOf x :: (liftedM (lay bs x) r ++ liftedM (behindM (lay bs x) r) two)
    rw [ih]
theorem liftedM_get (bs : List Str) : ∀ (rs : List Str) (i : Nat) (b : Str), rs[i]? = some b → (liftedM bs rs)[i]? = some ((behindM bs (rs.take i)).idxOf b) := by
  intro rs
  induction rs generalizing bs with
  | nil => intro i b h; simp at h
  | cons x r ih =>
    intro i b h
    cases i with
    | zero =>
      simp only [List.getElem?_cons_zero, Option.some.injEq] at h
      subst h
      rfl
    | succ i =>
      simp only [List.getElem?_cons_succ] at h
      exact ih (lay bs x) i b h
/-! ### all that were lifted are all passings -/
theorem rows_count : ∀ {bs : List Str} (rs : List Str), (∀ b ∈ rs, b ∈ bs) → (rowsM bs rs).length = (liftedM bs rs).sum
  | bs, [], _ => rfl
  | bs, b :: r, h => by
    have hb := h b (List.mem_cons_self ..)
    have p := lay_perm hb
    have ih := rows_count (bs := lay bs b) r fun c hc => p.mem_iff.mpr (h c (List.mem_cons_of_mem _ hc))
    show ((over bs b).map (fun o => (b, o)) ++ rowsM (lay bs b) r).length = (bs.idxOf b :: liftedM (lay bs b) r).sum
    have i := idx_lt hb
    rw [List.length_append, List.length_map, ih, List.sum_cons]
    unfold over
    rw [List.length_take, Nat.min_eq_left (Nat.le_of_lt i)]
theorem sum_one {ps : List (Str × Str)} {q : Str × Str} (nd : ps.Nodup) (h : q ∈ ps) : (ps.map fun z => if q = z then 1 else 0).sum = 1 := by
  induction ps with
  | nil => cases h
  | cons a r ih =>
    rw [List.map_cons, List.sum_cons]
    obtain ⟨n1, n2⟩ := List.nodup_cons.mp nd
    by_cases e : q = a
    · subst e
      have z : (r.map fun z => if q = z then 1 else 0).sum = 0 := by
        have all : ∀ z ∈ r, q ≠ z := fun z hz e => n1 (e ▸ hz)
        clear ih h nd n1 n2
        induction r with
        | nil => rfl
        | cons c r ih2 =>
          rw [List.map_cons, List.sum_cons, if_neg (all c (List.mem_cons_self ..)), ih2 fun z hz => all z (List.mem_cons_of_mem _ hz)]
      rw [if_pos rfl, z]
    · rw [if_neg e, Nat.zero_add]
      exact ih n2 ((List.mem_cons.mp h).resolve_left e)
theorem cnt_sum {ps : List (Str × Str)} (nd : ps.Nodup) : ∀ rows : List (Str × Str), (∀ r ∈ rows, asPair r ∈ ps) → (ps.map fun q => cnt rows q).sum = rows.length := by
  intro rows
  have key : ∀ l : List (Str × Str), (∀ r ∈ l.reverse, asPair r ∈ ps) → (ps.map fun q => cnt l.reverse q).sum = l.length := by
    intro l
    induction l with
    | nil =>
      intro _
      have z : ∀ ps : List (Str × Str), (ps.map fun q => cnt [] q).sum = 0 := by
        intro ps
        induction ps with
        | nil => rfl
        | cons a r ih => rw [List.map_cons, List.sum_cons, cnt_nil, ih]
      exact z ps
    | cons r l ih =>
      intro h
      rw [List.reverse_cons] at h ⊢
      have hr := h r (by simp)
      have e : (ps.map fun q => cnt (l.reverse ++ [r]) q) = ps.map fun q => cnt l.reverse q + if asPair r = q then 1 else 0 := by
        apply List.map_congr_left
        intro q _
        exact cnt_snoc _ _ _
      have add : ∀ (ps : List (Str × Str)) (f g : Str × Str → Nat), (ps.map fun q => f q + g q).sum = (ps.map f).sum + (ps.map g).sum := by
        intro ps f g
        induction ps with
        | nil => rfl
        | cons a r ih =>
          rw [List.map_cons, List.sum_cons, List.map_cons, List.sum_cons, List.map_cons, List.sum_cons, ih]
          omega
      rw [e, add, ih fun z hz => h z (List.mem_append_left _ hz), sum_one nd hr, List.length_cons]
  intro h
  have z := key rows.reverse (by rw [List.reverse_reverse]; exact h)
  rw [List.reverse_reverse, List.length_reverse] at z
  exact z
theorem prs_fst {ys : List Str} : ∀ {n : Nat} {q : Str × Str}, q ∈ prs ys n → ∃ k, k < n ∧ ys[k]? = some q.1
  | 0, q, h => by cases h
  | n + 1, q, h => by
    cases e : ys[n]? with
    | none =>
      have e2 : prs ys (n + 1) = prs ys n ++ (match ys[n]? with | some a => (ys.drop (n + 1)).map fun b => (a, b) | none => []) := rfl
      rw [e2, e, List.append_nil] at h
      obtain ⟨k, h1, h2⟩ := prs_fst h
      exact ⟨k, by omega, h2⟩
    | some a =>
      rw [prs_succ e] at h
      rcases List.mem_append.mp h with h | h
      · obtain ⟨k, h1, h2⟩ := prs_fst h
        exact ⟨k, by omega, h2⟩
      · obtain ⟨b, hb, rfl⟩ := List.mem_map.mp h
        exact ⟨n, by omega, e⟩
theorem prs_nodup {ys : List Str} (nd : ys.Nodup) : ∀ n, (prs ys n).Nodup
  | 0 => List.nodup_nil
  | n + 1 => by
    cases e : ys[n]? with
    | none =>
      have e2 : prs ys (n + 1) = prs ys n ++ (match ys[n]? with | some a => (ys.drop (n + 1)).map fun b => (a, b) | none => []) := rfl
      rw [e2, e, List.append_nil]
      exact prs_nodup nd n
    | some a =>
      rw [prs_succ e, List.nodup_append]
      refine ⟨prs_nodup nd n, ?_, fun x hx y hy xy => ?_⟩
      · have nd2 : (ys.drop (n + 1)).Nodup := nd.sublist (List.drop_sublist _ _)
        exact List.Pairwise.map _ (fun x y ne z => ne (Prod.mk.inj z).2) nd2
      · subst xy
        obtain ⟨k, h1, h2⟩ := prs_fst hx
        obtain ⟨b, hb, rfl⟩ := List.mem_map.mp hy
        have z := nd_ix nd h2 e
        omega
end Lt

set_option Elab.async false
set_option linter.all false
set_option maxRecDepth 100000
set_option maxHeartbeats 4000000
namespace Lt
open PySem PySem.Spec PyProof.Rows L2
section
variable {P : Program} {w : World} {K : PySem.W.Frag} {mg : Str → Option Value} {base : Heap} {X : Cx}
theorem log_of {m : Int} (h0 : 0 < m) (h1 : m ≤ 1000000000000000000) : m.natAbs.log2 < 9000 := by
  have z : m.natAbs.log2 < 60 := (Nat.log2_lt (by omega)).mpr (Nat.lt_of_le_of_lt (show m.natAbs ≤ 1000000000000000000 by omega) (by decide))
  omega
theorem upd_self {H : Hp} {a : Addr} {o : HO} (h : H a = some o) : upd H a o = H := by
  funext b
  unfold upd
  by_cases e : b = a
  · rw [if_pos e, e, h]
  · rw [if_neg e]
def spDraw : Sp := fun vs H Q _ => ∃ (T S : Addr) (ns : List Int) (m : Int), vs = [.ref T, .int m] ∧ Tape H T S ns ∧ 0 < m ∧ m ≤ 1000000000000000000 ∧
  ∀ r i c : Int, 0 ≤ r → r < m → Q (.int r) (upd H T (.lst [.ref S, .int i, .int c]))
def Has (P : Program) (w : World) (K : PySem.W.Frag) (mg : Str → Option Value) (base : Heap) (k : Nat) (x : Str) (ps : List Str) (sp : Sp) : Prop :=
  ∃ (f : Addr) (fd : FuncData), FnOk P w K mg base CX0 k f fd ps sp ∧ mg x = some (.ref f) ∧ PySem.W.keepIn K (.ref f) = true ∧ Binds K fd ps []
theorem pe_go {k j : Nat} {x : Str} {ps : List Str} {sp : Sp} {e : Expr} {es : List Expr} {p pos : Pos} {t : TA} (c : Has X.prog X.w X.K X.mg X.base k x ps sp) (hr : Room j X.A) (hk : k ≤ j) (hg : Gl X x) (h : PA X (e :: es) t)
    (h1 : (x == ("__debug__" : Str)) = false := by decide) (h2 : starEach (e :: es) X.env = (false, eval e X.env) :: starEach es X.env := by rfl)
    (h3 : (backTo pos (starEach es X.env)).any (·.1) = false := by rfl) : PE X (.Call (.Name x p) (e :: es) [] pos) (tCall sp [] E0 t) := by
  obtain ⟨f, fd, F, m, kp, b⟩ := c
  exact pe_call F (hr.mono hk) hg m kp b .nil pass0 h h1 h2 h3
theorem pe_go0 {k j : Nat} {x : Str} {ps : List Str} {sp : Sp} {p pos : Pos} (c : Has X.prog X.w X.K X.mg X.base k x ps sp) (hr : Room j X.A) (hk : k ≤ j) (hg : Gl X x)
    (h1 : (x == ("__debug__" : Str)) = false := by decide) : PE X (.Call (.Name x p) [] [] pos) (tCall sp [] E0 tNil) := by
  obtain ⟨f, fd, F, m, kp, b⟩ := c
  exact pe_call0 F (hr.mono hk) hg m kp b .nil pass0 h1
structure Bi (mg : Str → Option Value) : Prop where
  len : mg "len" = none
  range : mg "range" = none
  tuple : mg "tuple" = none
  list : mg "list" = none
  sorted : mg "sorted" = none
  enumerate : mg "enumerate" = none
  isinstance : mg "isinstance" = none
  bool : mg "bool" = none
  set : mg "set" = none
  sum : mg "sum" = none
  min : mg "min" = none
  max : mg "max" = none
  dict : mg "dict" = none
  reversed : mg "reversed" = none
  all : mg "all" = none
  any : mg "any" = none
  int : mg "int" = none
  str : mg "str" = none
  zip : mg "zip" = none
def books : List Str := ["atlas", "bible", "comics", "diary", "essays", "fables", "guide"]
theorem books_nd : books.Nodup := by decide +kernel
theorem books_ok : ∀ b ∈ books, PyData.strOk b = true := by decide +kernel
structure IsPile (bs : List Str) : Prop where
  nd : bs.Nodup
  pos : 0 < bs.length
  most : bs.length ≤ 7
  ok : ∀ b ∈ bs, b ∈ books
abbrev natV (k : Nat) : V := .int (k : Int)
def spOrder : Sp := fun vs H Q _ => ∃ (T S : Addr) (ns : List Int) (n : Nat), vs = [.ref T, .int n] ∧ Tape H T S ns ∧ n ≤ 1000 ∧
  ∀ (p : Addr) (H' : Hp) (qs : List Nat), SameT T H H' → Tape H' T S ns → H p = none → H' p = some (.tup (qs.map natV)) → qs.Perm (List.range n) → Q (.ref p) H'
def spBooks : Sp := fun vs H Q _ => vs = [] ∧ ∀ p, H p = none → Q (.ref p) (upd H p (.lst (books.map V.str)))
def pick (bs : List Str) (qs : List Nat) : List Str := qs.map fun k => (bs[k]?).getD Str.empty
theorem pick_range (bs : List Str) : pick bs (List.range bs.length) = bs := by
  apply List.ext_getElem?
  intro i
  unfold pick
  rw [List.getElem?_map]
  by_cases h : i < bs.length
  · rw [List.getElem?_range h, List.getElem?_eq_getElem h]
    show some ((bs[i]?).getD Str.empty) = some bs[i]
    rw [List.getElem?_eq_getElem h]
    rfl
  · rw [List.getElem?_eq_none (by rw [List.length_range]; omega), List.getElem?_eq_none (by omega)]
    rfl
theorem pick_perm {bs : List Str} {qs : List Nat} (h : qs.Perm (List.range bs.length)) : (pick bs qs).Perm bs := by
  have q := h.map fun k => (bs[k]?).getD Str.empty
  have e : (List.range bs.length).map (fun k => (bs[k]?).getD Str.empty) = bs := pick_range bs
  rw [e] at q
  exact q
theorem pile_of {n : Nat} {qs : List Nat} (h0 : 0 < n) (h7 : n ≤ 7) (h : qs.Perm (List.range n)) : IsPile (pick (books.take n) qs) := by
  have hl : (books.take n).length = n := by
    rw [List.length_take]
    show min n 7 = n
    omega
  have p : (pick (books.take n) qs).Perm (books.take n) := pick_perm (by rw [hl]; exact h)
  refine ⟨p.nodup_iff.mpr (books_nd.sublist (List.take_sublist _ _)), ?_, ?_, fun b hb => List.mem_of_mem_take (p.mem_iff.mp hb)⟩
  · rw [p.length_eq, hl]
    exact h0
  · rw [p.length_eq, hl]
    exact h7
def spPile : Sp := fun vs H Q _ => ∃ (T S : Addr) (ns : List Int) (m : Int), vs = [.ref T, .int m] ∧ Tape H T S ns ∧ 0 < m ∧ m ≤ 7 ∧
  ∀ (p : Addr) (H' : Hp) (bs : List Str), SameT T H H' → Tape H' T S ns → H p = none → TpO H' p (bs.map V.str) → IsPile bs → (bs.length : Int) ≤ m → Q (.ref p) H'
def spReadings : Sp := fun vs H Q _ => ∃ (T S p : Addr) (ns : List Int) (bs : List Str) (m : Int), vs = [.ref T, .ref p, .int m] ∧ Tape H T S ns ∧ TpO H p (bs.map V.str) ∧ 0 < bs.length ∧ bs.length ≤ 7 ∧ 0 ≤ m ∧ m ≤ 60 ∧
  ∀ (l : Addr) (H' : Hp) (rs : List Str), SameT T H H' → Tape H' T S ns → H l = none → H' l = some (.lst (rs.map V.str)) → (rs.length : Int) ≤ m → (∀ b ∈ rs, b ∈ bs) → Q (.ref l) H'
theorem lay_map (bs : List Str) (b : Str) : (lay bs b).map V.str = [V.str b] ++ ((bs.take (bs.idxOf b)).map V.str ++ (bs.drop (bs.idxOf b + 1)).map V.str) := by
  unfold lay
  rw [List.map_cons, List.eraseIdx_eq_take_drop_succ, List.map_append]
  rfl
def spLaid : Sp := fun vs H Q _ => ∃ (p : Addr) (bs : List Str) (b : Str), vs = [.ref p, .str b] ∧ TpO H p (bs.map V.str) ∧ b ∈ bs ∧ bs.length ≤ 1000 ∧
  ∀ (q : Addr) (H' : Hp), Same H H' → TpO H' q ((lay bs b).map V.str) → Q (.ref q) H'
def spAbove : Sp := fun vs H Q _ => ∃ (p : Addr) (bs : List Str) (b : Str), vs = [.ref p, .str b] ∧ TpO H p (bs.map V.str) ∧ b ∈ bs ∧
  ∀ (q : Addr) (H' : Hp), Same H H' → H' q = some (.tup ((over bs b).map V.str)) → Q (.ref q) H'
def spAsPair : Sp := fun vs H Q _ => ∃ a b : Str, vs = [.str a, .str b] ∧ ∀ q : Addr, H q = none → Q (.ref q) (upd H q (.tup [.str (asPair (a, b)).1, .str (asPair (a, b)).2]))
def spBehind : Sp := fun vs H Q _ => ∃ (p r : Addr) (bs rs : List Str), vs = [.ref p, .ref r] ∧ TpO H p (bs.map V.str) ∧ H r = some (.lst (rs.map V.str)) ∧ bs.length ≤ 1000 ∧ (∀ b ∈ rs, b ∈ bs) ∧
  ∀ (q : Addr) (H' : Hp), Same H H' → TpO H' q ((behindM bs rs).map V.str) → Q (.ref q) H'
theorem take_step {rs : List Str} {i : Nat} {b : Str} (h : rs[i]? = some b) : rs.take (i + 1) = rs.take i ++ [b] := by
  rw [List.take_add_one, h]
  rfl
theorem take_sub {bs rs : List Str} (h : ∀ b ∈ rs, b ∈ bs) (i : Nat) : ∀ b ∈ rs.take i, b ∈ bs := fun b hb => h b (List.mem_of_mem_take hb)
theorem strs_get {rs : List Str} {i : Nat} {x : V} (h : (rs.map V.str)[i]? = some x) : ∃ b, rs[i]? = some b ∧ x = .str b := by
  rw [List.getElem?_map] at h
  cases e : rs[i]? with
  | none =>
    rw [e] at h
    cases h
  | some b =>
    rw [e] at h
    cases h
    exact ⟨b, rfl, rfl⟩
def spLifted : Sp := fun vs H Q _ => ∃ (p r : Addr) (bs rs : List Str), vs = [.ref p, .ref r] ∧ TpO H p (bs.map V.str) ∧ H r = some (.lst (rs.map V.str)) ∧ bs.length ≤ 1000 ∧ rs.length ≤ 1000 ∧ (∀ b ∈ rs, b ∈ bs) ∧
  ∀ (l : Addr) (H' : Hp), Same H H' → H l = none → H' l = some (.lst ((liftedM bs rs).map natV)) → Q (.ref l) H'
theorem liftedM_len (bs : List Str) : ∀ rs : List Str, (liftedM bs rs).length = rs.length := by
  intro rs
  induction rs generalizing bs with
  | nil => rfl
  | cons x r ih => exact congrArg (· + 1) (ih (lay bs x))
def KeepT (H H' : Hp) : Prop := ∀ b xs, H b = some (.tup xs) → H' b = some (.tup xs)
theorem KeepT.of {H H' : Hp} (s : Same H H') : KeepT H H' := fun b xs h => s _ _ h
theorem KeepT.put {H : Hp} {D : Addr} {o : HO} {u : HO} (h : H D = some u) (n : ∀ xs, u ≠ .tup xs) : KeepT H (upd H D o) := fun b xs q => by
  rw [upd_ne (ne_of q h fun z => n xs z.symm)]
  exact q
theorem KeepT.trans {H H1 H2 : Hp} (a : KeepT H H1) (b : KeepT H1 H2) : KeepT H H2 := fun c xs h => b c xs (a c xs h)
def PairsL (H : Hp) (ts : List Addr) (ps : List (Str × Str)) : Prop := ts.length = ps.length ∧ ∀ (i : Nat) (t : Addr) (q : Str × Str), ts[i]? = some t → ps[i]? = some q → H t = some (.tup [.str q.1, .str q.2])
theorem PairsL.nil (H : Hp) : PairsL H [] [] := ⟨rfl, fun i t q h => by simp at h⟩
theorem PairsL.move {H H' : Hp} {ts : List Addr} {ps : List (Str × Str)} (h : PairsL H ts ps) (k : KeepT H H') : PairsL H' ts ps := ⟨h.1, fun i t q a b => k _ _ (h.2 i t q a b)⟩
theorem PairsL.snoc {H : Hp} {ts : List Addr} {ps : List (Str × Str)} {t : Addr} {q : Str × Str} (h : PairsL H ts ps) (ht : H t = some (.tup [.str q.1, .str q.2])) : PairsL H (ts ++ [t]) (ps ++ [q]) := by
  refine ⟨by rw [List.length_append, List.length_append, h.1]; rfl, fun i t' q' a b => ?_⟩
  by_cases hi : i < ts.length
  · rw [List.getElem?_append_left hi] at a
    rw [List.getElem?_append_left (by rw [← h.1]; exact hi)] at b
    exact h.2 i t' q' a b
  · rw [List.getElem?_append_right (by omega)] at a
    rw [List.getElem?_append_right (by rw [← h.1]; omega), ← h.1] at b
    by_cases hz : i - ts.length = 0
    · rw [hz] at a b
      cases a
      cases b
      exact ht
    · rw [List.getElem?_eq_none (by rw [List.length_singleton]; omega)] at a
      cases a
abbrev sPairsData (ps : List (Str × Str)) : List PyData := ps.map fun q => .tuple [.str q.1, .str q.2]
theorem PairsL.dp {K : PySem.W.Frag} {H : Hp} : ∀ {ts : List Addr} {ps : List (Str × Str)}, PairsL H ts ps → DpAll K H (ts.map V.ref) (sPairsData ps)
  | [], [], _ => .nil
  | [], q :: r, h => by cases h.1
  | t :: ts, [], h => by cases h.1
  | t :: ts, q :: r, h => by
    refine .cons (.tup (sqt (h.2 0 t q rfl rfl)) (.cons (.str _) (.cons (.str _) .nil))) (PairsL.dp ⟨by simpa using h.1, fun i t' q' a b => h.2 (i + 1) t' q' a b⟩)
def spPairs (K : PySem.W.Frag) : Sp := fun vs H Q _ => ∃ (p : Addr) (bs : List Str), vs = [.ref p] ∧ SqT K H p (bs.map V.str) ∧ bs.length ≤ 20 ∧
  ∀ (l : Addr) (H' : Hp) (ys : List Str) (ts : List Addr), Same H H' → ys.Perm bs → sortedS ys = true → H l = none → H' l = some (.lst (ts.map V.ref)) → PairsL H' ts (prs ys ys.length) → Q (.ref l) H'
def key (q : Str × Str) : List Key := [Sum.inr q.1, Sum.inr q.2]
theorem key_inj {q r : Str × Str} (h : key q = key r) : q = r := by
  unfold key at h
  injection h with h1 h2
  injection h2 with h2 _
  injection h1 with h1
  injection h2 with h2
  exact Prod.ext h1 h2
theorem key_map (q : Str × Str) : (key q).map kV = [V.str q.1, V.str q.2] := rfl
def Counts (kvs : List (List Key × V)) (ps : List (Str × Str)) (rows : List (Str × Str)) : Prop := ∀ q ∈ ps, valV kvs (key q) = some (natV (cnt rows q))
theorem Counts.more {kvs : List (List Key × V)} {ps rows : List (Str × Str)} (h : Counts kvs ps rows) {r : Str × Str} (hr : asPair r ∈ ps) :
    Counts (putK kvs (key (asPair r)) (.int ((cnt rows (asPair r) : Int) + 1))) ps (rows ++ [r]) := fun q hq => by
  rw [valV_put, cnt_snoc]
  by_cases e : asPair r = q
  · subst e
    rw [if_pos rfl, if_pos rfl]
    rfl
  · rw [if_neg (fun z => e (key_inj z).symm), if_neg e, Nat.add_zero]
    exact h q hq
abbrev tri (rows : List (Str × Str)) (q : Str × Str) : PyData := .tuple [.str q.1, .str q.2, .int (cnt rows q : Nat)]
def TriL (rows : List (Str × Str)) (H : Hp) (ts : List Addr) (ps : List (Str × Str)) : Prop := ts.length = ps.length ∧
  ∀ (i : Nat) (t : Addr) (q : Str × Str), ts[i]? = some t → ps[i]? = some q → H t = some (.tup [.str q.1, .str q.2, natV (cnt rows q)])
theorem TriL.move {rows : List (Str × Str)} {H H' : Hp} {ts : List Addr} {ps : List (Str × Str)} (h : TriL rows H ts ps) (k : KeepT H H') : TriL rows H' ts ps := ⟨h.1, fun i t q a b => k _ _ (h.2 i t q a b)⟩
theorem TriL.snoc {rows : List (Str × Str)} {H : Hp} {ts : List Addr} {ps : List (Str × Str)} {t : Addr} {q : Str × Str} (h : TriL rows H ts ps) (ht : H t = some (.tup [.str q.1, .str q.2, natV (cnt rows q)])) : TriL rows H (ts ++ [t]) (ps ++ [q]) := by
  refine ⟨by rw [List.length_append, List.length_append, h.1]; rfl, fun i t' q' a b => ?_⟩
  by_cases hi : i < ts.length
  · rw [List.getElem?_append_left hi] at a
    rw [List.getElem?_append_left (by rw [← h.1]; exact hi)] at b
    exact h.2 i t' q' a b
  · rw [List.getElem?_append_right (by omega)] at a
    rw [List.getElem?_append_right (by rw [← h.1]; omega), ← h.1] at b
    by_cases hz : i - ts.length = 0
    · rw [hz] at a b
      cases a
      cases b
      exact ht
    · rw [List.getElem?_eq_none (by rw [List.length_singleton]; omega)] at a
      cases a
theorem TriL.dp {rows : List (Str × Str)} {K : PySem.W.Frag} {H : Hp} : ∀ {ts : List Addr} {ps : List (Str × Str)}, TriL rows H ts ps → DpAll K H (ts.map V.ref) (ps.map (tri rows))
  | [], [], _ => .nil
  | [], q :: r, h => by cases h.1
  | t :: ts, [], h => by cases h.1
  | t :: ts, q :: r, h =>
    .cons (.tup (sqt (h.2 0 t q rfl rfl)) (.cons (.str _) (.cons (.str _) (.cons (.int _) .nil)))) (TriL.dp ⟨by simpa using h.1, fun i t' q' a b => h.2 (i + 1) t' q' a b⟩)
theorem rowsM_len : ∀ {bs : List Str} (rs : List Str), (∀ b ∈ rs, b ∈ bs) → (rowsM bs rs).length ≤ rs.length * bs.length
  | bs, [], _ => Nat.zero_le _
  | bs, b :: r, h => by
    have p := lay_perm (h b (List.mem_cons_self ..))
    have ih := rowsM_len (bs := lay bs b) r fun c hc => p.mem_iff.mpr (h c (List.mem_cons_of_mem _ hc))
    rw [p.length_eq] at ih
    show ((over bs b).map (fun o => (b, o)) ++ rowsM (lay bs b) r).length ≤ (r.length + 1) * bs.length
    rw [List.length_append, List.length_map, Nat.succ_mul]
    have z : (over bs b).length ≤ bs.length := by
      unfold over
      rw [List.length_take]
      omega
    omega
def spPassings (K : PySem.W.Frag) : Sp := fun vs H Q _ => ∃ (p r : Addr) (bs rs : List Str), vs = [.ref p, .ref r] ∧ TpO H p (bs.map V.str) ∧ H r = some (.lst (rs.map V.str)) ∧ bs.length ≤ 7 ∧ rs.length ≤ 60 ∧ (∀ b ∈ rs, b ∈ bs) ∧
  ∀ (l : Addr) (H' : Hp) (ys : List Str) (xs : List V), Same H H' → H l = none → ys.Perm bs → sortedS ys = true → H' l = some (.lst xs) → DpAll K H' xs ((prs ys ys.length).map (tri (rowsM bs rs))) → Q (.ref l) H'
def spRead : Sp := fun vs H Q _ => ∃ (p r : Addr) (bs rs : List Str), vs = [.ref p, .ref r] ∧ TpO H p (bs.map V.str) ∧ H r = some (.lst (rs.map V.str)) ∧ bs.length ≤ 7 ∧ rs.length ≤ 60 ∧ (∀ b ∈ rs, b ∈ bs) ∧
  ∀ (t a n o : Addr) (H' : Hp) (ts : List Addr), Same H H' → H' t = some (.tup [.ref a, .ref n, .ref o]) → H' a = some (.tup ((behindM bs rs).map V.str)) → H' n = some (.lst ((liftedM bs rs).map natV)) →
    H' o = some (.lst (ts.map V.ref)) → PairsL H' ts (rowsM bs rs) → Q (.ref t) H'
theorem flat_map (ss : List Str) : (ss.map V.str).all flatV = true := flat_strs ss
theorem eqv_two (a b c d : Str) : PyData.eqv (.list [.str a, .str b]) (.list [.str c, .str d]) = decide ((a, b) = (c, d)) := by
  simp only [PyData.eqv, PyData.eqvAll, Bool.and_true]
  by_cases h1 : a = c
  · by_cases h2 : b = d
    · subst h1 h2
      simp
    · have z : (b == d) = false := beq_eq_false_iff_ne.mpr h2
      rw [z, Bool.and_false]
      exact (decide_eq_false fun e => h2 (Prod.mk.inj e).2).symm
  · have z : (a == c) = false := beq_eq_false_iff_ne.mpr h1
    rw [z, Bool.false_and]
    exact (decide_eq_false fun e => h1 (Prod.mk.inj e).1).symm
theorem shaped_two {a b : Str} (ha : PyData.strOk a = true) (hb : PyData.strOk b = true) : SeqAt.shaped (.list [.str a, .str b]) = true :=
  shaped_of (by simp [PyData.canLay0, PyData.canLayAll0, ha, hb]) (by simp [PyData.depth, PyData.depthAll])
def spTwo (K : PySem.W.Frag) : Sp := fun vs H Q _ => ∃ (p r : Addr) (bs : List Str) (ts : List Addr) (rows : List (Str × Str)), vs = [.ref p, .ref r] ∧ SqT K H p (bs.map V.str) ∧ bs.length ≤ 7 ∧ (∀ b ∈ bs, PyData.strOk b = true) ∧
  H r = some (.lst (ts.map V.ref)) ∧ PairsL H ts rows ∧ rows.length ≤ 900 ∧ (∀ z ∈ rows, PyData.strOk z.1 = true ∧ PyData.strOk z.2 = true) ∧
  ∀ (l : Addr) (H' : Hp) (ys : List Str) (xs : List V), Same H H' → H l = none → ys.Perm bs → sortedS ys = true → H' l = some (.lst xs) → DpAll K H' xs ((prs ys ys.length).map (tri rows)) → Q (.ref l) H'
def kindName : PyData → String
  | .none => "NoneType"
  | .bool _ => "bool"
  | .int _ => "int"
  | .str _ => "str"
  | .list _ => "list"
  | .tuple _ => "tuple"
  | .dict _ => "dict"
theorem ty_dp {H : Hp} {v : V} {d : PyData} (h : Dp K H v d) : TyX K H v (.type (kindName d)) := by
  cases h with
  | non => exact .base .non
  | bl b => exact .base (.bl b)
  | int i => exact .base (.int i)
  | str x => exact .base (.str x)
  | lst h a =>
    rcases h with (h | ⟨o, h⟩) | ⟨o, its, n, h, hc, _⟩
    · exact .base (.lst h)
    · exact .base (.frz h)
    · exact .kList h hc
  | tup h a =>
    rcases h with (h | ⟨o, h⟩) | ⟨o, its, n, h, hc, _⟩
    · exact .base (.tup h)
    · exact .fTuple h
    · exact .kTuple h hc
def Fine : Nat → PyData → Prop
  | _, .none => True
  | _, .bool _ => True
  | _, .int _ => True
  | _, .str x => PyData.strOk x = true
  | 0, .list _ => False
  | 0, .tuple _ => False
  | n + 1, .list ds => ds.length ≤ 1000 ∧ ∀ d ∈ ds, Fine n d
  | n + 1, .tuple ds => ds.length ≤ 1000 ∧ ∀ d ∈ ds, Fine n d
  | _, .dict _ => False
theorem kit_yes {K : PySem.W.Frag} {a : String} {cs : List Value} {b : String} (h : kitB a b = some true) : PySem.W.kitAny K (.type a) (.type b :: cs) = some true :=
  kitAny_cons (kit_ty h) (fun z => nomatch z) fun _ => rfl
theorem kit_no {K : PySem.W.Frag} {a : String} {cs : List Value} {b : String} {r : Bool} (h : kitB a b = some false) (t : PySem.W.kitAny K (.type a) cs = some r) : PySem.W.kitAny K (.type a) (.type b :: cs) = some r :=
  kitAny_cons (kit_ty h) (fun _ => t) fun z => nomatch z
theorem ixS (e : X.K = K) : IxR X (rIx K) := by
  subst e
  exact ix_seq
def spLike (K : PySem.W.Frag) (n : Nat) : Sp := fun vs H Q _ => ∃ (v1 v2 : V) (d : PyData) (m : Nat), n = m + 1 ∧ vs = [v1, v2] ∧ Dp K H v1 d ∧ Dp K H v2 d ∧ Fine m d ∧ ∀ H', Same H H' → Q (.bl true) H'
theorem fine_strs {ss : List Str} (hl : ss.length ≤ 1000) (ok : ∀ b ∈ ss, PyData.strOk b = true) (n : Nat) : Fine (n + 1) (.tuple (ss.map PyData.str)) := by
  refine ⟨by rw [List.length_map]; exact hl, fun d hd => ?_⟩
  obtain ⟨b, hb, rfl⟩ := List.mem_map.mp hd
  cases n <;> exact ok b hb
theorem fine_nats {ns : List Nat} (hl : ns.length ≤ 1000) (n : Nat) : Fine (n + 1) (.list ((ns.map fun k : Nat => (k : Int)).map PyData.int)) := by
  refine ⟨by rw [List.length_map, List.length_map]; exact hl, fun d hd => ?_⟩
  obtain ⟨b, hb, rfl⟩ := List.mem_map.mp hd
  cases n <;> exact True.intro
theorem natV_map (ns : List Nat) : ns.map natV = (ns.map fun k : Nat => (k : Int)).map V.int := by
  rw [List.map_map]
  rfl
theorem prs_sub {ys : List Str} : ∀ {n : Nat} {q : Str × Str}, q ∈ prs ys n → q.1 ∈ ys ∧ q.2 ∈ ys
  | 0, q, h => by cases h
  | n + 1, q, h => by
    cases e : ys[n]? with
    | none =>
      have e2 : prs ys (n + 1) = prs ys n ++ (match ys[n]? with | some a => (ys.drop (n + 1)).map fun b => (a, b) | none => []) := rfl
      rw [e2, e, List.append_nil] at h
      exact prs_sub h
    | some a =>
      rw [prs_succ e] at h
      rcases List.mem_append.mp h with h | h
      · exact prs_sub h
      · obtain ⟨b, hb, rfl⟩ := List.mem_map.mp h
        exact ⟨List.mem_of_getElem? e, List.mem_of_mem_drop hb⟩
theorem fine_tri {ys : List Str} {rows : List (Str × Str)} (hl : ys.length ≤ 7) (ok : ∀ b ∈ ys, PyData.strOk b = true) (n : Nat) : Fine (n + 2) (.list ((prs ys ys.length).map (tri rows))) := by
  have lp : (prs ys ys.length).length ≤ 49 := by
    have z := prs_len ys ys.length
    have z2 : ys.length * ys.length ≤ 7 * 7 := Nat.mul_le_mul hl hl
    omega
  refine ⟨by rw [List.length_map]; omega, fun d hd => ?_⟩
  obtain ⟨q, hq, rfl⟩ := List.mem_map.mp hd
  have z := prs_sub hq
  refine ⟨by show 3 ≤ 1000; decide, fun d hd => ?_⟩
  simp only [List.mem_cons, List.not_mem_nil, or_false] at hd
  rcases hd with rfl | rfl | rfl
  · cases n <;> exact ok _ z.1
  · cases n <;> exact ok _ z.2
  · cases n <;> exact True.intro
theorem fine_can : ∀ (n : Nat) (d : PyData), Fine n d → d.canLay0 = true ∧ d.depth ≤ n
  | n, .none, _ => ⟨by simp [PyData.canLay0], by simp [PyData.depth]⟩
  | n, .bool _, _ => ⟨by simp [PyData.canLay0], by simp [PyData.depth]⟩
  | n, .int _, _ => ⟨by simp [PyData.canLay0], by simp [PyData.depth]⟩
  | n, .str x, h => by
    have h' : PyData.strOk x = true := by cases n <;> exact h
    exact ⟨by simp [PyData.canLay0, h'], by simp [PyData.depth]⟩
  | 0, .list _, h => h.elim
  | 0, .tuple _, h => h.elim
  | n + 1, .list ds, h => by
    have a := fun d hd => fine_can n d (h.2 d hd)
    refine ⟨by rw [PyData.canLay0]; exact canAll ds fun d hd => (a d hd).1, ?_⟩
    rw [PyData.depth]
    exact Nat.succ_le_succ (depthAll_le ds fun d hd => (a d hd).2)
  | n + 1, .tuple ds, h => by
    have a := fun d hd => fine_can n d (h.2 d hd)
    refine ⟨by rw [PyData.canLay0]; exact canAll ds fun d hd => (a d hd).1, ?_⟩
    rw [PyData.depth]
    exact Nat.succ_le_succ (depthAll_le ds fun d hd => (a d hd).2)
  | n, .dict _, h => by cases n <;> exact h.elim
theorem fine_shaped {n : Nat} {d : PyData} (h : Fine n d) (hn : n ≤ 64) : SeqAt.shaped d = true := shaped_of (fine_can n d h).1 (Nat.le_trans (fine_can n d h).2 hn)
theorem fine_eqv {n : Nat} {d : PyData} (h : Fine n d) : PyData.eqv d d = true := PySem.SeqAt.eqv_refl d (fine_can n d h).1
theorem rowsM_sub : ∀ {bs : List Str} (rs : List Str), (∀ b ∈ rs, b ∈ bs) → ∀ z ∈ rowsM bs rs, z.1 ∈ bs ∧ z.2 ∈ bs
  | bs, [], _, z, hz => by cases hz
  | bs, b :: r, h, z, hz => by
    have hb := h b (List.mem_cons_self ..)
    have p := lay_perm hb
    rcases List.mem_append.mp (show z ∈ (over bs b).map (fun o => (b, o)) ++ rowsM (lay bs b) r from hz) with hz | hz
    · obtain ⟨o, ho, rfl⟩ := List.mem_map.mp hz
      exact ⟨hb, over_mem ho⟩
    · have q := rowsM_sub (bs := lay bs b) r (fun c hc => p.mem_iff.mpr (h c (List.mem_cons_of_mem _ hc))) z hz
      exact ⟨p.mem_iff.mp q.1, p.mem_iff.mp q.2⟩
def spLaw (K : PySem.W.Frag) : Sp := fun vs H Q _ => ∃ (a : Addr) (ns : List Int), vs = [.ref a] ∧ SqL K H a (ns.map V.int) ∧ ns.length ≤ 63 ∧ ∀ H', Q (.bl true) H'
end
end Lt

set_option Elab.async false
set_option linter.all false
set_option maxRecDepth 100000
set_option maxHeartbeats 4000000
namespace Lt
open PySem PySem.Spec PyProof.Rows L2
/-! rows of texts compared, asked, cut -/
theorem eqvAll_strs : ∀ xs ys : List Str, PyData.eqvAll (xs.map PyData.str) (ys.map PyData.str) = decide (xs = ys)
  | [], [] => rfl
  | [], y :: r => rfl
  | x :: r, [] => rfl
  | x :: r, y :: t => by
    show ((x == y) && PyData.eqvAll (r.map PyData.str) (t.map PyData.str)) = _
    rw [eqvAll_strs r t]
    by_cases c : x = y
    · subst c
      rw [beq_self_eq_true, Bool.true_and, decide_eq_decide]
      exact ⟨fun h => by rw [h], fun h => (List.cons.inj h).2⟩
    · rw [beq_eq_false_iff_ne.mpr c, Bool.false_and]
      exact (decide_eq_false fun h => c (List.cons.inj h).1).symm
theorem eqvL_strs (xs ys : List Str) : PyData.eqv (.list (xs.map PyData.str)) (.list (ys.map PyData.str)) = decide (xs = ys) := by
  rw [← eqvAll_strs]
  simp only [PyData.eqv]
theorem eqvT_strs (xs ys : List Str) : PyData.eqv (.tuple (xs.map PyData.str)) (.tuple (ys.map PyData.str)) = decide (xs = ys) := by
  rw [← eqvAll_strs]
  simp only [PyData.eqv]
theorem inV_strs (b : Str) (l : List Str) : inV (.str b) (l.map V.str) = decide (b ∈ l) := by
  unfold inV
  induction l with
  | nil => rfl
  | cons x r ih =>
    rw [List.map_cons, List.any_cons, ih]
    show ((x == b) || decide (b ∈ r)) = decide (b ∈ x :: r)
    by_cases e : x = b
    · subst e
      simp
    · have z : (x == b) = false := beq_eq_false_iff_ne.mpr e
      rw [z, Bool.false_or]
      by_cases c : b ∈ r
      · simp [c]
      · simp [c, Ne.symm e]
theorem oIn {X : Cx} {K : PySem.W.Frag} (e : X.K = K) : OpR X (compareOp .In) (rIn K false) := by
  subst e
  exact op_in_seq
theorem cut_all {xs : List V} {lo hi : Option Int} (h : HT.sIx xs.length 0 lo = 0 ∧ HT.sIx xs.length xs.length hi = xs.length) : cutV xs lo hi = xs := by
  unfold cutV
  rw [h.1, h.2, List.drop_zero, Nat.sub_zero, List.take_length]
/-- a tuple's slice: some tuple of the cut -/
theorem sl_of {K : PySem.W.Frag} {H : Hp} {a : Addr} {xs ys : List V} {lo hi : Option Int} {Q : VK} (sq : SqT K H a xs) (e : cutV xs lo hi = ys) (h : ∀ (b : Addr) (H2 : Hp), Same H H2 → SqT K H2 b ys → Q (.ref b) H2) : rSlA K (.ref a) lo hi H Q := by
  refine ⟨a, xs, rfl, sq, fun z => ?_, fun _ p hp => ?_⟩
  · rw [cut_all z] at e
    subst e
    exact h a H (fun _ _ h => h) sq
  · rw [e]
    exact h p _ (same_new hp _) (sqt upd_same)
theorem sl_lo {K : PySem.W.Frag} {σ : L2.St} {H : Hp} {a : Addr} {xs ys : List V} {lo : Option Int} {Q : VK} (sq : SqT K H a xs) (e : cutV xs lo none = ys) (h : ∀ (b : Addr) (H2 : Hp), Same H H2 → SqT K H2 b ys → Q (.ref b) H2) :
    tNoPart σ H fun u H3 => rSlA K (.ref a) lo u H3 Q := sl_of (lo := lo) (hi := none) sq e h
theorem filt_y {α : Type} {p : α → Bool} {b : α} (c : p b = true) : [b].filter p = [b] := by
  rw [List.filter_cons_of_pos c, List.filter_nil]
theorem filt_n {α : Type} {p : α → Bool} {b : α} (c : ¬ p b = true) : [b].filter p = [] := by
  rw [List.filter_cons_of_neg c, List.filter_nil]
/-- an expression with a word behind it: what follows is shown once -/
def tMid (te : TE) : TE := fun σ H Q => ∃ Mid : V → Hp → Prop, te σ H Mid ∧ ∀ v H', Mid v H' → Q v H'
theorem pe_mid {X : Cx} {e : Expr} {te : TE} (h : PE X e te) : PE X e (tMid te) :=
  ⟨fun pins s σ H Q I ⟨Mid, h1, h2⟩ => thn (h.run pins s σ H Mid I h1) fun v s1 ⟨x, H1, I1, r1, q1⟩ => ⟨x, H1, I1, r1, h2 _ _ q1⟩⟩
/-! a reading's first step, by its name -/
theorem un_seq {t u : TS} {D : Ends} {σ : L2.St} {H : Hp} (h : t { D with nx := u D } σ H) : tSeq t u D σ H := h
theorem un_if {r : R2} {a b : TE} {t u : TS} {D : Ends} {σ : L2.St} {H : Hp} (h : a σ H fun x H1 => b σ H1 fun y H2 => r x y H2 fun v H3 => ∃ k, v = .bl k ∧ if k = true then t D σ H3 else u D σ H3) : tIfS (tTest (tOp r a b)) t u D σ H := h
theorem un_asg {te : TE} {g : TG} {D : Ends} {σ : L2.St} {H : Hp} (h : te σ H fun x H1 => g x σ H1 D.nx) : tAsg te g D σ H := h
theorem un_for {wi : TI} {g : TG} {tb : TS} {D : Ends} {σ : L2.St} {H : Hp} (h : wi σ H fun J H1 => ∃ W : Nat → Nat → L2.St → Hp → Prop, (∃ m, W 0 m σ H1) ∧ ∀ i m σ H, W i m σ H →
  (J.stop i H ∧ D.nx σ H) ∨ (J.go i H ∧ ∃ N : L2.St → Hp → Prop, (∀ σ' H', N σ' H' → ∃ m', m' < m ∧ W (i + 1) m' σ' H') ∧ ∀ x H', J.yld i H x H' → g x σ H' fun σ2 H2 => tb { D with nx := N, ct := N, bk := D.nx } σ2 H2)) : tFor wi g tb D σ H := h
theorem cut_low {xs : List V} {j : Nat} {z : Int} (e : z = (j : Int)) (h : j ≤ xs.length) : cutV xs (some z) none = xs.drop j := by
  rw [e]
  exact cut_from h
theorem cut_high {xs : List V} {j : Nat} {z : Int} (e : z = (j : Int)) (h : j ≤ xs.length) : cutV xs none (some z) = xs.take j := by
  rw [e]
  exact cut_to h
end Lt

set_option Elab.async false
set_option linter.all false
set_option maxRecDepth 100000
set_option maxHeartbeats 4000000
/-! slices and sums of tuples whose kind is known: of the same kind again. -/
namespace Lt
open PySem PySem.Spec PyProof.Rows L2
section
variable {X : Cx}
def rSlY : V → Option Int → Option Int → Hp → VK → Prop := fun x lo hi H Q => ∃ (a : Addr) (xs : List V), x = .ref a ∧ TpO H a xs ∧ ∀ (c : Addr) (H2 : Hp), Same H H2 → TpO H2 c (cutV xs lo hi) → Q (.ref c) H2
theorem sl_tupY : SlR X rSlY := by
  rintro pins s σ H _ v vl vu lo hi sl Q inv rx hs pl pu ⟨a, xs, rfl, ha, q⟩
  by_cases hw : HT.sIx xs.length 0 lo = 0 ∧ HT.sIx xs.length xs.length hi = xs.length
  · exact sl_tupA pins s σ H _ v vl vu lo hi sl Q inv rx hs pl pu ⟨a, xs, rfl, ha.sqt, fun _ => q a H (fun _ _ h => h) (by rw [cut_all hw]; exact ha), fun z => absurd hw z⟩
  · cases rx
    obtain ⟨its, vals, tup, fit⟩ := inv.tuple (ha.sqt (K := X.K))
    have len : its.toArray.size = xs.length := by rw [List.size_toArray]; exact vals.length.symm
    refine ⟨"tuple", _, PyProof.Rows.slot_tuple_getitem.lookup, tup.typeIs, HT.getItem_tuple_cut tup hs pl pu (by rw [len]; exact hw) ?_ (by rw [len]; exact fit)⟩
    rw [len]
    exact laid_fz (s := s) inv ((vals.drop (HT.sIx xs.length 0 lo)).take (HT.sIx xs.length xs.length hi - HT.sIx xs.length 0 lo)) (Nat.le_trans (cutV_length xs lo hi) fit) fun p u hp hu => q p _ (same_new hp u) (TpO.new hu)
def rCatY : R2 := fun x y H Q => ∃ (a b : Addr) (xs ys : List V), x = .ref a ∧ y = .ref b ∧ TpO H a xs ∧ TpO H b ys ∧ xs.length + ys.length ≤ sizeLine ∧ ∀ (c : Addr) (H2 : Hp), Same H H2 → TpO H2 c (xs ++ ys) → Q (.ref c) H2
theorem op_catY : OpR X (binaryOp .Add) rCatY := by
  rintro pins s σ H _ _ v u Q inv rx ry ⟨a, b, xs, ys, rfl, rfl, ha, hb, fit, q⟩
  by_cases e : xs = []
  · subst e
    cases rx
    cases ry
    obtain ⟨its, r1, p1, _⟩ := inv.tuple (ha.sqt (K := X.K))
    obtain ⟨its2, r2, p2, _⟩ := inv.tuple (hb.sqt (K := X.K))
    cases r1
    exact cat_tup0 p1 p2 ⟨.ref b, H, inv, rfl, q b H (fun _ _ h => h) hb⟩
  · exact op_catZ pins s σ H _ _ v u Q inv rx ry ⟨a, b, xs, ys, rfl, rfl, ha.sqt, hb.sqt, e, fit, fun z => q a H (fun _ _ h => h) (by rw [z, List.append_nil]; exact ha), fun _ p w hp hw => q p _ (same_new hp w) (TpO.new hw)⟩
end
theorem cut_mid {xs : List V} {i j : Nat} {y z : Int} (ey : y = (i : Int)) (ez : z = (j : Int)) (hi : i ≤ xs.length) (hj : j ≤ xs.length) : cutV xs (some y) (some z) = (xs.drop i).take (j - i) := by
  rw [ey, ez]
  unfold cutV
  rw [HT.sIx_nat, HT.sIx_nat, Nat.min_eq_left hi, Nat.min_eq_left hj]
end Lt

set_option Elab.async false
set_option linter.all false
set_option maxRecDepth 100000
set_option maxHeartbeats 4000000
namespace Lt
open PySem PySem.Spec PyProof.Rows L2
/-! ### readings undone -/
/-- the pile ahead of the reading that lifted k -/
def putM (bs : List Str) (k : Nat) : List Str := (bs.drop 1).take k ++ bs.take 1 ++ bs.drop (k + 1)
theorem putM_cons (t : Str) (r : List Str) (k : Nat) : putM (t :: r) k = r.take k ++ t :: r.drop k := by
  show r.take k ++ [t] ++ r.drop k = _
  rw [List.append_assoc]
  rfl
theorem putM_nil (k : Nat) : putM [] k = [] := by
  unfold putM
  simp
theorem putM_perm : ∀ (bs : List Str) (k : Nat), (putM bs k).Perm bs
  | [], k => by rw [putM_nil]
  | t :: r, k => by
    rw [putM_cons]
    have z : (r.take k ++ t :: r.drop k).Perm (t :: (r.take k ++ r.drop k)) := List.perm_middle
    rw [List.take_append_drop] at z
    exact z
theorem putM_len (bs : List Str) (k : Nat) : (putM bs k).length = bs.length := (putM_perm bs k).length_eq
theorem put_lay {bs : List Str} {b : Str} (h : b ∈ bs) : putM (lay bs b) (bs.idxOf b) = bs := by
  have i := idx_lt h
  unfold lay
  rw [putM_cons, List.eraseIdx_eq_take_drop_succ, List.take_left' (by rw [List.length_take]; omega), List.drop_left' (by rw [List.length_take]; omega)]
  exact (split_at h).1.symm
theorem lay_put {t : Str} {r : List Str} {k : Nat} (nd : (t :: r).Nodup) (h : k < (t :: r).length) : (putM (t :: r) k).idxOf t = k ∧ lay (putM (t :: r) k) t = t :: r := by
  have nt := (List.nodup_cons.mp nd).1
  have lk : (r.take k).length = k := by
    rw [List.length_take]
    rw [List.length_cons] at h
    omega
  have e : (putM (t :: r) k).idxOf t = k := by
    rw [putM_cons, idx_mid (fun z => nt (List.mem_of_mem_take z)), lk]
  refine ⟨e, ?_⟩
  unfold lay
  rw [e, putM_cons, List.eraseIdx_append_of_length_le (by omega), lk, Nat.sub_self, List.eraseIdx_cons_zero, List.take_append_drop]
def unR : List Str → List Nat → List Str
  | bs, [] => bs
  | bs, k :: ks => unR (putM bs k) ks
def hdR : List Str → List Nat → List Str
  | _, [] => []
  | bs, k :: ks => bs.take 1 ++ hdR (putM bs k) ks
theorem unR_snoc (bs : List Str) (k : Nat) : ∀ ks : List Nat, unR bs (ks ++ [k]) = putM (unR bs ks) k := by
  intro ks
  induction ks generalizing bs with
  | nil => rfl
  | cons a r ih => exact ih (putM bs a)
theorem hdR_snoc (bs : List Str) (k : Nat) : ∀ ks : List Nat, hdR bs (ks ++ [k]) = hdR bs ks ++ (unR bs ks).take 1 := by
  intro ks
  induction ks generalizing bs with
  | nil =>
    show bs.take 1 ++ [] = [] ++ bs.take 1
    rw [List.append_nil, List.nil_append]
  | cons a r ih =>
    show bs.take 1 ++ hdR (putM bs a) (r ++ [k]) = (bs.take 1 ++ hdR (putM bs a) r) ++ (unR (putM bs a) r).take 1
    rw [ih, List.append_assoc]
theorem unR_perm : ∀ (bs : List Str) (ks : List Nat), (unR bs ks).Perm bs
  | bs, [] => List.Perm.refl _
  | bs, k :: ks => (unR_perm (putM bs k) ks).trans (putM_perm bs k)
theorem hdR_len : ∀ (bs : List Str) (ks : List Nat), 0 < bs.length → (hdR bs ks).length = ks.length
  | bs, [], _ => rfl
  | bs, k :: ks, h => by
    show (bs.take 1 ++ hdR (putM bs k) ks).length = _
    rw [List.length_append, hdR_len (putM bs k) ks (by rw [putM_len]; exact h), List.length_take, List.length_cons]
    omega
theorem hdR_mem : ∀ (bs : List Str) (ks : List Nat), ∀ b ∈ hdR bs ks, b ∈ bs
  | bs, [], b, h => nomatch h
  | bs, k :: ks, b, h => by
    rcases List.mem_append.mp (show b ∈ bs.take 1 ++ hdR (putM bs k) ks from h) with h | h
    · exact List.mem_of_mem_take h
    · exact (putM_perm bs k).mem_iff.mp (hdR_mem (putM bs k) ks b h)
/-- from the pile behind and the numbers: the pile ahead and the readings -/
theorem undo_of {bs : List Str} : ∀ rs : List Str, (∀ b ∈ rs, b ∈ bs) → unR (behindM bs rs) (liftedM bs rs).reverse = bs ∧ hdR (behindM bs rs) (liftedM bs rs).reverse = rs.reverse := by
  refine snoc_ind (p := fun rs => (∀ b ∈ rs, b ∈ bs) → unR (behindM bs rs) (liftedM bs rs).reverse = bs ∧ hdR (behindM bs rs) (liftedM bs rs).reverse = rs.reverse) (fun _ => ⟨rfl, rfl⟩) (fun rs b ih h => ?_)
  have h1 : ∀ c ∈ rs, c ∈ bs := fun c hc => h c (List.mem_append_left _ hc)
  have hb : b ∈ behindM bs rs := (behindM_perm rs h1).mem_iff.mpr (h b (List.mem_append_right _ (List.mem_singleton.mpr rfl)))
  obtain ⟨i1, i2⟩ := ih h1
  rw [behindM_snoc, liftedM_snoc, List.reverse_append, List.reverse_singleton, List.reverse_append, List.reverse_singleton]
  constructor
  · show unR (putM (lay (behindM bs rs) b) ((behindM bs rs).idxOf b)) (liftedM bs rs).reverse = bs
    rw [put_lay hb]
    exact i1
  · show [b] ++ hdR (putM (lay (behindM bs rs) b) ((behindM bs rs).idxOf b)) (liftedM bs rs).reverse = _
    rw [put_lay hb, i2]
/-- any numbers below how many books there are: they are lifted by the readings that they tell -/
theorem redo_of : ∀ (ks : List Nat) {bs : List Str}, bs.Nodup → (∀ k ∈ ks, k < bs.length) → behindM (unR bs ks) (hdR bs ks).reverse = bs ∧ liftedM (unR bs ks) (hdR bs ks).reverse = ks.reverse
  | [], bs, _, _ => ⟨rfl, rfl⟩
  | k :: ks, bs, nd, h => by
    have hk := h k (List.mem_cons_self ..)
    cases bs with
    | nil => exact absurd hk (Nat.not_lt_zero _)
    | cons t r =>
      have nd2 : (putM (t :: r) k).Nodup := (putM_perm _ _).nodup_iff.mpr nd
      obtain ⟨i1, i2⟩ := redo_of ks nd2 fun j hj => by rw [putM_len]; exact h j (List.mem_cons_of_mem _ hj)
      obtain ⟨l1, l2⟩ := lay_put nd hk
      have e : (hdR (t :: r) (k :: ks)).reverse = (hdR (putM (t :: r) k) ks).reverse ++ [t] := by
        show ([t] ++ hdR (putM (t :: r) k) ks).reverse = _
        rw [List.reverse_append]
        rfl
      rw [e, behindM_snoc, liftedM_snoc]
      show lay (behindM (unR (putM (t :: r) k) ks) _) t = _ ∧ liftedM (unR (putM (t :: r) k) ks) _ ++ [(behindM (unR (putM (t :: r) k) ks) _).idxOf t] = _
      rw [i1, i2, l1, l2, List.reverse_cons]
      exact ⟨rfl, rfl⟩
theorem putM_inj {bs cs : List Str} {k : Nat} (l : bs.length = cs.length) (h : putM bs k = putM cs k) : bs = cs := by
  cases bs with
  | nil =>
    cases cs with
    | nil => rfl
    | cons _ _ => cases l
  | cons t r =>
    cases cs with
    | nil => cases l
    | cons u q =>
      rw [putM_cons, putM_cons] at h
      have lr : r.length = q.length := Nat.succ.inj l
      obtain ⟨h1, h2⟩ := List.append_inj h (by rw [List.length_take, List.length_take, lr])
      obtain ⟨h3, h4⟩ := List.cons.inj h2
      rw [h3, ← List.take_append_drop k r, h1, h4, List.take_append_drop]
theorem unR_inj : ∀ (ks : List Nat) {bs cs : List Str}, bs.length = cs.length → unR bs ks = unR cs ks → bs = cs
  | [], _, _, _, h => h
  | k :: ks, bs, cs, l, h => putM_inj l (unR_inj ks (by rw [putM_len, putM_len, l]) h)
/-! ### readings by numbers -/
def readM : List Str → List Nat → List Str
  | _, [] => []
  | bs, k :: ks => (bs.drop k).take 1 ++ readM (match bs[k]? with | some b => lay bs b | none => bs) ks
end Lt

set_option Elab.async false
set_option linter.all false
set_option maxRecDepth 100000
set_option maxHeartbeats 4000000
/-! sorted(xs), xs a list of tuples of ints and texts, of any length: over the library's sorting under an order. -/
namespace Lt
open PySem PySem.Spec PyProof.Rows L2
/-! ### the order of such tuples -/
def ltKey : Key → Key → Bool
  | .inl i, .inl j => decide (i < j)
  | .inr a, .inr b => decide (ltS a b)
  | .inl _, .inr _ => true
  | .inr _, .inl _ => false
theorem ltKey_asym : ∀ {a b : Key}, ltKey a b = true → ltKey b a = false
  | .inl i, .inl j, h => decide_eq_false (by have := of_decide_eq_true h; omega)
  | .inr a, .inr b, h => decide_eq_false (ltS_asymm (of_decide_eq_true h))
  | .inl _, .inr _, _ => rfl
  | .inr _, .inl _, h => nomatch h
theorem ltKey_tri : ∀ {a b : Key}, ltKey a b = false → ltKey b a = false → a = b
  | .inl i, .inl j, h1, h2 => by
    have a1 := of_decide_eq_false h1
    have a2 := of_decide_eq_false h2
    rw [show i = j by omega]
  | .inr a, .inr b, h1, h2 => by rw [ltS_tri (of_decide_eq_false h1) (of_decide_eq_false h2)]
  | .inl _, .inr _, h, _ => nomatch h
  | .inr _, .inl _, _, h => nomatch h
theorem ltKey_trans : ∀ {a b c : Key}, ltKey a b = true → ltKey b c = true → ltKey a c = true
  | .inl i, .inl j, .inl k, h1, h2 => decide_eq_true (by have := of_decide_eq_true h1; have := of_decide_eq_true h2; omega)
  | .inr a, .inr b, .inr c, h1, h2 => decide_eq_true (List.lt_trans (of_decide_eq_true h1) (of_decide_eq_true h2))
  | .inl _, .inl _, .inr _, _, _ => rfl
  | .inl _, .inr _, .inr _, _, _ => rfl
  | .inl _, .inr _, .inl _, _, h => nomatch h
  | .inr _, .inl _, _, h, _ => nomatch h
  | .inr _, .inr _, .inl _, _, h => nomatch h
theorem ltKey_irr (a : Key) : ltKey a a = false := by
  cases h : ltKey a a with
  | false => rfl
  | true => rw [ltKey_asym h] at h; exact h.symm
def lexK : List Key → List Key → Bool
  | [], [] => false
  | [], _ :: _ => true
  | _ :: _, [] => false
  | a :: r, b :: t => if a = b then lexK r t else ltKey a b
theorem lexK_asym : ∀ {l m : List Key}, lexK l m = true → lexK m l = false
  | [], [], h => nomatch h
  | [], _ :: _, _ => rfl
  | _ :: _, [], h => nomatch h
  | a :: r, b :: t, h => by
    unfold lexK at h ⊢
    by_cases e : a = b
    · rw [if_pos e] at h
      rw [if_pos e.symm]
      exact lexK_asym h
    · rw [if_neg e] at h
      rw [if_neg fun z => e z.symm]
      exact ltKey_asym h
theorem lexK_tri : ∀ {l m : List Key}, lexK l m = false → lexK m l = false → l = m
  | [], [], _, _ => rfl
  | [], _ :: _, h, _ => nomatch h
  | _ :: _, [], _, h => nomatch h
  | a :: r, b :: t, h1, h2 => by
    unfold lexK at h1 h2
    by_cases e : a = b
    · rw [if_pos e] at h1
      rw [if_pos e.symm] at h2
      rw [e, lexK_tri h1 h2]
    · rw [if_neg e] at h1
      rw [if_neg fun z => e z.symm] at h2
      exact absurd (ltKey_tri h1 h2) e
theorem lexK_trans : ∀ {l m n : List Key}, lexK l m = true → lexK m n = true → lexK l n = true
  | [], [], _, h, _ => nomatch h
  | [], _ :: _, [], _, h => nomatch h
  | [], _ :: _, _ :: _, _, _ => rfl
  | _ :: _, [], _, h, _ => nomatch h
  | _ :: _, _ :: _, [], _, h => nomatch h
  | a :: r, b :: t, c :: u, h1, h2 => by
    unfold lexK at h1 h2 ⊢
    by_cases e : a = b
    · rw [if_pos e] at h1
      by_cases e2 : b = c
      · rw [if_pos e2] at h2
        rw [if_pos (e.trans e2)]
        exact lexK_trans h1 h2
      · rw [if_neg e2] at h2
        rw [e, if_neg e2]
        exact h2
    · rw [if_neg e] at h1
      by_cases e2 : b = c
      · rw [← e2, if_neg e]
        exact h1
      · rw [if_neg e2] at h2
        have h3 := ltKey_trans h1 h2
        have ne : a ≠ c := fun z => by
          rw [z, ltKey_irr] at h3
          cases h3
        rw [if_neg ne]
        exact h3
theorem lexK_swo {α : Type} (k : α → List Key) : SrtO.Swo fun x y => lexK (k x) (k y) := by
  refine ⟨fun x y h => lexK_asym h, fun x y z h1 h2 => ?_⟩
  cases h : lexK (k z) (k x) with
  | false => rfl
  | true =>
    exfalso
    cases h3 : lexK (k x) (k y) with
    | true =>
      rw [lexK_trans h h3] at h2
      cases h2
    | false =>
      rw [lexK_tri h3 h1] at h
      rw [h] at h2
      cases h2
/-- at each place of the same sort -/
def AlikeK : List Key → List Key → Prop
  | a :: r, b :: t => (a.isLeft = b.isLeft) ∧ AlikeK r t
  | _, _ => True
/-! ### the comparison -/
theorem eqb_key (i j : Int) : (i == j) = decide (i = j) := rfl
section
variable {prog : Program} {w : World} {A : Around} {s : Shared}
/-- these values are these keys -/
inductive KeyVs : List Key → List Value → Prop
  | nil : KeyVs [] []
  | int {i : Int} {t : Tok} {ks us} : KeyVs ks us → KeyVs (.inl i :: ks) (.int i t :: us)
  | str {z : Str} {t : Tok} {ks us} : KeyVs ks us → KeyVs (.inr z :: ks) (.str z t :: us)
theorem KeyVs.len : ∀ {ks us}, KeyVs ks us → us.length = ks.length
  | _, _, .nil => rfl
  | _, _, .int h => congrArg (· + 1) h.len
  | _, _, .str h => congrArg (· + 1) h.len
theorem oneLt_is (c : Bool) {a b : Int} {t u : Tok} {Q : Bool → Shared → Prop} (h : Q (decide (a < b)) s) : wpAny (model prog w) A (oneLt' c (.int a t) (.int b u)) Q (fun _ _ => False) s := by
  cases c with
  | true => exact oneLt_int h
  | false => exact PySem.W.kat_one _ _ (PyProof.Rows.lt_int h)
theorem oneLt_strs (c : Bool) {a b : Str} {t u : Tok} {Q : Bool → Shared → Prop} (h : Q (decide (ltS a b)) s) : wpAny (model prog w) A (oneLt' c (.str a t) (.str b u)) Q (fun _ _ => False) s := by
  cases c with
  | true => exact oneLt_str h
  | false => exact PySem.W.kat_one _ _ (lt_str h)
theorem lex_run (b : Bool) : ∀ {ks ms : List Key} {us vs : List Value} (i : Nat) (fin : Bool), KeyVs ks us → KeyVs ms vs → AlikeK ks ms → ks.length = ms.length → fin = false →
    PySem.W.KatLex prog w A b fin (fun r s' => s' = s ∧ r = lexK ks ms) (us.zip vs) i s
  | _, _, _, _, i, fin, .nil, .nil, _, _, e => ⟨rfl, e⟩
  | _, _, _, _, i, fin, .nil, .int _, _, l, _ => nomatch l
  | _, _, _, _, i, fin, .nil, .str _, _, l, _ => nomatch l
  | _, _, _, _, i, fin, .int _, .nil, _, l, _ => nomatch l
  | _, _, _, _, i, fin, .str _, .nil, _, l, _ => nomatch l
  | _, _, _, _, i, fin, .int _, .str _, al, _, _ => nomatch al.1
  | _, _, _, _, i, fin, .str _, .int _, al, _, _ => nomatch al.1
  | _, _, _, _, i, fin, @KeyVs.int x t ks us h1, @KeyVs.int y u ms vs h2, al, l, e => by
    refine PySem.W.kat_cons (SeqAt.EqAt.int_int x t y u prog w _ _ (PySem.W.kat_go (fun e1 => ?_) (fun e1 => ?_)))
    · have exy : x = y := by simpa using e1
      have ih := lex_run b (i + 1) fin h1 h2 al.2 (Nat.succ.inj l) e
      have el : lexK (Sum.inl x :: ks) (Sum.inl y :: ms) = lexK ks ms := by
        show (if _ then _ else _) = _
        rw [if_pos (by rw [exy])]
      rw [el]
      exact PySem.W.kat_yes ih
    · have nxy : ¬ x = y := by simpa using e1
      refine PySem.W.kat_no (oneLt_is _ ⟨rfl, ?_⟩)
      show decide (x < y) = if _ then _ else _
      rw [if_neg fun z => nxy (Sum.inl.inj z)]
      rfl
  | _, _, _, _, i, fin, @KeyVs.str x t ks us h1, @KeyVs.str y u ms vs h2, al, l, e => by
    refine PySem.W.kat_cons (SeqAt.EqAt.str_str x t y u prog w _ _ (PySem.W.kat_go (fun e1 => ?_) (fun e1 => ?_)))
    · have exy : x = y := by simpa using e1
      have ih := lex_run b (i + 1) fin h1 h2 al.2 (Nat.succ.inj l) e
      have el : lexK (Sum.inr x :: ks) (Sum.inr y :: ms) = lexK ks ms := by
        show (if _ then _ else _) = _
        rw [if_pos (by rw [exy])]
      rw [el]
      exact PySem.W.kat_yes ih
    · have nxy : ¬ x = y := by simpa using e1
      refine PySem.W.kat_no (oneLt_strs _ ⟨rfl, ?_⟩)
      show decide (ltS x y) = if _ then _ else _
      rw [if_neg fun z => nxy (Sum.inr.inj z)]
      rfl
/-- a tuple of these keys -/
def TupK (h : Heap) (v : Value) (ks : List Key) : Prop := ∃ (a : Addr) (o : Obj) (us : List Value) (n : Nat), v = .ref a ∧ h.get? a = some o ∧ o.cls = .type "tuple" ∧ o.data = .seq us.toArray n ∧ KeyVs ks us
theorem TupK.keeps {h h' : Heap} {v : Value} {ks : List Key} (x : TupK h v ks) (k : ∀ b o, h.get? b = some o → o.cls = .type "tuple" → h'.get? b = some o) : TupK h' v ks := by
  obtain ⟨a, o, us, n, e, ho, hc, r⟩ := x
  exact ⟨a, o, us, n, e, k a o ho hc, hc, r⟩
theorem tup_cmp {vs : List Value} {k : Value → List Key} (hp : ∀ v ∈ vs, TupK s.heap v (k v)) (al : ∀ v ∈ vs, ∀ u ∈ vs, AlikeK (k v) (k u) ∧ (k v).length = (k u).length) :
    SrtO.Cmp prog w A s (tuples' true) (fun p => p.1 ∈ vs) (SrtO.lt2 fun v u => lexK (k v) (k u)) := by
  intro p q hm hm'
  show wpAny (model prog w) A (keyLt' (tuples' true) p.1 q.1) (fun r s' => s' = s ∧ r = lexK (k p.1) (k q.1)) (fun _ _ => False) s
  obtain ⟨a, o, us, n, e, ho, _, hd, h1⟩ := hp _ hm
  obtain ⟨a', o', us', n', e', ho', _, hd', h2⟩ := hp _ hm'
  have ak := al _ hm _ hm'
  generalize k p.1 = ks at h1 ak ⊢
  generalize k q.1 = ms at h2 ak ⊢
  rw [e, e']
  refine PySem.W.kat_lt ho hd ho' hd' ?_
  have l1 := h1.len
  have l2 := h2.len
  exact lex_run true 0 _ h1 h2 ak.1 ak.2 (by rw [List.size_toArray, List.size_toArray, l1, l2, ak.2]; exact decide_eq_false (Nat.lt_irrefl _))
theorem firstK {h : Heap} : ∀ {vs : List Value} {k : Value → List Key}, (∀ v ∈ vs, TupK h v (k v) ∧ k v ≠ []) → ∃ fs, PySem.W.KatTups h vs fs ∧ fs.length = vs.length ∧ ∀ f ∈ fs, ∃ v ∈ vs, ∃ x r, k v = x :: r ∧ ((∃ i t, x = .inl i ∧ f = .int i t) ∨ ∃ z t, x = .inr z ∧ f = .str z t)
  | [], _, _ => ⟨[], .nil, rfl, fun f hf => nomatch hf⟩
  | v :: vs, k, hp => by
    obtain ⟨fs, h1, h2, h3⟩ := firstK (vs := vs) (k := k) fun u hu => hp u (List.mem_cons_of_mem _ hu)
    obtain ⟨⟨a, o, us, n, e, ho, hc, hd, kv⟩, ne⟩ := hp v (List.mem_cons_self ..)
    have more : ∀ f ∈ fs, ∃ v' ∈ v :: vs, ∃ x r, k v' = x :: r ∧ ((∃ i t, x = .inl i ∧ f = .int i t) ∨ ∃ z t, x = .inr z ∧ f = .str z t) := fun f hf => by
      obtain ⟨v', hv, r⟩ := h3 f hf
      exact ⟨v', List.mem_cons_of_mem _ hv, r⟩
    cases hk : k v with
    | nil => exact absurd hk ne
    | cons x r =>
      rw [hk] at kv
      cases kv with
      | @int i t _ us' kv' =>
        refine ⟨.int i t :: fs, ?_, by rw [List.length_cons, h2, List.length_cons], fun f hf => ?_⟩
        · rw [e]
          exact .cons ho hc hd (by simp) h1
        · rcases List.mem_cons.mp hf with rfl | hf
          · exact ⟨v, List.mem_cons_self .., _, _, hk, .inl ⟨i, t, rfl, rfl⟩⟩
          · exact more f hf
      | @str z t _ us' kv' =>
        refine ⟨.str z t :: fs, ?_, by rw [List.length_cons, h2, List.length_cons], fun f hf => ?_⟩
        · rw [e]
          exact .cons ho hc hd (by simp) h1
        · rcases List.mem_cons.mp hf with rfl | hf
          · exact ⟨v, List.mem_cons_self .., _, _, hk, .inr ⟨z, t, rfl, rfl⟩⟩
          · exact more f hf
theorem tup_sortable {a : Addr} {vs : List Value} {k : Value → List Key} (h0 : 0 < vs.length) (hp : ∀ v ∈ vs, TupK s.heap v (k v) ∧ k v ≠ []) (al : ∀ v ∈ vs, ∀ u ∈ vs, AlikeK (k v) (k u) ∧ (k v).length = (k u).length)
    (ha : ∀ o, s.heap.get? a = some o → o.cls ≠ .type "tuple") : SrtO.SortableO prog w A s a vs fun v u => lexK (k v) (k u) := by
  intro h' keep
  have hp' : ∀ v ∈ vs, TupK h' v (k v) ∧ k v ≠ [] := fun v hm => ⟨(hp v hm).1.keeps fun b o e c => keep b o (fun z => by subst z; exact ha o e c) e, (hp v hm).2⟩
  obtain ⟨fs, h1, h2, h3⟩ := firstK hp'
  refine ⟨tuples' true, fun Q E hq => ?_, tup_cmp (fun v hm => (hp' v hm).1) al⟩
  have sort : ∀ f ∈ fs, ∀ g ∈ fs, (∃ i t j u, f = .int i t ∧ g = .int j u) ∨ ∃ y t z u, f = .str y t ∧ g = .str z u := fun f hf g hg => by
    obtain ⟨v, hv, x, r, e1, c1⟩ := h3 f hf
    obtain ⟨u, hu, y, r', e2, c2⟩ := h3 g hg
    have q := (al v hv u hu).1
    rw [e1, e2] at q
    rcases c1 with ⟨i, t, rfl, rfl⟩ | ⟨z, t, rfl, rfl⟩
    · rcases c2 with ⟨j, t2, rfl, rfl⟩ | ⟨z2, t2, rfl, rfl⟩
      · exact .inl ⟨_, _, _, _, rfl, rfl⟩
      · exact nomatch (show true = false from q.1)
    · rcases c2 with ⟨j, t2, rfl, rfl⟩ | ⟨z2, t2, rfl, rfl⟩
      · exact nomatch (show false = true from q.1)
      · exact .inr ⟨_, _, _, _, rfl, rfl⟩
  cases fs with
  | nil => exact absurd (h2 ▸ h0) (Nat.lt_irrefl _)
  | cons f fr =>
    rcases sort f (List.mem_cons_self ..) f (List.mem_cons_self ..) with ⟨i, t, _, _, ef, _⟩ | ⟨y, t, _, _, ef, _⟩
    · refine PySem.W.kat_kind (T := .type "int") h1 (Nat.succ_pos _) (fun g hm => ?_) (by rfl) ?_
      · rcases sort f (List.mem_cons_self ..) g hm with ⟨_, _, j, u, _, rfl⟩ | ⟨_, _, _, _, e, _⟩
        · exact PySem.W.Looks.now
        · rw [ef] at e
          cases e
      · have e : (Value.type "int" != Value.type "tuple") = true := by first | decide +kernel | rfl | decide
        rw [e]
        exact hq
    · refine PySem.W.kat_kind (T := .type "str") h1 (Nat.succ_pos _) (fun g hm => ?_) (by rfl) ?_
      · rcases sort f (List.mem_cons_self ..) g hm with ⟨_, _, _, _, e, _⟩ | ⟨_, _, j, u, _, rfl⟩
        · rw [ef] at e
          cases e
        · exact PySem.W.Looks.now
      · have e : (Value.type "str" != Value.type "tuple") = true := by first | decide +kernel | rfl | decide
        rw [e]
        exact hq
theorem sorted_tups {E : Value → Shared → Prop} {l : Addr} {vs : List Value} {k : Value → List Key} {Q : Value → Shared → Prop} (hl : s.heap.IsList l vs.toArray) (hz : vs.length ≤ sizeLine) (hp : ∀ v ∈ vs, TupK s.heap v (k v) ∧ k v ≠ [])
    (al : ∀ v ∈ vs, ∀ u ∈ vs, AlikeK (k v) (k u) ∧ (k v).length = (k u).length)
    (h : ∀ (h' : Heap) (d : Addr) (out : List Value), SrtO.Srtd (fun v u => lexK (k v) (k u)) out → SrtO.Stb (fun v u => lexK (k v) (k u)) out vs → (∀ b o, s.heap.get? b = some o → h'.get? b = some o) → s.heap.objs.size ≤ d → (∃ n, h'.get? d = some (seqObj "list" out.toArray n)) → Q (.ref d) { s with heap := h' }) :
    wpAny (model prog w) A (call (.builtin "sorted") [.ref l]) Q E s := by
  refine SrtO.sorted_ord (lexK_swo k) hl hz (fun h2 h₁ a ha kk => tup_sortable (s := { s with heap := h₁ }) (by omega) (fun v hm => ⟨(hp v hm).1.keeps fun b o e _ => (kk b o e).2, (hp v hm).2⟩) al fun o e c => ?_) fun out hs hb => ?_
  · have e' : some o = some (seqObj "list" vs.toArray 0) := e.symm.trans ha
    cases e'
    exact absurd (Value.type.inj c) (by decide)
  · exact h _ _ out hs hb (fun b o e => sortedAll_old e) (Nat.le_succ _) (sortedAll_at s.heap vs out.toArray)
end
/-! ### the rule -/
section
variable {X : Cx}
theorem keyVs_of : ∀ {ks : List Key} {us : List Value}, Vals (ks.map kV) us → KeyVs ks us
  | [], _, .nil => .nil
  | .inl i :: ks, _ :: us, .cons r t => by
    obtain ⟨tk, rfl⟩ := r
    exact .int (keyVs_of t)
  | .inr z :: ks, _ :: us, .cons r t => by
    obtain ⟨tk, rfl⟩ := r
    exact .str (keyVs_of t)
def adr : Value → Addr
  | .ref a => a
  | _ => 0
theorem refs_of : ∀ {ts : List Addr} {us : List Value}, Vals (ts.map V.ref) us → us = ts.map Value.ref
  | [], _, .nil => rfl
  | t :: ts, u :: us, .cons r h => by
    obtain rfl : u = Value.ref t := r
    rw [refs_of h]
    rfl
theorem refs_vals : ∀ ts : List Addr, Vals (ts.map V.ref) (ts.map Value.ref)
  | [] => .nil
  | t :: ts => .cons rfl (refs_vals ts)
/-- sorted(xs): ts the places of the tuples, ks what they hold -/
def rSortK (K : PySem.W.Frag) : List V → Hp → VK → Prop := fun vs H Q => ∃ (a : Addr) (ts : List Addr) (k : Addr → List Key), vs = [V.ref a] ∧ SqL K H a (ts.map V.ref) ∧ (∀ t ∈ ts, SqT K H t ((k t).map kV) ∧ k t ≠ []) ∧
  (∀ t ∈ ts, ∀ u ∈ ts, AlikeK (k t) (k u) ∧ (k t).length = (k u).length) ∧
  ∀ (us : List Addr) (p : Addr), us.Perm ts → (us.Pairwise fun t u => lexK (k u) (k t) = false) → H p = none → Q (.ref p) (upd H p (.lst (us.map V.ref)))
theorem cr_sortK : CallR X (.builtin "sorted") (rSortK X.K) := by
  rintro pins s σ H _ us Q inv rel ⟨a, ts, k, rfl, sq, tup, al, q⟩
  rw [Vals.ref1 rel]
  obtain ⟨its, vals, hl, fit⟩ := inv.list sq
  have eits := refs_of vals
  subst eits
  have sz : (ts.map Value.ref).length ≤ sizeLine := by
    rw [List.length_map] at fit ⊢
    exact fit
  refine sorted_tups (k := fun v => k (adr v)) hl.isList sz (fun v hv => ?_) (fun v hv u hu => ?_) fun h' d out srt stb kp le at1 => ?_
  · obtain ⟨t, ht, rfl⟩ := List.mem_map.mp hv
    obtain ⟨sqt1, ne⟩ := tup t ht
    obtain ⟨us2, vs2, ⟨o, ho, hc, n, hd⟩, _⟩ := inv.tuple sqt1
    exact ⟨⟨t, o, us2, n, rfl, ho, hc, hd, keyVs_of vs2⟩, ne⟩
  · obtain ⟨t, ht, rfl⟩ := List.mem_map.mp hv
    obtain ⟨t2, ht2, rfl⟩ := List.mem_map.mp hu
    exact al t ht t2 ht2
  · have pm : (out.map adr).Perm ts := by
      have z := stb.perm.map adr
      rw [List.map_map, show (adr ∘ Value.ref) = id from rfl, List.map_id] at z
      exact z
    have eo : out = (out.map adr).map Value.ref := by
      have z : ∀ v ∈ out, Value.ref (adr v) = v := fun v hv => by
        obtain ⟨t, _, rfl⟩ := List.mem_map.mp (stb.perm.mem_iff.mp hv)
        rfl
      rw [List.map_map]
      have z2 : out.map (Value.ref ∘ adr) = out.map id := List.map_congr_left z
      rw [z2, List.map_id]
    obtain ⟨n, at1⟩ := at1
    have pw : (out.map adr).Pairwise fun t u => lexK (k u) (k t) = false := List.pairwise_map.mpr srt
    rw [eo] at at1
    generalize out.map adr = us at pm pw at1
    have fitU : (us.map V.ref).length ≤ sizeLine := by
      rw [List.length_map, pm.length_eq, ← List.length_map (f := V.ref)]
      exact fit
    exact ⟨.ref d, upd H d (.lst (us.map V.ref)), inv.laid (t' := s.toks) kp le (show ObjOk X.prog X.w _ _ _ (.lst (us.map V.ref)) from ⟨fitU, _, n, refs_vals us, at1⟩), rfl, q us d pm pw (inv.hok.fresh le)⟩
theorem cSortK {K : PySem.W.Frag} (e : X.K = K) : CallR X (.builtin "sorted") (rSortK K) := by
  subst e
  exact cr_sortK
end
end Lt

set_option Elab.async false
set_option linter.all false
set_option maxRecDepth 100000
set_option maxHeartbeats 4000000
namespace Lt
open PySem PySem.Spec PyProof.Rows L2
/-! ### all orders, a book put in at each place -/
def insAll (b : Str) (o : List Str) : List (List Str) := (List.range (o.length + 1)).map fun i => o.take i ++ [b] ++ o.drop i
def ordP (l : List Str) : List (List Str) := l.foldl (fun os b => os.flatMap (insAll b)) [[]]
theorem ordP_snoc (l : List Str) (b : Str) : ordP (l ++ [b]) = (ordP l).flatMap (insAll b) := by
  unfold ordP
  rw [List.foldl_append]
  rfl
theorem ins_mem {b : Str} {o x : List Str} : x ∈ insAll b o ↔ ∃ p q, o = p ++ q ∧ x = p ++ b :: q := by
  unfold insAll
  rw [List.mem_map]
  constructor
  · rintro ⟨i, _, rfl⟩
    exact ⟨o.take i, o.drop i, (List.take_append_drop i o).symm, by rw [List.append_assoc]; rfl⟩
  · rintro ⟨p, q, rfl, rfl⟩
    refine ⟨p.length, List.mem_range.mpr (by rw [List.length_append]; omega), ?_⟩
    rw [List.take_left, List.drop_left, List.append_assoc]
    rfl
theorem ordP_mem : ∀ l x : List Str, x ∈ ordP l ↔ x.Perm l := by
  refine snoc_ind (p := fun l => ∀ x : List Str, x ∈ ordP l ↔ x.Perm l) (fun x => ?_) (fun l b ih x => ?_)
  · show x ∈ [[]] ↔ _
    rw [List.mem_singleton]
    exact ⟨fun h => by rw [h], fun h => h.eq_nil⟩
  · rw [ordP_snoc, List.mem_flatMap]
    constructor
    · rintro ⟨o, ho, hx⟩
      obtain ⟨p, q, rfl, rfl⟩ := ins_mem.mp hx
      have z := (ih _).mp ho
      exact (List.perm_middle.trans (z.cons b)).trans (List.perm_append_singleton b l).symm
    · intro h
      have hb : b ∈ x := h.mem_iff.mpr (List.mem_append_right _ (List.mem_singleton.mpr rfl))
      obtain ⟨p, q, rfl⟩ := List.append_of_mem hb
      refine ⟨p ++ q, (ih _).mpr ?_, ins_mem.mpr ⟨p, q, rfl, rfl⟩⟩
      have z : (b :: (p ++ q)).Perm (b :: l) := (List.perm_middle.symm.trans h).trans (List.perm_append_singleton b l)
      exact z.cons_inv
theorem ins_nodup {b : Str} {o : List Str} (h : b ∉ o) : (insAll b o).Nodup := by
  unfold insAll
  rw [List.nodup_iff_pairwise_ne, List.pairwise_map]
  refine (List.nodup_range (n := o.length + 1)).imp_of_mem fun {i j} hi hj ne e => ne ?_
  have hi' := List.mem_range.mp hi
  have hj' := List.mem_range.mp hj
  have idx : ∀ k, k ≤ o.length → (o.take k ++ [b] ++ o.drop k).idxOf b = k := fun k hk => by
    have z := idx_mid (l := o.take k) (r := o.drop k) (b := b) fun z => h (List.mem_of_mem_take z)
    rw [List.append_assoc]
    show (o.take k ++ b :: o.drop k).idxOf b = k
    rw [z, List.length_take]
    omega
  rw [← idx i (by omega), e, idx j (by omega)]
theorem ordP_nodup : ∀ l : List Str, l.Nodup → (ordP l).Nodup := by
  refine snoc_ind (p := fun l => l.Nodup → (ordP l).Nodup) (fun _ => ?_) (fun l b ih nd => ?_)
  · show [[]].Nodup
    exact List.nodup_cons.mpr ⟨(fun h => nomatch h), List.nodup_nil⟩
  · have nd1 : l.Nodup := nd.sublist (List.sublist_append_left _ _)
    have nb : b ∉ l := fun h => (List.nodup_append.mp nd).2.2 b h b (List.mem_singleton.mpr rfl) rfl
    rw [ordP_snoc]
    have key : ∀ os : List (List Str), os.Nodup → (∀ o ∈ os, b ∉ o) → (os.flatMap (insAll b)).Nodup := by
      intro os
      induction os with
      | nil => intro _ _; exact List.nodup_nil
      | cons o t ih2 =>
        intro h hb
        obtain ⟨h1, h2⟩ := List.nodup_cons.mp h
        rw [List.flatMap_cons]
        refine List.nodup_append.mpr ⟨ins_nodup (hb o (List.mem_cons_self ..)), ih2 h2 fun o' ho => hb o' (List.mem_cons_of_mem _ ho), fun x hx y hy e => ?_⟩
        obtain ⟨o2, ho2, hy2⟩ := List.mem_flatMap.mp hy
        obtain ⟨p, q, e1, e2⟩ := ins_mem.mp hx
        obtain ⟨p2, q2, e3, e4⟩ := ins_mem.mp hy2
        have ne1 : b ∉ p := fun z => hb o (List.mem_cons_self ..) (by rw [e1]; exact List.mem_append_left _ z)
        have ne2 : b ∉ p2 := fun z => hb o2 (List.mem_cons_of_mem _ ho2) (by rw [e3]; exact List.mem_append_left _ z)
        have l1 := idx_mid (r := q) ne1
        have l2 := idx_mid (r := q2) ne2
        rw [e2, e4] at e
        rw [e, l2] at l1
        obtain ⟨a1, a2⟩ := List.append_inj e l1.symm
        have a3 := (List.cons.inj a2).2
        rw [e1, a1, a3, ← e3] at h1
        exact h1 ho2
    exact key _ (ih nd1) fun o ho z => nb (((ordP_mem l o).mp ho).mem_iff.mp z)
def fac : Nat → Nat
  | 0 => 1
  | n + 1 => fac n * (n + 1)
theorem ordP_len : ∀ l : List Str, (ordP l).length = fac l.length := by
  refine snoc_ind (p := fun l => (ordP l).length = fac l.length) rfl (fun l b ih => ?_)
  rw [ordP_snoc, List.length_append]
  show _ = fac l.length * (l.length + 1)
  rw [← ih]
  have key : ∀ os : List (List Str), (∀ o ∈ os, o.length = l.length) → (os.flatMap (insAll b)).length = os.length * (l.length + 1) := by
    intro os
    induction os with
    | nil => intro _; simp
    | cons o t ih2 =>
      intro h
      rw [List.flatMap_cons, List.length_append, ih2 fun o' ho => h o' (List.mem_cons_of_mem _ ho)]
      unfold insAll
      rw [List.length_map, List.length_range, h o (List.mem_cons_self ..), List.length_cons, Nat.succ_mul]
      omega
  exact key _ fun o ho => ((ordP_mem l o).mp ho).length_eq
theorem fac_le {n : Nat} (h : n ≤ 5) : fac n ≤ 120 := by
  match n, h with
  | 0, _ => decide
  | 1, _ => decide
  | 2, _ => decide
  | 3, _ => decide
  | 4, _ => decide
  | 5, _ => decide
  | n + 6, h => omega
/-! ### all orders, by the first book -/
def ordL : Nat → List Str → List (List Str)
  | 0, _ => [[]]
  | n + 1, l => (List.range l.length).flatMap fun i => (ordL n (l.eraseIdx i)).map fun r => (l[i]?).getD Str.empty :: r
theorem erase_perm {l : List Str} {i : Nat} (h : i < l.length) : (l[i] :: l.eraseIdx i).Perm l := by
  have e : l.take i ++ l[i] :: l.drop (i + 1) = l := by rw [List.getElem_cons_drop, List.take_append_drop]
  have z : (l.take i ++ l[i] :: l.drop (i + 1)).Perm (l[i] :: (l.take i ++ l.drop (i + 1))) := List.perm_middle
  rw [e, ← List.eraseIdx_eq_take_drop_succ] at z
  exact z.symm
theorem ordL_mem : ∀ (n : Nat) (l : List Str), l.length = n → ∀ x, x ∈ ordL n l ↔ x.Perm l
  | 0, l, h, x => by
    have e := List.eq_nil_of_length_eq_zero h
    subst e
    show x ∈ [[]] ↔ _
    rw [List.mem_singleton]
    exact ⟨fun h => by rw [h], fun h => h.eq_nil⟩
  | n + 1, l, h, x => by
    show x ∈ (List.range l.length).flatMap _ ↔ _
    rw [List.mem_flatMap]
    constructor
    · rintro ⟨i, hi, hx⟩
      have hi' := List.mem_range.mp hi
      obtain ⟨r, hr, rfl⟩ := List.mem_map.mp hx
      have z := (ordL_mem n (l.eraseIdx i) (by rw [List.length_eraseIdx_of_lt hi', h]; rfl) r).mp hr
      rw [List.getElem?_eq_getElem hi']
      show (l[i] :: r).Perm l
      exact (z.cons _).trans (erase_perm hi')
    · intro p
      cases x with
      | nil =>
        have z := p.length_eq
        rw [h] at z
        cases z
      | cons b r =>
        have hb : b ∈ l := p.mem_iff.mp (List.mem_cons_self ..)
        have hi := idx_lt hb
        refine ⟨l.idxOf b, List.mem_range.mpr hi, List.mem_map.mpr ⟨r, (ordL_mem n _ (by rw [List.length_eraseIdx_of_lt hi, h]; rfl) r).mpr ?_, by rw [idx_get hb]; rfl⟩⟩
        have z := erase_perm hi
        rw [List.getElem_idxOf] at z
        exact (p.trans z.symm).cons_inv
abbrev tk (bs : List Str) : List Key := bs.map Sum.inr
theorem tk_inj {a b : List Str} (h : tk a = tk b) : a = b := by
  induction a generalizing b with
  | nil =>
    cases b with
    | nil => rfl
    | cons _ _ => cases h
  | cons x r ih =>
    cases b with
    | nil => cases h
    | cons y t =>
      obtain ⟨h1, h2⟩ := List.cons.inj h
      rw [Sum.inr.inj h1, ih h2]
theorem alike_tk : ∀ a b : List Str, AlikeK (tk a) (tk b)
  | [], _ => by
    unfold AlikeK
    trivial
  | _ :: _, [] => trivial
  | x :: r, y :: t => ⟨rfl, alike_tk r t⟩
theorem lex_head {a b : Str} {r t : List Str} (h : ltS a b) : lexK (tk (a :: r)) (tk (b :: t)) = true := by
  show (if (Sum.inr a : Key) = Sum.inr b then _ else ltKey (Sum.inr a) (Sum.inr b)) = true
  rw [if_neg fun e => ltS_irrefl a (by rw [Sum.inr.inj e] at h; rw [Sum.inr.inj e]; exact h)]
  exact decide_eq_true h
theorem lex_tail {a : Str} {r t : List Str} (h : lexK (tk r) (tk t) = true) : lexK (tk (a :: r)) (tk (a :: t)) = true := by
  show (if (Sum.inr a : Key) = Sum.inr a then _ else _) = true
  rw [if_pos rfl]
  exact h
theorem pw_flat {α β : Type} {R : β → β → Prop} {f : α → List β} : ∀ {l : List α}, (∀ a ∈ l, (f a).Pairwise R) → l.Pairwise (fun a b => ∀ x ∈ f a, ∀ y ∈ f b, R x y) → (l.flatMap f).Pairwise R
  | [], _, _ => List.Pairwise.nil
  | a :: l, h1, h2 => by
    obtain ⟨g1, g2⟩ := List.pairwise_cons.mp h2
    rw [List.flatMap_cons]
    refine List.pairwise_append.mpr ⟨h1 a (List.mem_cons_self ..), pw_flat (fun b hb => h1 b (List.mem_cons_of_mem _ hb)) g2, fun x hx y hy => ?_⟩
    obtain ⟨b, hb, hy⟩ := List.mem_flatMap.mp hy
    exact g1 b hb x hx y hy
theorem ordL_rises : ∀ (n : Nat) (l : List Str), l.length = n → l.Pairwise ltS → (ordL n l).Pairwise fun x y => lexK (tk x) (tk y) = true
  | 0, l, _, _ => List.pairwise_singleton _ _
  | n + 1, l, h, hs => by
    refine pw_flat (fun i hi => ?_) ?_
    · have hi' := List.mem_range.mp hi
      refine List.pairwise_map.mpr ((ordL_rises n (l.eraseIdx i) (by rw [List.length_eraseIdx_of_lt hi', h]; rfl) (hs.sublist (List.eraseIdx_sublist ..))).imp fun z => lex_tail z)
    · refine List.Pairwise.imp_of_mem (R := fun a b => a < b) (fun {i j} hi hj lt => ?_) List.pairwise_lt_range
      have hi' := List.mem_range.mp hi
      have hj' := List.mem_range.mp hj
      intro x hx y hy
      obtain ⟨r, _, rfl⟩ := List.mem_map.mp hx
      obtain ⟨t, _, rfl⟩ := List.mem_map.mp hy
      rw [List.getElem?_eq_getElem hi', List.getElem?_eq_getElem hj']
      exact lex_head (List.pairwise_iff_getElem.mp hs i j hi' hj' lt)
/-! ### the piles from which numbers come -/
def starts (bs rs : List Str) (ns : List Nat) : List (List Str) := (ordP ((behindM bs rs).drop (dist rs))).map fun b => unR ((behindM bs rs).take (dist rs) ++ b) ns.reverse
abbrev fits (rs : List Str) (ns : List Nat) (x : List Str) : Bool := decide (liftedM x rs = ns)
theorem dist_rev (rs : List Str) : dist rs.reverse = dist rs := by
  unfold dist
  have p : (nub rs.reverse).Perm (nub rs) := by
    rw [List.perm_ext_iff_of_nodup (nub_nodup _) (nub_nodup _)]
    intro z
    rw [nub_mem, nub_mem, List.mem_reverse]
  exact p.length_eq
theorem starts_perm {bs rs : List Str} {ns : List Nat} : ∀ x ∈ starts bs rs ns, (∀ b ∈ rs, b ∈ bs) → x.Perm bs := fun x hx hm => by
  obtain ⟨b, hb, rfl⟩ := List.mem_map.mp hx
  have z := (ordP_mem _ _).mp hb
  have z2 := (z.append_left ((behindM bs rs).take (dist rs)))
  rw [List.take_append_drop] at z2
  exact (unR_perm _ _).trans (z2.trans (behindM_perm rs hm))
theorem starts_nodup {bs rs : List Str} {ns : List Nat} (nd : bs.Nodup) (hm : ∀ b ∈ rs, b ∈ bs) : (starts bs rs ns).Nodup := by
  unfold starts
  have nb : (behindM bs rs).Nodup := (behindM_perm rs hm).nodup_iff.mpr nd
  rw [List.nodup_iff_pairwise_ne, List.pairwise_map]
  refine (ordP_nodup _ (nb.sublist (List.drop_sublist _ _))).imp_of_mem fun {x y} hx hy ne e => ne ?_
  have z := unR_inj _ (by rw [List.length_append, List.length_append, ((ordP_mem _ _).mp hx).length_eq, ((ordP_mem _ _).mp hy).length_eq]) e
  exact List.append_cancel_left z
theorem starts_all {bs rs x : List Str} {ns : List Nat} (nd : bs.Nodup) (hm : ∀ b ∈ rs, b ∈ bs) (p : x.Perm bs) (h : liftedM x rs = ns) : x ∈ starts bs rs ns := by
  have ndx : x.Nodup := p.nodup_iff.mpr nd
  have hx : ∀ b ∈ rs, b ∈ x := fun b hb => p.mem_iff.mpr (hm b hb)
  have e1 := behind_is nd rs hm
  have e2 := behind_is ndx rs hx
  have dl : (nub rs.reverse).length = dist rs := dist_rev rs
  have t1 : (behindM bs rs).take (dist rs) = nub rs.reverse := by rw [e1, List.take_left' dl]
  have d1 : (behindM bs rs).drop (dist rs) = bs.filter fun z => decide (z ∉ rs) := by rw [e1, List.drop_left' dl]
  refine List.mem_map.mpr ⟨x.filter fun z => decide (z ∉ rs), (ordP_mem _ _).mpr ?_, ?_⟩
  · rw [d1]
    exact p.filter _
  · rw [t1, ← e2, ← h]
    exact (undo_of rs hx).1
theorem piles_perm {bs rs ys : List Str} {ns : List Nat} (nd : bs.Nodup) (hm : ∀ b ∈ rs, b ∈ bs) (py : ys.Perm bs) (so : ys.Pairwise ltS) : ((starts bs rs ns).filter (fits rs ns)).Perm ((ordL ys.length ys).filter (fits rs ns)) := by
  have nd2 : (ordL ys.length ys).Nodup := (ordL_rises ys.length ys rfl so).imp fun {a b} h e => by
    rw [e] at h
    rw [(lexK_swo (fun x : List Key => x)).refl (tk b)] at h
    cases h
  rw [List.perm_ext_iff_of_nodup ((starts_nodup nd hm).sublist List.filter_sublist) (nd2.sublist List.filter_sublist)]
  intro x
  rw [List.mem_filter, List.mem_filter, ordL_mem _ _ rfl]
  constructor
  · rintro ⟨h1, h2⟩
    exact ⟨(starts_perm x h1 hm).trans py.symm, h2⟩
  · rintro ⟨h1, h2⟩
    exact ⟨starts_all nd hm (h1.trans py) (of_decide_eq_true h2), h2⟩
/-- put in order: these rows alone -/
theorem piles_one {bs rs ys : List Str} {ns : List Nat} {cs : List (List Str)} (nd : bs.Nodup) (hm : ∀ b ∈ rs, b ∈ bs) (py : ys.Perm bs) (so : ys.Pairwise ltS) (pc : cs.Perm ((starts bs rs ns).filter (fits rs ns))) (sc : cs.Pairwise fun x y => lexK (tk y) (tk x) = false) :
    cs = (ordL ys.length ys).filter (fits rs ns) := by
  refine List.Perm.eq_of_pairwise (le := fun x y => lexK (tk y) (tk x) = false) (fun a b _ _ h1 h2 => tk_inj (lexK_tri h2 h1)) sc ?_ (pc.trans (piles_perm nd hm py so))
  exact ((ordL_rises ys.length ys rfl so).sublist List.filter_sublist).imp fun h => lexK_asym h
theorem piles_self {bs rs ys : List Str} (hm : ∀ b ∈ rs, b ∈ bs) (py : ys.Perm bs) : bs ∈ (ordL ys.length ys).filter (fits rs (liftedM bs rs)) :=
  List.mem_filter.mpr ⟨(ordL_mem _ _ rfl _).mpr py.symm, decide_eq_true rfl⟩
theorem all_one {α : Type} {l : List α} {x : α} (nd : l.Nodup) (h : x ∈ l) (only : ∀ y ∈ l, y = x) : l = [x] := by
  cases l with
  | nil => cases h
  | cons a r =>
    have ea := only a (List.mem_cons_self ..)
    cases r with
    | nil => rw [ea]
    | cons b t =>
      have eb := only b (List.mem_cons_of_mem _ (List.mem_cons_self ..))
      have n1 := (List.nodup_cons.mp nd).1
      rw [ea, eb] at n1
      exact absurd (List.mem_cons_self ..) n1
theorem perm_short {a b : List Str} (p : a.Perm b) (h : b.length ≤ 1) : a = b := by
  cases b with
  | nil => exact p.eq_nil
  | cons x r =>
    cases r with
    | nil => exact List.perm_singleton.mp p
    | cons y t =>
      rw [List.length_cons, List.length_cons] at h
      omega
theorem piles_sole {bs rs ys : List Str} (nd : bs.Nodup) (hm : ∀ b ∈ rs, b ∈ bs) (py : ys.Perm bs) (so : ys.Pairwise ltS) (h : bs.length - 1 ≤ dist rs) : (ordL ys.length ys).filter (fits rs (liftedM bs rs)) = [bs] := by
  have pp := piles_perm (ns := liftedM bs rs) nd hm py so
  have ndf : ((ordL ys.length ys).filter (fits rs (liftedM bs rs))).Nodup := pp.nodup_iff.mp ((starts_nodup nd hm).sublist List.filter_sublist)
  refine all_one ndf (piles_self hm py) fun x hx => ?_
  obtain ⟨b, hb, rfl⟩ := List.mem_map.mp (List.mem_filter.mp (pp.mem_iff.mpr hx)).1
  have z := (ordP_mem _ _).mp hb
  have zl : ((behindM bs rs).drop (dist rs)).length ≤ 1 := by
    rw [List.length_drop, (behindM_perm rs hm).length_eq]
    omega
  rw [perm_short z zl, List.take_append_drop]
  exact (undo_of rs hm).1
end Lt

set_option Elab.async false
set_option linter.all false
set_option maxRecDepth 100000
set_option maxHeartbeats 4000000
namespace Lt
open PySem PySem.Spec PyProof.Rows L2
section
variable {P : Program} {w : World} {K : PySem.W.Frag} {mg : Str → Option Value} {base : Heap} {X : Cx}
def top (i : Nat) : Stmt := PySem.Challenge.pw_laidontop_k08_first_piles_by_all_piles.main.body.getD i (.Pass ⟨0, 0, 0, 0⟩)
abbrev sBehind : Stmt := top 1
abbrev sLifted : Stmt := top 2
abbrev sLaid : Stmt := top 3
abbrev sUndone : Stmt := top 5
abbrev sPilesFor : Stmt := top 6
abbrev sLiftable : Stmt := top 7
abbrev sPut : Stmt := top 8
abbrev sOrdersOf : Stmt := top 9
abbrev sDraw : Stmt := top 11
abbrev sLike : Stmt := top 12
abbrev sOrder : Stmt := top 13
abbrev sBooks : Stmt := top 14
abbrev sPile : Stmt := top 15
abbrev sReadings : Stmt := top 16
abbrev sRead : Stmt := top 17
abbrev sOrders : Stmt := top 18
abbrev sLaw : Stmt := top 19
theorem scDraw : FnScope ["tape", "many", "prime", "cell", "found"] ["tape", "many"] (defScope sDraw) := ⟨rfl, rfl, rfl, by decide +kernel, rfl, by decide +kernel, by decide +kernel⟩
theorem ok_draw {f : Addr} {fd : FuncData} (F : Fun K "_law_draw" "_law_draw" sDraw f fd) (ml : mg "len" = none) : FnOk P w K mg base CX0 1 f fd ["tape", "many"] spDraw := by
  refine F.ok scDraw (fun vs H Q E h => ?_) (fun cdv A outer s H vs Q E hr h => ?_)
  · obtain ⟨T, S, ns, m, rfl, _⟩ := h
    rfl
  obtain ⟨T, S, ns, m, rfl, tp, m0, m1, q⟩ := h
  obtain ⟨i, c, hT⟩ := tp.at_
  have hS := tp.scr
  refine ⟨_, pss_cons (ps_set (i := 2) scDraw.nd rfl (.inl rfl) pe_int)
    (Evl.pss_cut (ps_if (pt_cmpR op_lt (pe_ix ix_list (pv 0) pe_int (fun _ _ => rfl)) (pv 1) (nomark _))
      (pss_cons (ps_set (i := 3) scDraw.nd rfl (.inl rfl) pe_int)
      (Evl.pss_cut (ps_if (pt_cmpR op_gt (pe_callB call_len_seq (by rfl) ml PySem.boot_len (pa_cons (pe_ix ix_list (pv 0) pe_int (fun _ _ => rfl)) pa_nil)) pe_int (nomark _))
        (pss_one (ps_set (i := 3) scDraw.nd rfl (.inl rfl) (pe_ix ix_list (pe_ix ix_list (pv 0) pe_int (fun _ _ => rfl))
          (pe_op op_mod (pe_ix ix_list (pv 0) pe_int (fun _ _ => rfl)) (pe_callB call_len_seq (by rfl) ml PySem.boot_len (pa_cons (pe_ix ix_list (pv 0) pe_int (fun _ _ => rfl)) pa_nil))) (fun _ _ => rfl)))) pss_nil)
      (Evl.pss_cut (ps_if (PW.pt (pw_or (pt_cmpR op_ge (pe_ix ix_list (pv 0) pe_int (fun _ _ => rfl)) (pe_callB call_len_seq (by rfl) ml PySem.boot_len (pa_cons (pe_ix ix_list (pv 0) pe_int (fun _ _ => rfl)) pa_nil)) (nomark _))
          (pw_or1 (pt_cmpR op_lt (pv 3) (pe_op op_pow pe_int pe_int) (nomark _)))))
        (pss_cons (ps_set (i := 3) scDraw.nd rfl (.inl rfl) (pe_op op_mod (pe_op op_add (pv 3) (pe_op op_mul pe_int (pe_ix ix_list (pv 0) pe_int (fun _ _ => rfl)))) (pv 2)))
        (pss_cons (ps_set (i := 3) scDraw.nd rfl (.inl rfl) (pe_op op_mod (pe_op op_add (pe_op op_add (pe_op op_mul (pv 3) (pv 3)) (pe_op op_mul pe_int (pv 3))) pe_int) (pv 2)))
        (pss_one (ps_set (i := 3) scDraw.nd rfl (.inl rfl) (pe_op op_mod (pe_op op_add (pe_op op_mul (pv 3) (pv 3)) pe_int) (pv 2)))))) pss_nil)
      (pss_cons (ps_asg (pe_op op_add (pe_ix ix_list (pv 0) pe_int (fun _ _ => rfl)) pe_int) (pg_sub (pv 0) pe_int set_list))
      (pss_one (ps_asg (pv 3) (pg_sub (pv 0) pe_int set_list))))))) pss_nil)
    (pss_cons (ps_set (i := 4) scDraw.nd rfl (.inl rfl) (pe_op op_mod (pe_ix ix_list (pv 0) pe_int (fun _ _ => rfl)) (pv 1)))
    (pss_cons (ps_asg (pe_op op_fdivW (pe_ix ix_list (pv 0) pe_int (fun _ _ => rfl)) (pv 1)) (pg_sub (pv 0) pe_int set_list))
    (pss_one (ps_ret (pv 4)))))), ?_⟩
  have lenE : ((ns.map V.int).length : Int) = ns.length := by rw [List.length_map]
  refine ⟨fun σ H' => ∃ (y3 : Option V) (i' c' : Int), σ = [some (.ref T), some (.int m), some (.int 2305843009213693951), y3, none] ∧ H' = upd H T (.lst [.ref S, .int i', .int c']), ?_, ?_⟩
  · refine ⟨_, rfl, T, _, 2, _, rfl, rfl, sql hT, rfl, _, rfl, _, _, rfl, rfl, _, rfl, ite2 (fun _ => ?_) (fun _ => ?_)⟩
    · -- the cell
      refine ⟨fun σ H' => ∃ c0 : Int, σ = [some (.ref T), some (.int m), some (.int 2305843009213693951), some (.int c0), none] ∧ H' = H, ?_, ?_⟩
      · refine ⟨_, rfl, T, _, 0, _, rfl, rfl, sql hT, rfl, S, _, rfl, .inl (sql hS), _, _, rfl, rfl, _, rfl, ite2 (fun g => ?_) (fun _ => ?_)⟩
        · have g1 : (0 : Int) < ((ns.map V.int).length : Int) := of_decide_eq_true g
          rw [lenE] at g1
          have e0 : 0 ≤ i % (ns.length : Int) := Int.emod_nonneg _ (by omega)
          have e1 : i % (ns.length : Int) < (ns.length : Int) := Int.emod_lt_of_pos _ g1
          have hk : (i % (ns.length : Int)).toNat < ns.length := by omega
          refine ⟨_, rfl, T, _, 0, _, rfl, rfl, sql hT, rfl, _, rfl, T, _, 1, _, rfl, rfl, sql hT, rfl, _, rfl, T, _, 0, _, rfl, rfl, sql hT, rfl, S, _, rfl, .inl (sql hS), _, _, rfl, rfl, ?_, S, _, _, .int ns[(i % (ns.length : Int)).toNat], rfl, rfl, sql hS, ?_, ?_⟩
          · show (0 : Int) < ((ns.map V.int).length : Int)
            rw [lenE]
            exact g1
          · show atI (ns.map V.int) (i % ((ns.map V.int).length : Int)) = _
            rw [lenE]
            exact at_of (j := (i % (ns.length : Int)).toNat) (by omega) (by rw [List.getElem?_map, List.getElem?_eq_getElem hk]; rfl)
          · exact ⟨_, rfl, rfl⟩
        · exact ⟨_, rfl, rfl⟩
      · rintro σ' H' ⟨c0, rfl, rfl⟩
        refine ⟨fun σ H2 => ∃ c1 : Int, σ = [some (.ref T), some (.int m), some (.int 2305843009213693951), some (.int c1), none] ∧ H2 = H', ?_, ?_⟩
        · refine ⟨_, rfl, T, _, 1, _, rfl, rfl, sql hT, rfl, _, rfl, T, _, 0, _, rfl, rfl, sql hT, rfl, S, _, rfl, .inl (sql hS), _, _, rfl, rfl, _, rfl, ?_⟩
          have near : ∀ x : Int, -(2 ^ 64) < x % 2305843009213693951 ∧ x % 2305843009213693951 < 2 ^ 64 := fun x => by
            have a1 := Int.emod_nonneg x (b := 2305843009213693951) (by decide)
            have a2 := Int.emod_lt_of_pos x (b := 2305843009213693951) (by decide)
            omega
          refine ite2 (fun _ => ?_) (fun _ => ⟨_, rfl, _, _, rfl, rfl, ⟨by decide, by decide, by decide⟩, _, _, rfl, rfl, _, rfl, ite2 (fun _ => ?_) (fun _ => ?_)⟩)
          · refine iteT ⟨_, rfl, _, rfl, T, _, 1, _, rfl, rfl, sql hT, rfl, _, _, rfl, rfl, .inl ⟨by decide, by decide⟩, _, _, rfl, rfl, _, rfl, _, _, rfl, rfl, (by decide : (0 : Int) < 2305843009213693951), ?_⟩
            refine ⟨_, rfl, _, rfl, _, _, rfl, rfl, .inl (near _), _, rfl, _, _, rfl, rfl, .inl ⟨by decide, by decide⟩, _, _, rfl, rfl, _, _, rfl, rfl, _, rfl, _, _, rfl, rfl, (by decide : (0 : Int) < 2305843009213693951), ?_⟩
            refine ⟨_, rfl, _, rfl, _, _, rfl, rfl, .inl (near _), _, _, rfl, rfl, _, rfl, _, _, rfl, rfl, (by decide : (0 : Int) < 2305843009213693951), ?_⟩
            exact ⟨_, rfl, rfl⟩
          · refine ⟨_, rfl, _, rfl, T, _, 1, _, rfl, rfl, sql hT, rfl, _, _, rfl, rfl, .inl ⟨by decide, by decide⟩, _, _, rfl, rfl, _, rfl, _, _, rfl, rfl, (by decide : (0 : Int) < 2305843009213693951), ?_⟩
            refine ⟨_, rfl, _, rfl, _, _, rfl, rfl, .inl (near _), _, rfl, _, _, rfl, rfl, .inl ⟨by decide, by decide⟩, _, _, rfl, rfl, _, _, rfl, rfl, _, rfl, _, _, rfl, rfl, (by decide : (0 : Int) < 2305843009213693951), ?_⟩
            refine ⟨_, rfl, _, rfl, _, _, rfl, rfl, .inl (near _), _, _, rfl, rfl, _, rfl, _, _, rfl, rfl, (by decide : (0 : Int) < 2305843009213693951), ?_⟩
            exact ⟨_, rfl, rfl⟩
          · exact ⟨_, rfl, rfl⟩
        · rintro σ' H2 ⟨c1, rfl, rfl⟩
          refine ⟨_, rfl, T, _, 1, _, rfl, rfl, sql hT, rfl, _, _, rfl, rfl, _, rfl, T, _, 1, 1, rfl, rfl, hT, rfl, ?_⟩
          refine ⟨_, rfl, _, rfl, T, _, 2, 2, rfl, rfl, upd_same, rfl, ?_⟩
          exact ⟨_, _, _, rfl, by rw [upd_upd]; rfl⟩
    · exact ⟨none, i, c, rfl, (upd_self hT).symm⟩
  · rintro σ' H' ⟨y3, i', c', rfl, rfl⟩
    refine ⟨_, rfl, T, _, 2, _, rfl, rfl, sql upd_same, rfl, _, rfl, _, _, rfl, rfl, m0, ?_⟩
    refine ⟨_, rfl, T, _, 2, _, rfl, rfl, sql upd_same, rfl, _, rfl, _, _, rfl, rfl, ⟨by omega, log_of m0 m1⟩, _, rfl, T, _, 2, 2, rfl, rfl, upd_same, rfl, ?_⟩
    refine ⟨_, rfl, ?_⟩
    rw [upd_upd]
    exact q _ _ _ (Int.emod_nonneg _ (by omega)) (Int.emod_lt_of_pos _ m0)
theorem scOrder : FnScope ["tape", "many", "found", "k"] ["tape", "many"] (defScope sOrder) := ⟨rfl, rfl, rfl, by decide +kernel, rfl, by decide +kernel, by decide +kernel⟩
theorem ok_order {f : Addr} {fd : FuncData} (F : Fun K "_law_any_order" "_law_any_order" sOrder f fd) (B : Bi mg) (cD : Has P w K mg base 1 "_law_draw" ["tape", "many"] spDraw) :
    FnOk P w K mg base CX0 2 f fd ["tape", "many"] spOrder := by
  refine F.ok scOrder (fun vs H Q E h => ?_) (fun cdv A outer s H vs Q E hr h => ?_)
  · obtain ⟨T, S, ns, m, rfl, _⟩ := h
    rfl
  obtain ⟨T, S, ns, n, rfl, tp, n1, q⟩ := h
  refine ⟨_, pss_cons (ps_set (i := 2) scOrder.nd rfl (.inl rfl) (pe_lst pa_nil))
    (pss_cons (ps_for PassesOwn.never rfl (pi_range1 (by rfl) B.range (pa_cons (pv 1) pa_nil)) (pg_name (i := 3) scOrder.nd rfl (.inl rfl))
      (pss_one (ps_expr (pe_bm PySem.F.plainAttrs_list PySem.F.slot_list_insert PySem.F.type_list_insert mt_insert (pv 2)
        (pa_cons (pe_go cD hr (Nat.le_refl _) rfl (pa_cons (pv 0) (pa_cons (pe_op op_add (pv 3) pe_int) pa_nil))) (pa_cons (pv 3) pa_nil))))))
    (pss_one (ps_ret (pe_callTy call_tuple_of (by rfl) B.tuple (by decide +kernel) (pa_cons (pv 2) pa_nil))))), ?_⟩
  refine ⟨Nat.zero_le _, fun L hL => ?_⟩
  obtain ⟨oT, hT⟩ := tp.taken
  have nLT : L ≠ T := new_ne hT hL
  refine ⟨_, rfl, (n : Int), rfl, by omega, by omega, for_range (lo := 0) (n := (n : Int).toNat) (fun i σ H' => ∃ (y3 : Option V) (qs : List Nat), σ = [some (.ref T), some (.int n), some (.ref L), y3] ∧ SameT T H H' ∧ Tape H' T S ns ∧ H' L = some (.lst (qs.map natV)) ∧ qs.Perm (List.range i))
    ⟨none, [], rfl, SameT.of (same_new hL _), tp.same (same_new hL _), upd_same, List.Perm.refl _⟩ ?_ ?_⟩
  · rintro i σ H' hi ⟨y3, qs, rfl, sm, tp', hL', pm⟩
    have lq : qs.length = i := by rw [pm.length_eq, List.length_range]
    have hi' : i < n := by omega
    refine ⟨_, rfl, .inl ⟨rfl, _, sql hL'⟩, _, rfl, _, rfl, _, _, rfl, rfl, T, S, ns, _, rfl, tp', by omega, by omega, fun r a c r0 r1 => ?_⟩
    have hL2 : upd H' T (.lst [.ref S, .int a, .int c]) L = some (.lst (qs.map natV)) := by
      rw [upd_ne nLT]
      exact hL'
    refine ⟨_, rfl, L, _, r, _, rfl, rfl, hL2, ?_, r0, by omega, ?_⟩
    · rw [List.length_map, lq]
      exact small1000 (by omega)
    · refine ⟨_, qs.take r.toNat ++ [i] ++ qs.drop r.toNat, rfl, fun b o nb hb => ?_, ?_, ?_, ?_⟩
      · rw [upd_ne (ne_of_none hb hL)]
        exact sameT_put _ b o nb (sm b o nb hb)
      · have t2 := tp'.put a c
        obtain ⟨x1, x2, t3⟩ := t2.at_
        refine ⟨⟨x1, x2, by rw [upd_ne nLT.symm]; exact t3⟩, ?_⟩
        rw [upd_ne (ne_of_none tp.scr hL)]
        exact t2.scr
      · rw [upd_same, List.map_append, List.map_append, List.map_take, List.map_drop, List.map_singleton]
        rw [show natV i = V.int (0 + (i : Int)) by rw [Int.zero_add]]
      · rw [List.range_succ]
        have e : (qs.take r.toNat ++ [i] ++ qs.drop r.toNat).Perm (qs.take r.toNat ++ qs.drop r.toNat ++ [i]) := by
          rw [List.append_assoc, List.append_assoc]
          exact List.Perm.append_left _ List.perm_append_comm
        rw [List.take_append_drop] at e
        exact e.trans (pm.append_right _)
  · rintro σ H' ⟨y3, qs, rfl, sm, tp', hL', pm⟩
    refine ⟨_, rfl, L, _, rfl, .inl ⟨sql hL', fun p hp => ?_⟩⟩
    have np : H p = none := by
      refine sm.free ?_ hp
      obtain ⟨o2, h2⟩ := tp'.taken
      exact new_ne h2 hp
    rw [Int.toNat_natCast] at pm
    exact q p _ qs (sm.trans (SameT.of (same_new hp _))) (tp'.same (same_new hp _)) np upd_same pm
theorem scBooks : FnScope [] [] (defScope sBooks) := ⟨rfl, rfl, rfl, by decide +kernel, rfl, by decide +kernel, by decide +kernel⟩
theorem ok_books {f : Addr} {fd : FuncData} (F : Fun K "_law_books" "_law_books" sBooks f fd) : FnOk P w K mg base CX0 1 f fd [] spBooks := by
  refine F.ok scBooks (fun vs H Q E h => ?_) (fun cdv A outer s H vs Q E hr h => ?_)
  · obtain ⟨rfl, _⟩ := h
    rfl
  obtain ⟨rfl, q⟩ := h
  refine ⟨_, pss_one (ps_ret (pe_lst (pa_cons pe_str (pa_cons pe_str (pa_cons pe_str (pa_cons pe_str (pa_cons pe_str (pa_cons pe_str (pa_cons pe_str pa_nil))))))))), ?_⟩
  exact ⟨(by show 7 ≤ sizeLine; decide), fun p hp => q p hp⟩
theorem scPile : FnScope ["tape", "size", "some", "at"] ["tape", "size"] (defScope sPile) := ⟨rfl, rfl, rfl, by decide +kernel, rfl, by decide +kernel, by decide +kernel⟩
theorem ok_pile {f : Addr} {fd : FuncData} (F : Fun K "_law_pile" "_law_pile" sPile f fd) (B : Bi mg) (cD : Has P w K mg base 1 "_law_draw" ["tape", "many"] spDraw)
    (cO : Has P w K mg base 2 "_law_any_order" ["tape", "many"] spOrder) (cB : Has P w K mg base 1 "_law_books" [] spBooks) :
    FnOk P w K mg base CX0 3 f fd ["tape", "size"] spPile := by
  refine F.ok scPile (fun vs H Q E h => ?_) (fun cdv A outer s H vs Q E hr h => ?_)
  · obtain ⟨T, S, ns, m, rfl, _⟩ := h
    rfl
  obtain ⟨T, S, ns, m, rfl, tp, m0, m7, q⟩ := h
  refine ⟨_, pss_cons (ps_set (i := 2) scPile.nd rfl (.inr rfl) (pe_slice sl_list (pe_go0 cB hr (by decide) rfl) po_none (po_some (pe_op op_add pe_int (pe_go cD hr (by decide) rfl (pa_cons (pv 0) (pa_cons (pv 1) pa_nil)))))))
    (pss_one (ps_ret (pe_callTy call_tupleZ (by rfl) B.tuple (by decide +kernel) (pa_cons
      (pe_lc (own := [("at", 3)]) (g := gName 3) (tt := tYes) (by rfl) scPile.nd (pi_tup (pe_go cO hr (by decide) rfl (pa_cons (pv 0) (pa_cons (pe_callB call_len_seq (by rfl) B.len PySem.boot_len (pa_cons (pv 2) pa_nil)) pa_nil))))
        (blkOk_by (own := [("at", 3)]) (N := ["tape", "size", "some", "at"]) (sc := defScope sPile) (by decide +kernel))
        (fun _ _ _ _ _ => pg_name (i := 3) scPile.nd rfl (Or.inl rfl)) (fun _ _ _ _ _ => pts_nil) (fun _ _ _ _ _ => pe_ix (ixL (K := K) rfl) (pv 2) (pv 3) (fun _ _ => rfl))) pa_nil)))), ?_⟩
  refine ⟨rfl, fun b hb => ?_⟩
  have tp1 := tp.same (same_new hb (.lst (books.map V.str)))
  refine ⟨_, rfl, _, rfl, T, S, ns, m, rfl, tp1, m0, by omega, fun r a c r0 r1 => ?_⟩
  have nbT : b ≠ T := by
    obtain ⟨o, ho⟩ := tp.taken
    exact new_ne ho hb
  refine ⟨_, _, rfl, rfl, _, rfl, b, _, rfl, sql (by rw [upd_ne nbT]; exact upd_same), fun y hy => ?_⟩
  have tp2 := tp1.put a c
  have tp3 := tp2.same (same_new hy (.lst (cutV (books.map V.str) none (some (1 + r)))))
  have er : (1 + r : Int) = (((r.toNat + 1 : Nat)) : Int) := by omega
  have hn7 : r.toNat + 1 ≤ 7 := by omega
  have ecut : cutV (books.map V.str) none (some (1 + r)) = (books.take (r.toNat + 1)).map V.str := by
    rw [er, cut_to (by show _ ≤ 7; omega), List.map_take]
  have elen : (books.take (r.toNat + 1)).length = r.toNat + 1 := by
    rw [List.length_take]
    show min (r.toNat + 1) 7 = _
    omega
  rw [ecut] at tp3 ⊢
  generalize hbs : books.take (r.toNat + 1) = bs0 at tp3 elen ⊢
  generalize hH3 : upd (upd (upd H b (.lst (books.map V.str))) T (.lst [.ref S, .int a, .int c])) y (.lst (bs0.map V.str)) = H3 at tp3 ⊢
  have sm3 : SameT T H H3 := by
    rw [← hH3]
    exact (SameT.of (same_new hb _)).trans ((sameT_put _).trans (SameT.of (same_new hy _)))
  have hy3 : H3 y = some (.lst (bs0.map V.str)) := by
    rw [← hH3]
    exact upd_same
  have nyT : y ≠ T := new_ne upd_same hy
  refine ⟨_, rfl, _, rfl, y, _, rfl, .inl (sql hy3), T, S, ns, (bs0.map V.str).length, rfl, tp3, by rw [List.length_map, elen]; omega, fun t H4 qs sm4 tp4 nt ht pm => ?_⟩
  rw [List.length_map, elen] at pm
  have lq : qs.length = r.toNat + 1 := by rw [pm.length_eq, List.length_range]
  have hy4 : H4 y = some (.lst (bs0.map V.str)) := sm4 _ _ nyT hy3
  refine ⟨t, rfl, ⟨_, sqt ht⟩, fun D hD => lc_tup (K := K) (a := t) (xs := qs.map natV) (fun i H' => SameT D H4 H' ∧ H' D = some (.lst (((pick bs0 qs).take i).map V.str)))
    ⟨SameT.of (same_new hD _), upd_same⟩ (fun i H' _ h' => sqt (h'.1 _ _ (ne_of_none ht hD) ht)) ?_ ?_⟩
  · rintro i x H' hx ⟨smD, hD'⟩
    rw [List.getElem?_map] at hx
    cases e : qs[i]? with
    | none =>
      rw [e] at hx
      cases hx
    | some k =>
      rw [e] at hx
      cases hx
      have hk : k < bs0.length := by
        rw [elen]
        exact List.mem_range.mp (pm.mem_iff.mp (List.mem_of_getElem? e))
      refine ⟨rfl, _, rfl, _, rfl, y, _, _, .str bs0[k], rfl, rfl, sql (smD _ _ (ne_of_none hy4 hD) hy4), at_of rfl (by rw [List.getElem?_map, List.getElem?_eq_getElem hk]; rfl), _, hD', ?_, ?_⟩
      · have lp : (pick bs0 qs).length = qs.length := by
          unfold pick
          rw [List.length_map]
        rw [List.length_map, List.length_take]
        exact small1000 (by omega)
      · refine ⟨fun b' o nb h => by rw [upd_ne nb]; exact smD b' o nb h, ?_⟩
        have ep : (pick bs0 qs)[i]? = some bs0[k] := by
          unfold pick
          rw [List.getElem?_map, e]
          show some ((bs0[k]?).getD Str.empty) = _
          rw [List.getElem?_eq_getElem hk]
          rfl
        rw [upd_same, List.take_add_one, ep, List.map_append]
        rfl
  · rintro H' ⟨smD, hD'⟩
    rw [List.length_map, List.take_of_length_le (by unfold pick; rw [List.length_map]; omega)] at hD'
    refine ⟨D, _, rfl, sql hD', fun p u hp hu => ?_⟩
    have s5 : Same H4 H' := fun b' o h => smD b' o (ne_of_none h hD) h
    have tp5 := tp4.same (s5.trans (same_new hp u))
    have sm5 : SameT T H (upd H' p u) := sm3.trans (sm4.trans (SameT.of (s5.trans (same_new hp _))))
    have np : H p = none := by
      refine (sm3.trans (sm4.trans (SameT.of s5))).free ?_ hp
      obtain ⟨o2, h2⟩ := (tp4.same s5).taken
      exact new_ne h2 hp
    refine q p _ (pick bs0 qs) sm5 tp5 np (TpO.new hu) ?_ ?_
    · rw [← hbs]
      exact pile_of (by omega) hn7 pm
    · unfold pick
      rw [List.length_map, lq]
      omega
theorem scReadings : FnScope ["tape", "books", "size", "some", "k"] ["tape", "books", "size"] (defScope sReadings) := ⟨rfl, rfl, rfl, by decide +kernel, rfl, by decide +kernel, by decide +kernel⟩
theorem ok_readings {f : Addr} {fd : FuncData} (F : Fun K "_law_readings" "_law_readings" sReadings f fd) (B : Bi mg) (cD : Has P w K mg base 1 "_law_draw" ["tape", "many"] spDraw) :
    FnOk P w K mg base CX0 2 f fd ["tape", "books", "size"] spReadings := by
  refine F.ok scReadings (fun vs H Q E h => ?_) (fun cdv A outer s H vs Q E hr h => ?_)
  · obtain ⟨T, S, p, ns, bs, m, rfl, _⟩ := h
    rfl
  obtain ⟨T, S, p, ns, bs, m, rfl, tp, hp, b0, b7, m0, m60, q⟩ := h
  refine ⟨_, pss_cons (ps_set (i := 3) scReadings.nd rfl (.inr rfl) (pe_slice sl_list (pe_callTy call_list_of (by rfl) B.list (by decide +kernel) (pa_cons (pv 1) pa_nil)) po_none
      (po_some (pe_op op_add pe_int (pe_go cD hr (by decide) rfl (pa_cons (pv 0) (pa_cons (pe_callB call_len_seq (by rfl) B.len PySem.boot_len (pa_cons (pv 1) pa_nil)) pa_nil)))))))
    (pss_one (ps_ret (pe_lc (own := [("k", 4)]) (g := gName 4) (tt := tYes) (by rfl) scReadings.nd (pi_range1 (by rfl) B.range (pa_cons (pe_go cD hr (by decide) rfl (pa_cons (pv 0) (pa_cons (pe_op op_add (pv 2) pe_int) pa_nil))) pa_nil))
        (blkOk_by (own := [("k", 4)]) (N := ["tape", "books", "size", "some", "k"]) (sc := defScope sReadings) (by decide +kernel))
        (fun _ _ _ _ _ => pg_name (i := 4) scReadings.nd rfl (Or.inl rfl)) (fun _ _ _ _ _ => pts_nil)
        (fun _ _ _ _ _ => pe_ix (ixL (K := K) rfl) (pv 3) (pe_go cD hr (by decide) rfl (pa_cons (pv 0) (pa_cons (pe_callB (cLen (K := K) rfl) (by rfl) B.len PySem.boot_len (pa_cons (pv 3) pa_nil)) pa_nil))) (fun _ _ => rfl))))), ?_⟩
  have npT : p ≠ T := by
    obtain ⟨i, c, hT⟩ := tp.at_
    exact hp.ne hT (fun o z => nomatch z)
  refine ⟨_, rfl, p, _, rfl, .inr hp.sqt, fun L hL => ?_⟩
  have s1 : Same H (upd H L (.lst (bs.map V.str))) := same_new hL _
  have tp1 := tp.same s1
  have nLT : L ≠ T := by
    obtain ⟨o, ho⟩ := tp.taken
    exact new_ne ho hL
  refine ⟨_, rfl, _, rfl, p, _, rfl, .inr (hp.same s1).sqt, T, S, ns, _, rfl, tp1, by rw [List.length_map]; omega, by rw [List.length_map]; omega, fun r a c r0 r1 => ?_⟩
  rw [List.length_map] at r1
  refine ⟨_, _, rfl, rfl, _, rfl, L, _, rfl, sql (by rw [upd_ne nLT]; exact upd_same), fun y hy => ?_⟩
  have er : (1 + r : Int) = (((r.toNat + 1 : Nat)) : Int) := by omega
  have ecut : cutV (bs.map V.str) none (some (1 + r)) = (bs.take (r.toNat + 1)).map V.str := by
    rw [er, cut_to (by rw [List.length_map]; omega), List.map_take]
  have elen : (bs.take (r.toNat + 1)).length = r.toNat + 1 := by
    rw [List.length_take]
    omega
  have tp3 := (tp1.put a c).same (same_new hy (.lst (cutV (bs.map V.str) none (some (1 + r)))))
  rw [ecut] at tp3 ⊢
  have sub : ∀ b ∈ bs.take (r.toNat + 1), b ∈ bs := fun b hb => List.mem_of_mem_take hb
  generalize bs.take (r.toNat + 1) = bs0 at tp3 elen sub ⊢
  generalize hH3 : upd (upd (upd H L (.lst (bs.map V.str))) T (.lst [.ref S, .int a, .int c])) y (.lst (bs0.map V.str)) = H3 at tp3 ⊢
  have sm3 : SameT T H H3 := by
    rw [← hH3]
    exact (SameT.of s1).trans ((sameT_put _).trans (SameT.of (same_new hy _)))
  have hy3 : H3 y = some (.lst (bs0.map V.str)) := by
    rw [← hH3]
    exact upd_same
  have nyT : y ≠ T := new_ne upd_same hy
  refine ⟨_, rfl, _, rfl, _, _, rfl, rfl, T, S, ns, _, rfl, tp3, by omega, by omega, fun r2 a2 c2 u0 u1 => ?_⟩
  have tp4 := tp3.put a2 c2
  have sm4 : SameT T H3 (upd H3 T (.lst [.ref S, .int a2, .int c2])) := sameT_put _
  generalize upd H3 T (.lst [.ref S, .int a2, .int c2]) = H4 at tp4 sm4 ⊢
  have hy4 : H4 y = some (.lst (bs0.map V.str)) := sm4 _ _ nyT hy3
  refine ⟨r2, rfl, by omega, by omega, fun D hD => ?_⟩
  have nDT : D ≠ T := by
    obtain ⟨o, ho⟩ := tp4.taken
    exact new_ne ho hD
  refine lc_range (lo := 0) (n := r2.toNat) (fun i H' => ∃ rs : List Str, SameT T H4 H' ∧ Tape H' T S ns ∧ H' D = some (.lst (rs.map V.str)) ∧ rs.length = i ∧ ∀ b ∈ rs, b ∈ bs)
    ⟨[], SameT.of (same_new hD _), tp4.same (same_new hD _), upd_same, rfl, fun b hb => nomatch hb⟩ ?_ ?_
  · rintro i H' hi ⟨rs, sm, tp', hD', lr, hm⟩
    have hy' := sm _ _ nyT hy4
    refine ⟨rfl, _, rfl, _, rfl, _, rfl, y, _, rfl, .inl (sql hy'), T, S, ns, _, rfl, tp', by rw [List.length_map, elen]; omega, by rw [List.length_map, elen]; omega, fun r3 a3 c3 v0 v1 => ?_⟩
    rw [List.length_map] at v1
    have hk : r3.toNat < bs0.length := by omega
    refine ⟨y, _, _, .str bs0[r3.toNat], rfl, rfl, sql (by rw [upd_ne nyT]; exact hy'), at_of (j := r3.toNat) (by omega) (by rw [List.getElem?_map, List.getElem?_eq_getElem hk]; rfl), _, (by rw [upd_ne nDT]; exact hD'), ?_, ?_⟩
    · rw [List.length_map]
      exact small1000 (by omega)
    · have tp6 := tp'.put a3 c3
      refine ⟨rs ++ [bs0[r3.toNat]], fun b o nb hb => ?_, ?_, ?_, ?_, ?_⟩
      · rw [upd_ne (ne_of_none hb hD)]
        exact sameT_put _ b o nb (sm b o nb hb)
      · obtain ⟨x1, x2, t3⟩ := tp6.at_
        refine ⟨⟨x1, x2, by rw [upd_ne nDT.symm]; exact t3⟩, ?_⟩
        rw [upd_ne (ne_of_none tp4.scr hD)]
        exact tp6.scr
      · rw [upd_same, List.map_append]
        rfl
      · rw [List.length_append, lr]
        rfl
      · intro b hb
        rcases List.mem_append.mp hb with hb | hb
        · exact hm b hb
        · rw [List.mem_singleton.mp hb]
          exact sub _ (List.getElem_mem hk)
  · rintro H' ⟨rs, sm, tp', hD', lr, hm⟩
    have np : H D = none := (sm3.trans sm4).free nDT hD
    exact q D H' rs (sm3.trans (sm4.trans sm)) tp' np hD' (by omega) hm
abbrev nRead : List Str := ["pile", "readings", "left", "numbers", "rows", "book", "above", "other"]
theorem scRead : FnScope nRead ["pile", "readings"] (defScope sRead) := ⟨rfl, rfl, rfl, by decide +kernel, rfl, by decide +kernel, by decide +kernel⟩
theorem ok_read {f : Addr} {fd : FuncData} (F : Fun K "_law_read" "_law_read" sRead f fd) (B : Bi mg) : FnOk P w K mg base CX0 1 f fd ["pile", "readings"] spRead := by
  refine F.ok scRead (fun vs H Q E h => ?_) (fun cdv A outer s H vs Q E hr h => ?_)
  · obtain ⟨p, r, bs, rs, rfl, _⟩ := h
    rfl
  obtain ⟨p, r, bs, rs, rfl, hp, hrr, hl, hl2, hm, q⟩ := h
  refine ⟨_, pss_cons (ps_par3 (i := 2) (j := 3) (l := 4) (by rfl) scRead.nd rfl rfl rfl (by decide) (by decide) (by decide) rfl rfl rfl
      (pa_cons (pe_callTy call_list_of (by rfl) B.list (by decide +kernel) (pa_cons (pv 0) pa_nil)) (pa_cons (pe_lst pa_nil) (pa_cons (pe_lst pa_nil) pa_nil))) (by rfl))
    (pss_cons (ps_for PassesOwn.never rfl (pi_list (pv 1)) (pg_name (i := 5) scRead.nd rfl (.inr rfl))
      (pss_cons (ps_set (i := 6) scRead.nd rfl (.inl rfl) (pe_slice sl_list (pv 2) po_none (po_some (pe_bm PySem.F.plainAttrs_list PySem.F.slot_list_index PySem.F.type_list_index mt_index (pv 2) (pa_cons (pv 5) pa_nil)))))
      (pss_cons (ps_expr (pe_bm PySem.F.plainAttrs_list PySem.F.slot_list_append PySem.F.type_list_append mt_append (pv 3) (pa_cons (pe_callB call_len_seq (by rfl) B.len PySem.boot_len (pa_cons (pv 6) pa_nil)) pa_nil)))
      (pss_cons (ps_set (i := 4) scRead.nd rfl (.inl rfl) (pe_op op_cat (pv 4) (pe_lc (own := [("other", 7)]) (g := gName 7) (tt := tYes) (by rfl) scRead.nd (pi_list (pv 6))
          (blkOk_by (own := [("other", 7)]) (N := nRead) (sc := defScope sRead) (by decide +kernel)) (fun _ _ _ _ _ => pg_name (i := 7) scRead.nd rfl (.inl rfl)) (fun _ _ _ _ _ => pts_nil)
          (fun _ _ _ _ _ => pe_tup (pa_cons (pv 5) (pa_cons (pv 7) pa_nil))))))
      (pss_cons (ps_expr (pe_bm PySem.F.plainAttrs_list PySem.F.slot_list_remove PySem.F.type_list_remove (mt_removeS (hu_of hr)) (pv 2) (pa_cons (pv 5) pa_nil)))
      (pss_one (ps_expr (pe_bm PySem.F.plainAttrs_list PySem.F.slot_list_insert PySem.F.type_list_insert mt_insert (pv 2) (pa_cons pe_int (pa_cons (pv 5) pa_nil))))))))))
    (pss_one (ps_ret (pe_tup (pa_cons (pe_callTy call_tuple_of (by rfl) B.tuple (by decide +kernel) (pa_cons (pv 2) pa_nil)) (pa_cons (pv 3) (pa_cons (pv 4) pa_nil))))))), ?_⟩
  refine ⟨_, rfl, p, _, rfl, .inr hp.sqt, fun L hL => ⟨Nat.zero_le _, fun N hN => ⟨Nat.zero_le _, fun R hR => ⟨_, _, _, rfl, ?_⟩⟩⟩⟩
  have s1 := same_new hL (.lst (bs.map V.str))
  have s2 := same_new hN (.lst [])
  have s3 := same_new hR (.lst [])
  have sm0 : Same H (upd (upd (upd H L (.lst (bs.map V.str))) N (.lst [])) R (.lst [])) := s1.trans (s2.trans s3)
  have nLN : L ≠ N := ne_of_none upd_same hN
  have nLR : L ≠ R := ne_of_none (s2 _ _ upd_same) hR
  have nNR : N ≠ R := ne_of_none upd_same hR
  have nN0 : H N = none := s1.free hN
  have hL3 : upd (upd (upd H L (.lst (bs.map V.str))) N (.lst [])) R (.lst []) L = some (.lst (bs.map V.str)) := s3 _ _ (s2 _ _ upd_same)
  have hN3 : upd (upd (upd H L (.lst (bs.map V.str))) N (.lst [])) R (.lst []) N = some (.lst []) := s3 _ _ upd_same
  have hR3 : upd (upd (upd H L (.lst (bs.map V.str))) N (.lst [])) R (.lst []) R = some (.lst []) := upd_same
  generalize upd (upd (upd H L (.lst (bs.map V.str))) N (.lst [])) R (.lst []) = H3 at sm0 hL3 hN3 hR3 ⊢
  refine ⟨_, rfl, r, rfl, ⟨_, sm0.seq (sql hrr)⟩, for_list (K := K) (a := r) (xs := rs.map V.str)
    (fun i σ H' => ∃ (R : Addr) (y5 y6 : Option V) (ts : List Addr), σ = [some (.ref p), some (.ref r), some (.ref L), some (.ref N), some (.ref R), y5, y6, none] ∧ Same H H' ∧ L ≠ R ∧ N ≠ R ∧
      H' L = some (.lst ((behindM bs (rs.take i)).map V.str)) ∧ H' N = some (.lst ((liftedM bs (rs.take i)).map natV)) ∧ H' R = some (.lst (ts.map V.ref)) ∧ PairsL H' ts (rowsM bs (rs.take i)))
    ⟨R, none, none, [], rfl, sm0, nLR, nNR, hL3, hN3, hR3, PairsL.nil _⟩ (fun i σ H' _ ⟨_, _, _, _, _, sm, _⟩ => sm.seq (sql hrr)) ?_ ?_⟩
  · rintro i x σ H' hx ⟨R, y5, y6, ts, rfl, sm, nLR, nNR, hL', hN', hR', pl⟩
    obtain ⟨b, hb, rfl⟩ := strs_get hx
    have hi : i < rs.length := (List.getElem?_eq_some_iff.mp hb).1
    have pmi := behindM_perm (rs.take i) (take_sub hm i)
    have hbm := pmi.mem_iff.mpr (hm b (List.mem_of_getElem? hb))
    have rl : (rowsM bs (rs.take i)).length ≤ 420 := by
      have z := rowsM_len (rs.take i) (take_sub hm i)
      have z2 : (rs.take i).length * bs.length ≤ 60 * 7 := Nat.mul_le_mul (by rw [List.length_take]; omega) hl
      omega
    have e1 : lay (behindM bs (rs.take i)) b = behindM bs (rs.take (i + 1)) := by rw [take_step hb, behindM_snoc]
    have e2 : liftedM bs (rs.take i) ++ [(behindM bs (rs.take i)).idxOf b] = liftedM bs (rs.take (i + 1)) := by rw [take_step hb, liftedM_snoc]
    have e3 : rowsM bs (rs.take i) ++ (over (behindM bs (rs.take i)) b).map (fun o => (b, o)) = rowsM bs (rs.take (i + 1)) := by rw [take_step hb, rowsM_snoc]
    rw [← e1, ← e2, ← e3]
    have lnum : (liftedM bs (rs.take i)).length ≤ 60 := by rw [liftedM_len, List.length_take]; omega
    generalize behindM bs (rs.take i) = cur at hL' pmi hbm ⊢
    generalize rowsM bs (rs.take i) = rows at pl rl ⊢
    generalize liftedM bs (rs.take i) = nums at hN' lnum ⊢
    have lc : cur.length ≤ 7 := by rw [pmi.length_eq]; exact hl
    have ib := idx_lt hbm
    have lm : (cur.map V.str).length = cur.length := List.length_map _
    -- above
    refine ⟨_, rfl, _, rfl, .inl ⟨rfl, _, sql hL'⟩, _, rfl, L, _, _, cur.idxOf b, .str b, rfl, rfl, sql hL', rfl, flat_map _, by rw [List.getElem?_map, idx_get hbm]; rfl, by show (b == b) = true; exact beq_self_eq_true b, fun m z hm' hz => ?_, _, rfl, L, _, rfl, sql hL', fun A' hA => ?_⟩
    · obtain ⟨c, hc, rfl⟩ := strs_get hz
      show (c == b) = false
      exact beq_eq_false_iff_ne.mpr fun e => idx_first m hm' (by rw [hc, e])
    rw [cut_to (by rw [lm]; omega), ← List.map_take]
    have sA := same_new hA (.lst ((cur.take (cur.idxOf b)).map V.str))
    have hA' : upd H' A' (.lst ((cur.take (cur.idxOf b)).map V.str)) A' = some (.lst ((over cur b).map V.str)) := upd_same
    have hLA := sA _ _ hL'
    have hNA := sA _ _ hN'
    have hRA := sA _ _ hR'
    have plA := pl.move (KeepT.of sA)
    have smA := sm.trans sA
    have nAN : A' ≠ N := (ne_of_none hN' hA).symm
    have nAL : A' ≠ L := (ne_of_none hL' hA).symm
    have nAR : A' ≠ R := (ne_of_none hR' hA).symm
    generalize upd H' A' (.lst ((cur.take (cur.idxOf b)).map V.str)) = HA at hA' hLA hNA hRA plA smA ⊢
    have ol : (over cur b).length = cur.idxOf b := by
      unfold over
      rw [List.length_take]
      omega
    -- numbers
    refine ⟨_, rfl, .inl ⟨rfl, _, sql hNA⟩, _, rfl, A', _, rfl, .inl (sql hA'), N, _, _, rfl, rfl, hNA, by rw [List.length_map]; exact small1000 (by omega), ?_⟩
    have en : nums.map natV ++ [V.int (((over cur b).map V.str).length : Int)] = (nums ++ [cur.idxOf b]).map natV := by rw [List.map_append, List.length_map, ol]; rfl
    rw [en]
    have smN : Same H (upd HA N (.lst ((nums ++ [cur.idxOf b]).map natV))) := same_put smA nN0
    have plN := plA.move (KeepT.put (D := N) (o := .lst ((nums ++ [cur.idxOf b]).map natV)) hNA (fun xs z => nomatch z))
    have hAN : upd HA N (.lst ((nums ++ [cur.idxOf b]).map natV)) A' = some (.lst ((over cur b).map V.str)) := by rw [upd_ne nAN]; exact hA'
    have hLN : upd HA N (.lst ((nums ++ [cur.idxOf b]).map natV)) L = some (.lst (cur.map V.str)) := by rw [upd_ne nLN]; exact hLA
    have hRN : upd HA N (.lst ((nums ++ [cur.idxOf b]).map natV)) R = some (.lst (ts.map V.ref)) := by rw [upd_ne nNR.symm]; exact hRA
    have hNN : upd HA N (.lst ((nums ++ [cur.idxOf b]).map natV)) N = some (.lst ((nums ++ [cur.idxOf b]).map natV)) := upd_same
    generalize upd HA N (.lst ((nums ++ [cur.idxOf b]).map natV)) = HN at smN plN hAN hLN hRN hNN ⊢
    -- rows
    refine ⟨_, rfl, _, rfl, A', rfl, ⟨_, sql hAN⟩, fun D hD => lc_list (K := K) (a := A') (xs := (over cur b).map V.str)
      (fun j H2 => ∃ us : List Addr, Same HN H2 ∧ H2 D = some (.lst (us.map V.ref)) ∧ PairsL H2 us (((over cur b).take j).map fun o => (b, o)))
      ⟨[], same_new hD _, upd_same, PairsL.nil _⟩ (fun j H2 _ ⟨_, s2, _⟩ => s2.seq (sql hAN)) ?_ ?_⟩
    · rintro j x H2 hx2 ⟨us, s2, hD2, pl2⟩
      obtain ⟨o, ho, rfl⟩ := strs_get hx2
      refine ⟨rfl, _, rfl, _, rfl, (by show 2 ≤ sizeLine; decide), fun t ht => ?_⟩
      have s5 := same_new ht (.tup [.str b, .str o])
      refine ⟨_, s5 _ _ hD2, ?_, us ++ [t], same_put (s2.trans s5) hD, by rw [upd_same, List.map_append]; rfl, ?_⟩
      · have z := pl2.1
        rw [List.length_map, List.length_take] at z
        rw [List.length_map]
        exact small1000 (by omega)
      · rw [List.take_add_one, ho, List.map_append]
        exact ((pl2.move (KeepT.of s5)).snoc (t := t) (q := (b, o)) upd_same).move (KeepT.put (s5 _ _ hD2) (fun xs z => nomatch z))
    · rintro H2 ⟨us, s2, hD2, pl2⟩
      rw [List.length_map, List.take_length] at pl2
      have lus : us.length ≤ 7 := by rw [pl2.1, List.length_map]; omega
      have lts : ts.length ≤ 420 := by rw [plN.1]; exact rl
      refine ⟨R, D, _, _, rfl, rfl, s2 _ _ hRN, hD2, by rw [List.length_map, List.length_map]; exact Nat.le_of_lt (small1000 (by omega)), fun R2 hR2 => ?_⟩
      have s6 := same_new hR2 (.lst (ts.map V.ref ++ us.map V.ref))
      have hR6 : upd H2 R2 (.lst (ts.map V.ref ++ us.map V.ref)) R2 = some (.lst ((ts ++ us).map V.ref)) := by rw [upd_same, List.map_append]
      have sm6 : Same H (upd H2 R2 (.lst (ts.map V.ref ++ us.map V.ref))) := smN.trans (s2.trans s6)
      have hL6 := s6 _ _ (s2 _ _ hLN)
      have hN6 := s6 _ _ (s2 _ _ hNN)
      have nLR2 : L ≠ R2 := ne_of_none (s2 _ _ hLN) hR2
      have nNR2 : N ≠ R2 := ne_of_none (s2 _ _ hNN) hR2
      have pl6 : PairsL (upd H2 R2 (.lst (ts.map V.ref ++ us.map V.ref))) (ts ++ us) (rows ++ (over cur b).map fun o => (b, o)) := by
        have a1 := (plN.move (KeepT.of s2)).move (KeepT.of s6)
        have a2 := pl2.move (KeepT.of s6)
        refine ⟨by rw [List.length_append, List.length_append, a1.1, a2.1], fun k t z h1 h2 => ?_⟩
        by_cases hk : k < ts.length
        · rw [List.getElem?_append_left hk] at h1
          rw [List.getElem?_append_left (by rw [← a1.1]; exact hk)] at h2
          exact a1.2 k t z h1 h2
        · rw [List.getElem?_append_right (by omega)] at h1
          rw [List.getElem?_append_right (by rw [← a1.1]; omega), ← a1.1] at h2
          exact a2.2 _ t z h1 h2
      generalize upd H2 R2 (.lst (ts.map V.ref ++ us.map V.ref)) = H6 at hR6 sm6 hL6 hN6 pl6 ⊢
      -- remove, insert
      refine ⟨_, rfl, .inl ⟨rfl, _, sql hL6⟩, _, rfl, L, cur, b, cur.idxOf b, rfl, rfl, hL6, idx_get hbm, idx_first, ?_⟩
      refine ⟨_, rfl, .inl ⟨rfl, _, sql upd_same⟩, _, rfl, L, _, 0, _, rfl, rfl, upd_same, ?_, by decide, by decide, ?_⟩
      · rw [List.length_map]
        have z := List.length_eraseIdx_le cur (cur.idxOf b)
        exact small1000 (by omega)
      · rw [upd_upd]
        have el : ((cur.eraseIdx (cur.idxOf b)).map V.str).take (0 : Int).toNat ++ [V.str b] ++ ((cur.eraseIdx (cur.idxOf b)).map V.str).drop (0 : Int).toNat = (lay cur b).map V.str := rfl
        rw [el]
        refine ⟨R2, _, _, ts ++ us, rfl, same_put sm6 hL, nLR2, nNR2, upd_same, ?_, ?_, ?_⟩
        · rw [upd_ne nLN.symm]
          exact hN6
        · rw [upd_ne nLR2.symm]
          exact hR6
        · exact pl6.move (KeepT.put hL6 (fun xs z => nomatch z))
  · rintro σ H' ⟨R, y5, y6, ts, rfl, sm, nLR, nNR, hL', hN', hR', pl⟩
    rw [List.length_map, List.take_length] at hL' hN' pl
    refine ⟨_, rfl, L, _, rfl, .inl ⟨sql hL', fun a ha => ?_⟩⟩
    have s4 := same_new ha (.tup ((behindM bs rs).map V.str))
    refine ⟨_, rfl, _, rfl, (by show 3 ≤ sizeLine; decide), fun t ht => ?_⟩
    have s5 := same_new ht (.tup [.ref a, .ref N, .ref R])
    exact q t a N R _ ts (sm.trans (s4.trans s5)) upd_same (s5 _ _ upd_same) (s5 _ _ (s4 _ _ hN')) (s5 _ _ (s4 _ _ hR')) ((pl.move (KeepT.of s4)).move (KeepT.of s5))
theorem scLaid : FnScope ["pile", "book", "at"] ["pile", "book"] (defScope sLaid) := ⟨rfl, rfl, rfl, by decide +kernel, rfl, by decide +kernel, by decide +kernel⟩
theorem ok_laid {f : Addr} {fd : FuncData} (F : Fun K "laid_on_top" "laid_on_top" sLaid f fd) : FnOk P w K mg base CX0 1 f fd ["pile", "book"] spLaid := by
  refine F.ok scLaid (fun vs H Q E h => ?_) (fun cdv A outer s H vs Q E hr h => ?_)
  · obtain ⟨p, bs, b, rfl, _⟩ := h
    rfl
  obtain ⟨p, bs, b, rfl, hp, hb, hl, q⟩ := h
  refine ⟨_, pss_cons (ps_set (i := 2) scLaid.nd rfl (.inl rfl) (pe_tm PySem.F.slot_tuple_index PySem.F.type_tuple_index mt_tup_index (pv 0) (pa_cons (pv 1) pa_nil)))
    (pss_one (ps_ret (pe_op op_catZ (pe_op op_catZ (pe_tupZ (pa_cons (pv 1) pa_nil)) (pe_slice sl_tupA (pv 0) po_none (po_some (pv 2))))
      (pe_slice sl_tupA (pv 0) (po_some (pe_op op_add (pv 2) pe_int)) po_none)))), ?_⟩
  have ib := idx_lt hb
  have lm : (bs.map V.str).length = bs.length := List.length_map _
  refine ⟨_, rfl, ⟨p, _, rfl, hp⟩, _, rfl, p, bs, b, bs.idxOf b, rfl, rfl, hp.sqt, idx_get hb, idx_first, ?_⟩
  refine ⟨_, rfl, (by show 1 ≤ sizeLine; decide), fun t u ht hu => ?_⟩
  have s1 : Same H (upd H t u) := same_new ht _
  have g1 : ¬ (HT.sIx (bs.map V.str).length 0 none = 0 ∧ HT.sIx (bs.map V.str).length (bs.map V.str).length (some ((bs.idxOf b : Nat) : Int)) = (bs.map V.str).length) := by
    rw [HT.sIx_nat, lm]
    omega
  refine ⟨_, rfl, _, rfl, _, rfl, p, _, rfl, (hp.same s1).sqt, fun z => absurd z g1, fun _ a ha => ?_⟩
  rw [cut_to (by rw [lm]; omega), ← List.map_take]
  have s2 := same_new ha (.tup ((bs.take (bs.idxOf b)).map V.str))
  have t2 : TpO (upd (upd H t u) a (.tup ((bs.take (bs.idxOf b)).map V.str))) t [V.str b] := (TpO.new hu).same s2
  have ha2 : upd (upd H t u) a (.tup ((bs.take (bs.idxOf b)).map V.str)) a = some (.tup ((bs.take (bs.idxOf b)).map V.str)) := upd_same
  have s12 := s1.trans s2
  generalize upd (upd H t u) a (.tup ((bs.take (bs.idxOf b)).map V.str)) = H2 at s12 t2 ha2 ⊢
  have fin : ∀ (c : Addr) (H3 : Hp), Same H H3 → TpO H3 c ([V.str b] ++ (bs.take (bs.idxOf b)).map V.str) → ∀ σ : L2.St, σ = [some (.ref p), some (.str b), some (.int ((bs.idxOf b : Nat) : Int))] →
      tSl (rSlA K) (tVar 0) (tPart (tOp (rI0 fun i j => .int (i + j)) (tVar 2) (tC (.int 1)))) tNoPart σ H3 fun y H4 => rCatZ K (.ref c) y H4 Q := by
    rintro c H3 s3 hc σ rfl
    have g2 : ¬ (HT.sIx (bs.map V.str).length 0 (some (((bs.idxOf b : Nat) : Int) + 1)) = 0 ∧ HT.sIx (bs.map V.str).length (bs.map V.str).length none = (bs.map V.str).length) := by
      have e : (((bs.idxOf b : Nat) : Int) + 1) = ((bs.idxOf b + 1 : Nat) : Int) := by omega
      rw [e, HT.sIx_nat, lm]
      omega
    refine ⟨_, rfl, _, rfl, _, _, rfl, rfl, _, rfl, p, _, rfl, (hp.same s3).sqt, fun z => absurd z g2, fun _ d hd => ?_⟩
    have ecut : cutV (bs.map V.str) (some (((bs.idxOf b : Nat) : Int) + 1)) none = (bs.drop (bs.idxOf b + 1)).map V.str := by
      have e : (((bs.idxOf b : Nat) : Int) + 1) = ((bs.idxOf b + 1 : Nat) : Int) := by omega
      rw [e, cut_from (by rw [lm]; omega), List.map_drop]
    rw [ecut]
    have s4 := same_new hd (.tup ((bs.drop (bs.idxOf b + 1)).map V.str))
    refine ⟨c, d, _, _, rfl, rfl, (hc.same s4).sqt, sqt upd_same, by simp, ?_, fun z => ?_, fun _ r v hr' hv => ?_⟩
    · rw [List.length_append, List.length_map, List.length_map, List.length_take, List.length_drop, List.length_singleton]
      exact Nat.le_of_lt (small1000 (by omega))
    · refine q c _ (s3.trans s4) ?_
      have e : (lay bs b).map V.str = [V.str b] ++ (bs.take (bs.idxOf b)).map V.str := by rw [lay_map, z, List.append_nil]
      rw [e]
      exact hc.same s4
    · refine q r _ (s3.trans (s4.trans (same_new hr' _))) ?_
      rw [lay_map, ← List.append_assoc]
      exact TpO.new hv
  refine ⟨t, a, _, _, rfl, rfl, t2.sqt, sqt ha2, by simp, ?_, fun z => ?_, fun _ c v hc hv => ?_⟩
  · rw [List.length_map, List.length_take, List.length_singleton]
    exact Nat.le_of_lt (small1000 (by omega))
  · refine fin t H2 s12 ?_ _ rfl
    rw [z, List.append_nil]
    exact t2
  · exact fin c _ (s12.trans (same_new hc _)) (TpO.new hv) _ rfl
theorem scBehind : FnScope ["pile", "readings", "order", "book"] ["pile", "readings"] (defScope sBehind) := ⟨rfl, rfl, rfl, by decide +kernel, rfl, by decide +kernel, by decide +kernel⟩
theorem ok_behind {f : Addr} {fd : FuncData} (F : Fun K "behind" "behind" sBehind f fd) (cL : Has P w K mg base 1 "laid_on_top" ["pile", "book"] spLaid) : FnOk P w K mg base CX0 2 f fd ["pile", "readings"] spBehind := by
  refine F.ok scBehind (fun vs H Q E h => ?_) (fun cdv A outer s H vs Q E hr h => ?_)
  · obtain ⟨p, r, bs, rs, rfl, _⟩ := h
    rfl
  obtain ⟨p, r, bs, rs, rfl, hp, hrr, hl, hm, q⟩ := h
  refine ⟨_, pss_cons (ps_set (i := 2) scBehind.nd rfl (.inl rfl) (pv 0))
    (pss_cons (ps_for PassesOwn.never rfl (pi_list (pv 1)) (pg_name (i := 3) scBehind.nd rfl (.inl rfl))
      (pss_one (ps_set (i := 2) scBehind.nd rfl (.inl rfl) (pe_go cL hr (by decide) rfl (pa_cons (pv 2) (pa_cons (pv 3) pa_nil))))))
    (pss_one (ps_ret (pv 2)))), ?_⟩
  refine ⟨_, rfl, _, rfl, r, rfl, ⟨_, sql hrr⟩, for_list (K := K) (a := r) (xs := rs.map V.str) (fun i σ H' => ∃ (o : Addr) (y3 : Option V), σ = [some (.ref p), some (.ref r), some (.ref o), y3] ∧ Same H H' ∧ TpO H' o ((behindM bs (rs.take i)).map V.str))
    ⟨p, none, rfl, Same.refl _, hp⟩ (fun i σ H' _ ⟨_, _, _, sm, _⟩ => sm.seq (sql hrr)) ?_ ?_⟩
  · rintro i x σ H' hx ⟨o, y3, rfl, sm, ho⟩
    obtain ⟨b, hb, rfl⟩ := strs_get hx
    have pm := behindM_perm (rs.take i) (take_sub hm i)
    refine ⟨_, rfl, _, rfl, o, _, b, rfl, ho, pm.mem_iff.mpr (hm b (List.mem_of_getElem? hb)), by rw [pm.length_eq]; exact hl, fun o2 H2 s2 h2 => ?_⟩
    refine ⟨o2, _, rfl, sm.trans s2, ?_⟩
    rw [take_step hb, behindM_snoc]
    exact h2
  · rintro σ H' ⟨o, y3, rfl, sm, ho⟩
    rw [List.length_map, List.take_length] at ho
    exact ⟨_, rfl, q o H' sm ho⟩
theorem scLifted : FnScope ["pile", "readings", "numbers", "order", "book"] ["pile", "readings"] (defScope sLifted) := ⟨rfl, rfl, rfl, by decide +kernel, rfl, by decide +kernel, by decide +kernel⟩
theorem ok_lifted {f : Addr} {fd : FuncData} (F : Fun K "lifted" "lifted" sLifted f fd) (cL : Has P w K mg base 1 "laid_on_top" ["pile", "book"] spLaid) : FnOk P w K mg base CX0 2 f fd ["pile", "readings"] spLifted := by
  refine F.ok scLifted (fun vs H Q E h => ?_) (fun cdv A outer s H vs Q E hr h => ?_)
  · obtain ⟨p, r, bs, rs, rfl, _⟩ := h
    rfl
  obtain ⟨p, r, bs, rs, rfl, hp, hrr, hl, hl2, hm, q⟩ := h
  refine ⟨_, pss_cons (ps_set (i := 2) scLifted.nd rfl (.inl rfl) (pe_lst pa_nil))
    (pss_cons (ps_set (i := 3) scLifted.nd rfl (.inl rfl) (pv 0))
    (pss_cons (ps_for PassesOwn.never rfl (pi_list (pv 1)) (pg_name (i := 4) scLifted.nd rfl (.inl rfl))
      (pss_cons (ps_expr (pe_bm PySem.F.plainAttrs_list PySem.F.slot_list_append PySem.F.type_list_append mt_append (pv 2) (pa_cons (pe_tm PySem.F.slot_tuple_index PySem.F.type_tuple_index mt_tup_index (pv 3) (pa_cons (pv 4) pa_nil)) pa_nil)))
      (pss_one (ps_set (i := 3) scLifted.nd rfl (.inl rfl) (pe_go cL hr (by decide) rfl (pa_cons (pv 3) (pa_cons (pv 4) pa_nil)))))))
    (pss_one (ps_ret (pv 2))))), ?_⟩
  refine ⟨Nat.zero_le _, fun L hL => ?_⟩
  have s1 : Same H (upd H L (.lst [])) := same_new hL _
  refine ⟨_, rfl, _, rfl, r, rfl, ⟨_, sql (s1 _ _ hrr)⟩, for_list (K := K) (a := r) (xs := rs.map V.str) (fun i σ H' => ∃ (o : Addr) (y4 : Option V), σ = [some (.ref p), some (.ref r), some (.ref L), some (.ref o), y4] ∧ Same H H' ∧ TpO H' o ((behindM bs (rs.take i)).map V.str) ∧ H' L = some (.lst ((liftedM bs (rs.take i)).map natV)))
    ⟨p, none, rfl, s1, hp.same s1, upd_same⟩ (fun i σ H' _ ⟨_, _, _, sm, _⟩ => sm.seq (sql hrr)) ?_ ?_⟩
  · rintro i x σ H' hx ⟨o, y4, rfl, sm, ho, hL'⟩
    obtain ⟨b, hb, rfl⟩ := strs_get hx
    have pm := behindM_perm (rs.take i) (take_sub hm i)
    have hbm := pm.mem_iff.mpr (hm b (List.mem_of_getElem? hb))
    have nLo : L ≠ o := fun e => by
      subst e
      obtain ⟨u, h1, o1, rfl, _⟩ := ho
      rw [hL'] at h1
      cases h1
    refine ⟨_, rfl, .inl ⟨rfl, _, sql hL'⟩, _, rfl, ⟨o, _, rfl, ho⟩, _, rfl, o, _, b, _, rfl, rfl, ho.sqt, idx_get hbm, idx_first, L, _, _, rfl, rfl, hL', ?_, ?_⟩
    · rw [List.length_map, liftedM_len, List.length_take]
      exact small1000 (by omega)
    · have ho2 : TpO (upd H' L (.lst ((liftedM bs (rs.take i)).map natV ++ [natV ((behindM bs (rs.take i)).idxOf b)]))) o ((behindM bs (rs.take i)).map V.str) := ho.move fun u h => by
        rw [upd_ne nLo.symm]
        exact h
      refine ⟨_, rfl, _, rfl, o, _, b, rfl, ho2, hbm, by rw [pm.length_eq]; exact hl, fun o2 H2 s2 h2 => ?_⟩
      refine ⟨o2, _, rfl, (same_put sm hL).trans s2, ?_, ?_⟩
      · rw [take_step hb, behindM_snoc]
        exact h2
      · rw [take_step hb, liftedM_snoc, List.map_append]
        exact s2 _ _ upd_same
  · rintro σ H' ⟨o, y4, rfl, sm, ho, hL'⟩
    rw [List.length_map, List.take_length] at hL'
    exact ⟨_, rfl, q L H' sm hL hL'⟩
theorem scLike : FnScope ["one", "two", "k"] ["one", "two"] (defScope sLike) := ⟨rfl, rfl, rfl, by decide +kernel, rfl, by decide +kernel, by decide +kernel⟩
theorem like_step {f : Addr} {fd : FuncData} {n : Nat} (F : Fun K "_law_like" "_law_like" sLike f fd) (B : Bi mg) (cI : Has P w K mg base n "_law_like" ["one", "two"] (spLike K n)) :
    FnOk P w K mg base CX0 (n + 1) f fd ["one", "two"] (spLike K (n + 1)) := by
  refine F.ok scLike (fun vs H Q E h => ?_) (fun cdv A outer s H vs Q E hr h => ?_)
  · obtain ⟨v1, v2, d, m, _, rfl, _⟩ := h
    rfl
  obtain ⟨v1, v2, d, m, hn, rfl, h1, h2, fine, q⟩ := h
  cases hn
  refine ⟨_, pss_cons (ps_if (pt_val (pe_callB call_isiT (by rfl) B.isinstance (by decide +kernel) (pa_cons (pv 0) (pa_cons (pe_tup (pa_cons (pe_bltn (v := .ty "list") (by rfl) B.list (by decide +kernel) rfl) (pa_cons (pe_bltn (v := .ty "tuple") (by rfl) B.tuple (by decide +kernel) rfl) pa_nil))) pa_nil))))
      (pss_cons (ps_if (PW.pt (pw_or (pt_cmpR op_ne (pe_callB call_isi (by rfl) B.isinstance (by decide +kernel) (pa_cons (pv 0) (pa_cons (pe_bltn (v := .ty "list") (by rfl) B.list (by decide +kernel) rfl) pa_nil)))
            (pe_callB call_isi (by rfl) B.isinstance (by decide +kernel) (pa_cons (pv 1) (pa_cons (pe_bltn (v := .ty "list") (by rfl) B.list (by decide +kernel) rfl) pa_nil))) (nomark _))
          (pw_or1 (pt_cmpR op_ne (pe_callB call_isi (by rfl) B.isinstance (by decide +kernel) (pa_cons (pv 0) (pa_cons (pe_bltn (v := .ty "tuple") (by rfl) B.tuple (by decide +kernel) rfl) pa_nil)))
            (pe_callB call_isi (by rfl) B.isinstance (by decide +kernel) (pa_cons (pv 1) (pa_cons (pe_bltn (v := .ty "tuple") (by rfl) B.tuple (by decide +kernel) rfl) pa_nil))) (nomark _))))) (pss_one (ps_ret pe_bl)) pss_nil)
      (pss_cons (ps_if (pt_cmpR op_ne (pe_callB call_len_seq (by rfl) B.len PySem.boot_len (pa_cons (pv 0) pa_nil)) (pe_callB call_len_seq (by rfl) B.len PySem.boot_len (pa_cons (pv 1) pa_nil)) (nomark _)) (pss_one (ps_ret pe_bl)) pss_nil)
      (pss_one (ps_ret (pe_cmpR (op_eqD hr.units) (pe_lc (own := [("k", 2)]) (g := gName 2) (tt := tNot (tB (tCall (spLike K n) [] E0 (tCons (tOp (rIx K) (tVar 0) (tVar 2)) (tCons (tOp (rIx K) (tVar 1) (tVar 2)) tNil)))))
          (by rfl) scLike.nd (pi_range1 (by rfl) B.range (pa_cons (pe_callB call_len_seq (by rfl) B.len PySem.boot_len (pa_cons (pv 0) pa_nil)) pa_nil)) (blkOk_by (own := [("k", 2)]) (N := ["one", "two", "k"]) (sc := defScope sLike) (by decide +kernel))
          (fun _ _ _ _ _ => pg_name (i := 2) scLike.nd rfl (.inl rfl))
          (fun _ _ _ _ _ => pts_one (pt_not (pt_val (pe_go cI hr (Nat.le_refl _) rfl (pa_cons (pe_ix (ixS (K := K) rfl) (pv 0) (pv 2) (fun _ _ => rfl)) (pa_cons (pe_ix (ixS (K := K) rfl) (pv 1) (pv 2) (fun _ _ => rfl)) pa_nil))))))
          (fun _ _ _ _ _ => pv 2)) (pe_lst pa_nil) (nomark _)))))) pss_nil)
    (pss_cons (ps_if (pt_val (pe_callB call_isiT (by rfl) B.isinstance (by decide +kernel) (pa_cons (pv 1) (pa_cons (pe_tup (pa_cons (pe_bltn (v := .ty "list") (by rfl) B.list (by decide +kernel) rfl) (pa_cons (pe_bltn (v := .ty "tuple") (by rfl) B.tuple (by decide +kernel) rfl) pa_nil))) pa_nil)))) (pss_one (ps_ret pe_bl)) pss_nil)
    (pss_one (ps_ret (pe_and (pe_cmpR op_eq (pe_callB call_isi (by rfl) B.isinstance (by decide +kernel) (pa_cons (pv 0) (pa_cons (pe_bltn (v := .ty "bool") (by rfl) B.bool (by decide +kernel) rfl) pa_nil)))
        (pe_callB call_isi (by rfl) B.isinstance (by decide +kernel) (pa_cons (pv 1) (pa_cons (pe_bltn (v := .ty "bool") (by rfl) B.bool (by decide +kernel) rfl) pa_nil))) (nomark _)) (pe_one (pe_cmpR (op_eqD hr.units) (pv 0) (pv 1) (nomark _))))))), ?_⟩
  have cls2 : Paired ClsV [V.ty "list", V.ty "tuple"] [Value.type "list", Value.type "tuple"] := .cons (.ty _) (.cons (.ty _) .nil)
  have kinds : (∃ (T : String) (bl : Bool), (∀ H', Same H H' → TyX K H' v1 (.type T) ∧ TyX K H' v2 (.type T)) ∧ kitB T "list" = some false ∧ kitB T "tuple" = some false ∧ kitB T "bool" = some bl ∧ SeqAt.shaped d = true ∧ PyData.eqv d d = true) ∨
      ∃ (T : String) (l : Bool) (a b : Addr) (xs ys : List V) (ds : List PyData) (m : Nat), (∀ H', Same H H' → TyX K H' v1 (.type T) ∧ TyX K H' v2 (.type T)) ∧ kitB T "list" = some l ∧ kitB T "tuple" = some (!l) ∧ v1 = .ref a ∧ v2 = .ref b ∧
        (∀ H', Same H H' → SqL K H' a xs ∨ SqT K H' a xs) ∧ (∀ H', Same H H' → SqL K H' b ys ∨ SqT K H' b ys) ∧ DpAll K H xs ds ∧ DpAll K H ys ds ∧ ds.length ≤ 1000 ∧ n = m + 1 ∧ ∀ d ∈ ds, Fine m d := by
    have both : ∀ H', Same H H' → TyX K H' v1 (.type (kindName d)) ∧ TyX K H' v2 (.type (kindName d)) := fun H' s' => ⟨ty_dp (dp_same s' h1), ty_dp (dp_same s' h2)⟩
    cases d with
    | none => exact .inl ⟨"NoneType", false, both, by decide +kernel, by decide +kernel, by decide +kernel, by decide +kernel, by simp [PyData.eqv]⟩
    | bool b => exact .inl ⟨"bool", true, both, by decide +kernel, by decide +kernel, by decide +kernel, shaped_of (by simp [PyData.canLay0]) (by simp [PyData.depth]), by simp [PyData.eqv]⟩
    | int i => exact .inl ⟨"int", false, both, by decide +kernel, by decide +kernel, by decide +kernel, shaped_of (by simp [PyData.canLay0]) (by simp [PyData.depth]), by simp [PyData.eqv]⟩
    | str x =>
      have fx : PyData.strOk x = true := by
        cases n <;> exact fine
      exact .inl ⟨"str", false, both, by decide +kernel, by decide +kernel, by decide +kernel, shaped_of (by simp [PyData.canLay0, fx]) (by simp [PyData.depth]), by simp [PyData.eqv]⟩
    | dict kvs => cases h1
    | list ds =>
      cases n with
      | zero => exact fine.elim
      | succ m =>
        cases h1 with
        | lst g1 a1 =>
          cases h2 with
          | lst g2 a2 => exact .inr ⟨"list", true, _, _, _, _, ds, m, both, by decide +kernel, by decide +kernel, rfl, rfl, fun H' s' => .inl (s'.seq g1), fun H' s' => .inl (s'.seq g2), a1, a2, fine.1, rfl, fine.2⟩
    | tuple ds =>
      cases n with
      | zero => exact fine.elim
      | succ m =>
        cases h1 with
        | tup g1 a1 =>
          cases h2 with
          | tup g2 a2 => exact .inr ⟨"tuple", false, _, _, _, _, ds, m, both, by decide +kernel, by decide +kernel, rfl, rfl, fun H' s' => .inr (same_tup s' g1), fun H' s' => .inr (same_tup s' g2), a1, a2, fine.1, rfl, fine.2⟩
  rcases kinds with ⟨T, bl, ty, k1, k2, kb, sh, ev⟩ | ⟨T, l, a, b, xs, ys, ds, m, ty, k1, k2, rfl, rfl, sa, sb, da, db, hl, rfl, fd'⟩
  · refine ⟨_, rfl, (by show 2 ≤ sizeLine; decide), fun tp htp => ?_⟩
    have s1 := same_new htp (.tup [V.ty "list", V.ty "tuple"])
    refine ⟨v1, tp, _, _, _, false, rfl, upd_same, cls2, (ty _ s1).1, kit_no k1 (kit_no k2 rfl), _, rfl, ?_⟩
    refine ⟨_, rfl, (by show 2 ≤ sizeLine; decide), fun tp2 htp2 => ?_⟩
    have s2 := s1.trans (same_new htp2 (.tup [V.ty "list", V.ty "tuple"]))
    refine ⟨v2, tp2, _, _, _, false, rfl, upd_same, cls2, (ty _ s2).2, kit_no k1 (kit_no k2 rfl), _, rfl, ?_⟩
    refine ⟨_, rfl, v1, _, _, _, bl, rfl, .ty _, (ty _ s2).1, kit_ty kb, _, rfl, v2, _, _, _, bl, rfl, .ty _, (ty _ s2).2, kit_ty kb, rfl, true, ?_, ?_⟩
    · rw [decide_eq_true rfl]
    · refine ⟨_, rfl, _, rfl, d, d, dp_same s2 h1, dp_same s2 h2, sh, sh, ?_⟩
      rw [ev]
      exact q _ s2
  · have lx := dpAll_len da
    have ly := dpAll_len db
    refine ⟨_, rfl, (by show 2 ≤ sizeLine; decide), fun tp htp => ?_⟩
    have s1 := same_new htp (.tup [V.ty "list", V.ty "tuple"])
    have anyT : PySem.W.kitAny K (.type T) [Value.type "list", Value.type "tuple"] = some true := by
      cases l with
      | true => exact kit_yes k1
      | false => exact kit_no k1 (kit_yes k2)
    refine ⟨.ref a, tp, _, _, _, true, rfl, upd_same, cls2, (ty _ s1).1, anyT, _, rfl, ?_⟩
    refine ⟨_, rfl, .ref a, _, _, _, l, rfl, .ty _, (ty _ s1).1, kit_ty k1, _, rfl, .ref b, _, _, _, l, rfl, .ty _, (ty _ s1).2, kit_ty k1, rfl, false, ?_, ?_⟩
    · rw [decide_eq_true rfl]
      rfl
    refine ⟨_, rfl, .ref a, _, _, _, !l, rfl, .ty _, (ty _ s1).1, kit_ty k2, _, rfl, .ref b, _, _, _, !l, rfl, .ty _, (ty _ s1).2, kit_ty k2, rfl, false, ?_, ?_⟩
    · rw [decide_eq_true rfl]
      rfl
    refine ⟨_, rfl, a, xs, rfl, sa _ s1, _, rfl, b, ys, rfl, sb _ s1, rfl, false, ?_, ?_⟩
    · rw [lx, ly, decide_eq_true rfl]
      rfl
    refine ⟨_, rfl, a, xs, rfl, sa _ s1, _, rfl, by omega, by omega, fun D hD => lc_range (lo := 0) (n := (xs.length : Int).toNat) (fun i H' => Same H H' ∧ H' D = some (.lst [])) ⟨s1.trans (same_new hD _), upd_same⟩ ?_ ?_⟩
    · rintro i H' hi ⟨s', hD'⟩
      have hi' : i < xs.length := by omega
      have gx : xs[i]? = some xs[i] := List.getElem?_eq_getElem hi'
      have gy : ys[i]? = some (ys[i]'(by omega)) := List.getElem?_eq_getElem (by omega)
      obtain ⟨d1, e1, p1⟩ := dpAll_get da gx
      obtain ⟨d2, e2, p2⟩ := dpAll_get db gy
      rw [e1] at e2
      cases e2
      have ea : atI xs (0 + (i : Int)) = some xs[i] := at_of (j := i) (by omega) gx
      have eb : atI ys (0 + (i : Int)) = some (ys[i]'(by omega)) := at_of (j := i) (by omega) gy
      rcases sa _ s' with za | za <;> rcases sb _ s' with zb | zb
      · refine ⟨rfl, _, rfl, _, rfl, .inl ⟨a, xs, _, _, rfl, rfl, za, ea, _, rfl, _, rfl, .inl ⟨b, ys, _, _, rfl, rfl, zb, eb, ?_⟩⟩⟩
        exact ⟨_, _, d1, m, rfl, rfl, dp_same s' p1, dp_same s' p2, fd' d1 (List.mem_of_getElem? e1), fun H2 s2 => ⟨true, rfl, s'.trans s2, s2 _ _ hD'⟩⟩
      · refine ⟨rfl, _, rfl, _, rfl, .inl ⟨a, xs, _, _, rfl, rfl, za, ea, _, rfl, _, rfl, .inr (.inl ⟨b, ys, _, _, rfl, rfl, zb, eb, ?_⟩)⟩⟩
        exact ⟨_, _, d1, m, rfl, rfl, dp_same s' p1, dp_same s' p2, fd' d1 (List.mem_of_getElem? e1), fun H2 s2 => ⟨true, rfl, s'.trans s2, s2 _ _ hD'⟩⟩
      · refine ⟨rfl, _, rfl, _, rfl, .inr (.inl ⟨a, xs, _, _, rfl, rfl, za, ea, _, rfl, _, rfl, .inl ⟨b, ys, _, _, rfl, rfl, zb, eb, ?_⟩⟩)⟩
        exact ⟨_, _, d1, m, rfl, rfl, dp_same s' p1, dp_same s' p2, fd' d1 (List.mem_of_getElem? e1), fun H2 s2 => ⟨true, rfl, s'.trans s2, s2 _ _ hD'⟩⟩
      · refine ⟨rfl, _, rfl, _, rfl, .inr (.inl ⟨a, xs, _, _, rfl, rfl, za, ea, _, rfl, _, rfl, .inr (.inl ⟨b, ys, _, _, rfl, rfl, zb, eb, ?_⟩)⟩)⟩
        exact ⟨_, _, d1, m, rfl, rfl, dp_same s' p1, dp_same s' p2, fd' d1 (List.mem_of_getElem? e1), fun H2 s2 => ⟨true, rfl, s'.trans s2, s2 _ _ hD'⟩⟩
    · rintro H' ⟨s', hD'⟩
      refine ⟨Nat.zero_le _, fun e he => ?_⟩
      have s5 := same_new he (.lst [])
      refine ⟨.list [], .list [], .lst (sql (s5 _ _ hD')) .nil, .lst (sql upd_same) .nil, by decide +kernel, by decide +kernel, ?_⟩
      have ev : PyData.eqv (.list []) (.list []) = true := by simp [PyData.eqv, PyData.eqvAll]
      rw [ev]
      exact q _ (s'.trans s5)
theorem like_all {f : Addr} {fd : FuncData} (F : Fun K "_law_like" "_law_like" sLike f fd) (B : Bi mg) (m : mg "_law_like" = some (.ref f)) (b : Binds K fd ["one", "two"] []) :
    ∀ n : Nat, FnOk P w K mg base CX0 n f fd ["one", "two"] (spLike K n)
  | 0 => by
    have no : ∀ vs H Q E, ¬ spLike K 0 vs H Q E := fun vs H Q E h => by
      obtain ⟨_, _, _, m, h, _⟩ := h
      cases h
    exact ⟨fun vs H Q E h => absurd h (no vs H Q E), fun A outer s H args us vs Q E _ _ _ _ h => absurd h (no vs H Q E)⟩
  | n + 1 => like_step F B ⟨f, fd, like_all F B m b n, m, F.kp, b⟩
end
end Lt

set_option Elab.async false
set_option linter.all false
set_option maxRecDepth 100000
set_option maxHeartbeats 4000000
namespace Lt
open PySem PySem.Spec PyProof.Rows L2
section
variable {P : Program} {w : World} {K : PySem.W.Frag} {mg : Str → Option Value} {base : Heap} {X : Cx}
theorem ints_get {ns : List Nat} {i : Nat} {x : V} (h : (ns.map natV)[i]? = some x) : ∃ k, ns[i]? = some k ∧ x = natV k := by
  rw [List.getElem?_map] at h
  cases e : ns[i]? with
  | none =>
    rw [e] at h
    cases h
  | some k =>
    rw [e] at h
    cases h
    exact ⟨k, rfl, rfl⟩
def spPut : Sp := fun vs H Q _ => ∃ (p : Addr) (bs : List Str) (k : Nat), vs = [.ref p, natV k] ∧ TpO H p (bs.map V.str) ∧ k < bs.length ∧ bs.length ≤ 1000 ∧
  ∀ (q : Addr) (H' : Hp), Same H H' → TpO H' q ((putM bs k).map V.str) → Q (.ref q) H'
theorem scPut : FnScope ["pile", "number"] ["pile", "number"] (defScope sPut) := ⟨rfl, rfl, rfl, by decide +kernel, rfl, by decide +kernel, by decide +kernel⟩
theorem ok_put {f : Addr} {fd : FuncData} (F : Fun K "put_back" "put_back" sPut f fd) : FnOk P w K mg base CX0 1 f fd ["pile", "number"] spPut := by
  refine F.ok scPut (fun vs H Q E h => ?_) (fun cdv A outer s H vs Q E hr h => ?_)
  · obtain ⟨p, bs, k, rfl, _⟩ := h
    rfl
  obtain ⟨p, bs, k, rfl, hp, hk, hl, q⟩ := h
  refine ⟨_, pss_one (ps_ret (pe_op op_catY (pe_op op_catY (pe_slice sl_tupY (pv 0) (po_some pe_int) (po_some (pe_op op_add (pv 1) pe_int))) (pe_slice sl_tupY (pv 0) po_none (po_some pe_int)))
    (pe_slice sl_tupY (pv 0) (po_some (pe_op op_add (pv 1) pe_int)) po_none))), ?_⟩
  have lm : (bs.map V.str).length = bs.length := List.length_map _
  refine ⟨_, rfl, _, rfl, _, rfl, _, _, rfl, rfl, _, rfl, p, _, rfl, hp, fun a H1 s1 ha => ?_⟩
  refine ⟨_, rfl, _, rfl, p, _, rfl, hp.same s1, fun b H2 s2 hb => ?_⟩
  have e1 : cutV (bs.map V.str) (some 1) (some ((k : Int) + 1)) = ((bs.drop 1).take k).map V.str := by
    rw [cut_mid (i := 1) (j := k + 1) (y := 1) (z := (k : Int) + 1) rfl (by omega) (by rw [lm]; omega) (by rw [lm]; omega), Nat.add_sub_cancel, List.map_take, List.map_drop]
  have e2 : cutV (bs.map V.str) none (some 1) = (bs.take 1).map V.str := by
    rw [cut_high (j := 1) (z := 1) rfl (by rw [lm]; omega), List.map_take]
  have e3 : cutV (bs.map V.str) (some ((k : Int) + 1)) none = (bs.drop (k + 1)).map V.str := by
    rw [cut_low (j := k + 1) (z := (k : Int) + 1) (by omega) (by rw [lm]; omega), List.map_drop]
  have big : ∀ n m : Nat, n ≤ 1000 → m ≤ 1000 → n + m ≤ sizeLine := fun n m h1 h2 => by rw [sizeLine_eq]; omega
  rw [e1] at ha
  rw [e2] at hb
  refine ⟨a, b, _, _, rfl, rfl, ha.same s2, hb, big _ _ (by rw [List.length_map, List.length_take, List.length_drop]; omega) (by rw [List.length_map, List.length_take]; omega), fun c H3 s3 hc => ?_⟩
  refine ⟨_, rfl, _, rfl, _, _, rfl, rfl, _, rfl, p, _, rfl, hp.same (s1.trans (s2.trans s3)), fun d H4 s4 hd => ?_⟩
  rw [e3] at hd
  refine ⟨c, d, _, _, rfl, rfl, hc.same s4, hd, big _ _ (by rw [List.length_append, List.length_map, List.length_map, List.length_take, List.length_take, List.length_drop]; omega) (by rw [List.length_map, List.length_drop]; omega), fun e H5 s5 he => ?_⟩
  refine q e H5 (s1.trans (s2.trans (s3.trans (s4.trans s5)))) ?_
  unfold putM
  rw [List.map_append, List.map_append]
  exact he
def spLiftable (K : PySem.W.Frag) : Sp := fun vs H Q _ => ∃ (p r : Addr) (bs : List Str) (ns : List Nat), vs = [.ref p, .ref r] ∧ SqT K H p (bs.map V.str) ∧ SqL K H r (ns.map natV) ∧ (∀ k ∈ ns, k < bs.length) ∧ ns.length ≤ 1000 ∧
  ∀ (l : Addr) (H' : Hp), Same H H' → H l = none → H' l = some (.lst (ns.map natV)) → Q (.ref l) H'
theorem scLiftable : FnScope ["pile", "numbers", "number"] ["pile", "numbers"] (defScope sLiftable) := ⟨rfl, rfl, rfl, by decide +kernel, rfl, by decide +kernel, by decide +kernel⟩
theorem ok_liftable {f : Addr} {fd : FuncData} (F : Fun K "liftable" "liftable" sLiftable f fd) (B : Bi mg) : FnOk P w K mg base CX0 1 f fd ["pile", "numbers"] (spLiftable K) := by
  refine F.ok scLiftable (fun vs H Q E h => ?_) (fun cdv A outer s H vs Q E hr h => ?_)
  · obtain ⟨p, r, bs, ns, rfl, _⟩ := h
    rfl
  obtain ⟨p, r, bs, ns, rfl, hp, hrr, hk, hl, q⟩ := h
  refine ⟨_, pss_one (ps_ret (pe_lc (own := [("number", 2)]) (g := gName 2) (tt := tTest (tChain (rI0 fun i j => .bl (decide (i ≤ j))) (rI0 fun i j => .bl (decide (i < j))) (tC (.int 0)) (tVar 2) (tCB (Evl.rLenS K) (tCons (tVar 0) tNil))))
      (by rfl) scLiftable.nd (pi_list (pv 1)) (blkOk_by (own := [("number", 2)]) (N := ["pile", "numbers", "number"]) (sc := defScope sLiftable) (by decide +kernel)) (fun _ _ _ _ _ => pg_name (i := 2) scLiftable.nd rfl (.inl rfl))
      (fun _ _ _ _ _ => pts_one (pt_chain op_le op_lt pe_int (pv 2) (pe_callB (cLen (K := K) rfl) (by rfl) B.len PySem.boot_len (pa_cons (pv 0) pa_nil)))) (fun _ _ _ _ _ => pv 2))), ?_⟩
  refine ⟨_, rfl, r, rfl, ⟨_, hrr⟩, fun D hD => lc_list (K := K) (a := r) (xs := ns.map natV) (fun j H' => Same H H' ∧ H' D = some (.lst ((ns.take j).map natV)))
    ⟨same_new hD _, upd_same⟩ (fun j H' _ h' => h'.1.seq hrr) ?_ ?_⟩
  · rintro j x H1 hx ⟨s1, hD1⟩
    obtain ⟨k, hk1, rfl⟩ := ints_get hx
    have lt := hk k (List.mem_of_getElem? hk1)
    have y1 : decide ((0 : Int) ≤ (k : Int)) = true := decide_eq_true (by omega)
    have y2 : decide ((k : Int) < (((bs.map V.str).length : Nat) : Int)) = true := decide_eq_true (by rw [List.length_map]; omega)
    refine ⟨rfl, _, rfl, _, _, rfl, rfl, true, congrArg V.bl y1, ?_⟩
    refine ⟨_, rfl, p, _, rfl, .inr (same_tup s1 hp), _, _, rfl, rfl, true, congrArg V.bl y2, ?_⟩
    refine ⟨_, rfl, _, hD1, ?_, same_put s1 hD, ?_⟩
    · rw [List.length_map, List.length_take]
      exact small1000 (by omega)
    · rw [upd_same, List.take_add_one, hk1, List.map_append]
      rfl
  · rintro H1 ⟨s1, hD1⟩
    rw [List.length_map, List.take_length] at hD1
    exact q D H1 s1 hD hD1
def spUndone (K : PySem.W.Frag) : Sp := fun vs H Q _ => ∃ (p r : Addr) (bs : List Str) (ns : List Nat), vs = [.ref p, .ref r] ∧ TpO H p (bs.map V.str) ∧ SqL K H r (ns.map natV) ∧ (∀ k ∈ ns, k < bs.length) ∧ bs.length ≤ 1000 ∧ ns.length ≤ 900 ∧
  ∀ (t o rd : Addr) (H' : Hp), Same H H' → H' t = some (.tup [.ref o, .ref rd]) → TpO H' o ((unR bs ns.reverse).map V.str) → H' rd = some (.lst ((hdR bs ns.reverse).reverse.map V.str)) → Q (.ref t) H'
abbrev nUndone : List Str := ["pile", "numbers", "readings", "order", "number"]
theorem scUndone : FnScope nUndone ["pile", "numbers"] (defScope sUndone) := ⟨rfl, rfl, rfl, by decide +kernel, rfl, by decide +kernel, by decide +kernel⟩
theorem ok_undone {f : Addr} {fd : FuncData} (F : Fun K "undone" "undone" sUndone f fd) (B : Bi mg) (cP : Has P w K mg base 1 "put_back" ["pile", "number"] spPut) (cL : Has P w K mg base 1 "liftable" ["pile", "numbers"] (spLiftable K)) :
    FnOk P w K mg base CX0 2 f fd ["pile", "numbers"] (spUndone K) := by
  refine F.ok scUndone (fun vs H Q E h => ?_) (fun cdv A outer s H vs Q E hr h => ?_)
  · obtain ⟨p, r, bs, ns, rfl, _⟩ := h
    rfl
  obtain ⟨p, r, bs, ns, rfl, hp, hrr, hk, hl, hl2, q⟩ := h
  refine ⟨_, pss_cons (ps_set (i := 2) scUndone.nd rfl (.inl rfl) (pe_lst pa_nil))
    (pss_cons (ps_set (i := 3) scUndone.nd rfl (.inl rfl) (pv 0))
    (pss_cons (ps_for PassesOwn.never rfl (RT.pi_revA (by rfl) B.reversed (pe_go cL hr (by decide) rfl (pa_cons (pv 0) (pa_cons (pv 1) pa_nil)))) (pg_name (i := 4) scUndone.nd rfl (.inl rfl))
      (pss_cons (ps_expr (pe_bm PySem.F.plainAttrs_list PySem.F.slot_list_append PySem.F.type_list_append mt_append (pv 2) (pa_cons (pe_ix ix_tup (pv 3) pe_int (fun _ _ => rfl)) pa_nil)))
      (pss_one (ps_set (i := 3) scUndone.nd rfl (.inl rfl) (pe_go cP hr (by decide) rfl (pa_cons (pv 3) (pa_cons (pv 4) pa_nil)))))))
    (pss_one (ps_ret (pe_tup (pa_cons (pv 3) (pa_cons (pe_revL (pv 2)) pa_nil))))))), ?_⟩
  refine ⟨Nat.zero_le _, fun L hL => ⟨_, rfl, ?_⟩⟩
  have s1 := same_new hL (.lst [])
  have hL1 : upd H L (.lst []) L = some (.lst []) := upd_same
  generalize upd H L (.lst []) = H1 at s1 hL1 ⊢
  refine ⟨_, rfl, _, rfl, p, r, bs, ns, rfl, (hp.same s1).sqt, s1.seq hrr, hk, by omega, fun l H2 s2 nl hl2' => ?_⟩
  have sm2 := s1.trans s2
  have nLl : L ≠ l := ne_of_none hL1 nl
  have ln : (ns.map natV).length = ns.length := List.length_map _
  refine ⟨l, _, rfl, .inl ⟨sql hl2', RT.for_Itv (fun i σ H' => ∃ (o : Addr) (y4 : Option V), σ = [some (.ref p), some (.ref r), some (.ref L), some (.ref o), y4] ∧ Same H H' ∧ H' l = some (.lst (ns.map natV)) ∧
      TpO H' o ((unR bs (ns.reverse.take i)).map V.str) ∧ H' L = some (.lst ((hdR bs (ns.reverse.take i)).map V.str)))
    ⟨p, none, rfl, sm2, hl2', hp.same sm2, s2 _ _ hL1⟩ (fun i σ H' ⟨_, _, _, _, h, _⟩ => sql h) ?_ ?_⟩⟩
  · rintro i x σ H3 hi hx ⟨o, y4, rfl, sm3, hl3, ho3, hL3⟩
    rw [ln] at hi hx
    obtain ⟨k, hk1, rfl⟩ := ints_get hx
    have ltk := hk k (List.mem_of_getElem? hk1)
    have hk2 : ns.reverse[i]? = some k := by rw [List.getElem?_reverse hi]; exact hk1
    have et : ns.reverse.take (i + 1) = ns.reverse.take i ++ [k] := by rw [List.take_add_one, hk2]; rfl
    rw [et, unR_snoc, hdR_snoc]
    have lu : (unR bs (ns.reverse.take i)).length = bs.length := (unR_perm _ _).length_eq
    have lh := hdR_len bs (ns.reverse.take i) (by omega)
    rw [List.length_take, List.length_reverse] at lh
    generalize unR bs (ns.reverse.take i) = cur at ho3 lu ⊢
    generalize hdR bs (ns.reverse.take i) = hd at hL3 lh ⊢
    cases cur with
    | nil =>
      rw [List.length_nil] at lu
      omega
    | cons t r' =>
      refine ⟨_, rfl, .inl ⟨rfl, _, sql hL3⟩, _, rfl, o, _, _, .str t, rfl, rfl, ho3.sqt, at_of (j := 0) rfl rfl, L, _, _, rfl, rfl, hL3, by rw [List.length_map]; exact small1000 (by omega), ?_⟩
      have sm4 : Same H (upd H3 L (.lst (hd.map V.str ++ [V.str t]))) := same_put sm3 hL
      have ho4 : TpO (upd H3 L (.lst (hd.map V.str ++ [V.str t]))) o ((t :: r').map V.str) := ho3.move fun u hu => by
        rw [upd_ne (ho3.ne hL3 fun o z => nomatch z)]
        exact hu
      refine ⟨_, rfl, _, rfl, o, t :: r', k, rfl, ho4, by omega, by omega, fun c H5 s5 hc => ?_⟩
      refine ⟨c, some (natV k), rfl, sm4.trans s5, s5 _ _ (by rw [upd_ne nLl.symm]; exact hl3), hc, s5 _ _ ?_⟩
      rw [upd_same, List.map_append]
      rfl
  · rintro σ H3 ⟨o, y4, rfl, sm3, hl3, ho3, hL3⟩
    rw [ln, List.take_of_length_le (by rw [List.length_reverse]; exact Nat.le_refl _)] at ho3 hL3
    refine ⟨_, rfl, _, rfl, L, _, rfl, sql hL3, fun rd hrd => ⟨(by show 2 ≤ sizeLine; decide), fun t ht => ?_⟩⟩
    have s4 := same_new hrd (.lst ((hdR bs ns.reverse).map V.str).reverse)
    have s5 := same_new ht (.tup [.ref o, .ref rd])
    refine q t o rd _ (sm3.trans (s4.trans s5)) upd_same (ho3.same (s4.trans s5)) (s5 _ _ ?_)
    rw [upd_same, List.map_reverse]
end
end Lt

set_option Elab.async false
set_option linter.all false
set_option maxRecDepth 100000
set_option maxHeartbeats 4000000
namespace Lt
open PySem PySem.Spec PyProof.Rows L2
/-! ### rows of tuples of texts -/
def TupL (H : Hp) (ts : List Addr) (rws : List (List Str)) : Prop := ts.length = rws.length ∧ ∀ (i : Nat) (t : Addr) (r : List Str), ts[i]? = some t → rws[i]? = some r → TpO H t (r.map V.str)
theorem TupL.nil (H : Hp) : TupL H [] [] := ⟨rfl, fun i t q h => by simp at h⟩
theorem TupL.move {H H' : Hp} {ts : List Addr} {rws : List (List Str)} (h : TupL H ts rws) (k : Same H H') : TupL H' ts rws := ⟨h.1, fun i t q a b => (h.2 i t q a b).same k⟩
theorem TupL.put {H : Hp} {D : Addr} {xs : List V} {o : HO} {ts : List Addr} {rws : List (List Str)} (h : TupL H ts rws) (hD : H D = some (.lst xs)) : TupL (upd H D o) ts rws := by
  refine ⟨h.1, fun i t r a b => ?_⟩
  have z := h.2 i t r a b
  exact z.move fun u hu => by
    rw [upd_ne (z.ne hD fun o z => nomatch z)]
    exact hu
theorem TupL.app {H : Hp} {ts us : List Addr} {rws sws : List (List Str)} (a : TupL H ts rws) (b : TupL H us sws) : TupL H (ts ++ us) (rws ++ sws) := by
  refine ⟨by rw [List.length_append, List.length_append, a.1, b.1], fun k t z h1 h2 => ?_⟩
  by_cases hk : k < ts.length
  · rw [List.getElem?_append_left hk] at h1
    rw [List.getElem?_append_left (by rw [← a.1]; exact hk)] at h2
    exact a.2 k t z h1 h2
  · rw [List.getElem?_append_right (by omega)] at h1
    rw [List.getElem?_append_right (by rw [← a.1]; omega), ← a.1] at h2
    exact b.2 _ t z h1 h2
theorem TupL.one {H : Hp} {t : Addr} {r : List Str} (h : TpO H t (r.map V.str)) : TupL H [t] [r] := by
  refine ⟨rfl, fun i u z a b => ?_⟩
  cases i with
  | zero =>
    cases a
    cases b
    exact h
  | succ i => simp at a
theorem TupL.dp {K : PySem.W.Frag} {H : Hp} : ∀ {ts : List Addr} {rws : List (List Str)}, TupL H ts rws → DpAll K H (ts.map V.ref) (rws.map fun r => .tuple (r.map PyData.str))
  | [], [], _ => .nil
  | [], r :: rs, h => nomatch h.1
  | t :: ts, [], h => nomatch h.1
  | t :: ts, r :: rs, h => .cons (.tup (h.2 0 t r rfl rfl).sqt (dpAll_strs r)) (TupL.dp ⟨Nat.succ.inj h.1, fun i t q a b => h.2 (i + 1) t q a b⟩)
theorem TupL.get {H : Hp} {ts : List Addr} {rws : List (List Str)} (h : TupL H ts rws) {i : Nat} {x : V} (e : (ts.map V.ref)[i]? = some x) : ∃ (t : Addr) (r : List Str), x = .ref t ∧ ts[i]? = some t ∧ rws[i]? = some r ∧ TpO H t (r.map V.str) := by
  rw [List.getElem?_map] at e
  cases e1 : ts[i]? with
  | none =>
    rw [e1] at e
    cases e
  | some t =>
    rw [e1] at e
    cases e
    have hi := (List.getElem?_eq_some_iff.mp e1).1
    have hi2 : i < rws.length := by rw [← h.1]; exact hi
    exact ⟨t, rws[i], rfl, rfl, List.getElem?_eq_getElem hi2, h.2 i t _ e1 (List.getElem?_eq_getElem hi2)⟩
section
variable {P : Program} {w : World} {K : PySem.W.Frag} {mg : Str → Option Value} {base : Heap} {X : Cx}
def spOrdersOf (K : PySem.W.Frag) : Sp := fun vs H Q _ => ∃ (p : Addr) (bs : List Str), vs = [.ref p] ∧ SqT K H p (bs.map V.str) ∧ bs.length ≤ 5 ∧
  ∀ (l : Addr) (H' : Hp) (ts : List Addr), Same H H' → H l = none → H' l = some (.lst (ts.map V.ref)) → TupL H' ts (ordP bs) → Q (.ref l) H'
abbrev nOrdersOf : List Str := ["books", "orders", "book", "order", "at"]
theorem scOrdersOf : FnScope nOrdersOf ["books"] (defScope sOrdersOf) := ⟨rfl, rfl, rfl, by decide +kernel, rfl, by decide +kernel, by decide +kernel⟩
theorem ok_ordersOf {f : Addr} {fd : FuncData} (F : Fun K "orders_of" "orders_of" sOrdersOf f fd) (B : Bi mg) : FnOk P w K mg base CX0 1 f fd ["books"] (spOrdersOf K) := by
  refine F.ok scOrdersOf (fun vs H Q E h => ?_) (fun cdv A outer s H vs Q E hr h => ?_)
  · obtain ⟨p, bs, rfl, _⟩ := h
    rfl
  obtain ⟨p, bs, rfl, hp, h5, q⟩ := h
  refine ⟨_, pss_cons (ps_set (i := 1) scOrdersOf.nd rfl (.inl rfl) (pe_lst (pa_cons (pe_tupZ pa_nil) pa_nil)))
    (pss_cons (ps_for PassesOwn.never rfl (pi_tup (pv 0)) (pg_name (i := 2) scOrdersOf.nd rfl (.inr rfl))
      (pss_one (ps_setLc2 (i := 1) (own := [("order", 3), ("at", 4)]) (vs1 := [4]) (g := gName 3) (tt := tYes) (g1 := gName 4) (tt1 := tYes)
        (wi1 := iRng1 (tCons (tOp (rI0 fun i j => .int (i + j)) (tCB (Evl.rLenS K) (tCons (tVar 3) tNil)) (tC (.int 1))) tNil)) (by rfl) scOrdersOf.nd rfl rfl (sw_true rfl rfl rfl (by decide +kernel)) (pi_list (pv 1))
        (blkOk_by (own := [("order", 3), ("at", 4)]) (N := nOrdersOf) (sc := defScope sOrdersOf) (by decide +kernel)) (by decide)
        (fun _ _ _ _ _ => pg_name (i := 3) scOrdersOf.nd rfl (.inl rfl)) (fun _ _ _ _ _ => pts_nil)
        (fun _ _ _ _ _ => pi_range1 (by rfl) B.range (pa_cons (pe_op op_add (pe_callB (cLen (K := K) rfl) (by rfl) B.len PySem.boot_len (pa_cons (pv 3) pa_nil)) pe_int) pa_nil))
        (fun _ _ _ _ _ => pg_name (i := 4) scOrdersOf.nd rfl (.inl rfl)) (fun _ _ _ _ _ => pts_nil)
        (fun _ _ _ _ _ => pe_op op_catY (pe_op op_catY (pe_slice sl_tupY (pv 3) po_none (po_some (pv 4))) (pe_tupZ (pa_cons (pv 2) pa_nil))) (pe_slice sl_tupY (pv 3) (po_some (pv 4)) po_none)))))
    (pss_one (ps_ret (pv 1)))), ?_⟩
  have lm : (bs.map V.str).length = bs.length := List.length_map _
  have few : ∀ j, (ordP (bs.take j)).length ≤ 120 := fun j => by
    rw [ordP_len]
    exact fac_le (by rw [List.length_take]; omega)
  refine ⟨Nat.zero_le _, fun Z u hZ hu => ⟨(by show 1 ≤ sizeLine; decide), fun L hL => ?_⟩⟩
  have s1 := same_new hZ u
  have s2 := same_new hL (.lst [V.ref Z])
  have hZ2 : TpO (upd (upd H Z u) L (.lst [V.ref Z])) Z ([].map V.str) := (TpO.new hu).same s2
  have hL2 : upd (upd H Z u) L (.lst [V.ref Z]) L = some (.lst ([Z].map V.ref)) := upd_same
  have sm2 := s1.trans s2
  have nL0 : H L = none := s1.free hL
  generalize upd (upd H Z u) L (.lst [V.ref Z]) = H2 at hZ2 hL2 sm2 ⊢
  refine ⟨_, rfl, p, rfl, ⟨_, same_tup sm2 hp⟩, for_tup (K := K) (a := p) (xs := bs.map V.str) (fun i σ H' => ∃ (L : Addr) (y2 : Option V) (ts : List Addr), σ = [some (.ref p), some (.ref L), y2, none, none] ∧ Same H H' ∧ H L = none ∧ H' L = some (.lst (ts.map V.ref)) ∧ TupL H' ts (ordP (bs.take i)))
    ⟨L, none, [Z], rfl, sm2, nL0, hL2, TupL.one hZ2⟩ (fun i σ H' _ ⟨_, _, _, _, s', _⟩ => same_tup s' hp) ?_ ?_⟩
  · rintro i x σ H3 hx ⟨L, y2, ts, rfl, s3, nL, hL3, tl⟩
    obtain ⟨b, hb, rfl⟩ := strs_get hx
    have hi : i < bs.length := (List.getElem?_eq_some_iff.mp hb).1
    have f1 := few i
    have f2 := few (i + 1)
    have ei : bs.take (i + 1) = bs.take i ++ [b] := by rw [List.take_add_one, hb]; rfl
    rw [ei, ordP_snoc] at f2 ⊢
    have lo : ∀ o ∈ ordP (bs.take i), o.length ≤ 5 := fun o ho => by
      rw [((ordP_mem _ _).mp ho).length_eq, List.length_take]
      omega
    generalize ordP (bs.take i) = os at tl f1 f2 lo ⊢
    refine ⟨_, rfl, L, rfl, ⟨_, sql hL3⟩, fun D hD => ?_⟩
    refine in_it (walk_list (K := K) (a := L) (xs := ts.map V.ref)) (fun j H' => ∃ us : List Addr, Same H3 H' ∧ H' D = some (.lst (us.map V.ref)) ∧ TupL H' us ((os.take j).flatMap (insAll b)))
      ⟨[], same_new hD _, upd_same, by rw [List.take_zero]; exact TupL.nil _⟩ (fun j H' _ ⟨_, sm, _⟩ => sql (sm _ _ hL3)) ?_ ?_
    · rintro j x H4 H5 hj ⟨us, s4, hD4, ul⟩ ⟨rfl, ex⟩
      obtain ⟨t, o, rfl, et, eo, ht⟩ := tl.get ex
      have ho := lo o (List.mem_of_getElem? eo)
      have lmo : (o.map V.str).length = o.length := List.length_map _
      have jn : ((os.take j).flatMap (insAll b)).length + (insAll b o).length ≤ 120 := by
        have e : os.take j ++ [o] ++ os.drop (j + 1) = os := by
          have z : os.take (j + 1) = os.take j ++ [o] := by rw [List.take_add_one, eo]; rfl
          rw [← z, List.take_append_drop]
        have e2 : ((os.take j ++ [o] ++ os.drop (j + 1)).flatMap (insAll b)).length = ((os.take j).flatMap (insAll b)).length + (insAll b o).length + ((os.drop (j + 1)).flatMap (insAll b)).length := by
          rw [List.flatMap_append, List.flatMap_append, List.flatMap_singleton, List.length_append, List.length_append]
        rw [e] at e2
        omega
      refine ⟨rfl, _, rfl, t, _, rfl, .inr (ht.same s4).sqt, _, _, rfl, rfl, ((o.length + 1 : Nat) : Int), by rw [lmo]; rfl, by omega, by omega, ?_⟩
      refine in_it (walk_range (lo := 0) (n := ((o.length + 1 : Nat) : Int).toNat)) (fun k H' => ∃ us : List Addr, Same H3 H' ∧ H' D = some (.lst (us.map V.ref)) ∧ TupL H' us ((os.take j).flatMap (insAll b) ++ (insAll b o).take k))
        ⟨us, s4, hD4, by rw [List.take_zero, List.append_nil]; exact ul⟩ (fun k H' _ _ => trivial) ?_ ?_
      · rintro k x H5 H6 hk ⟨us, s5, hD5, ul5⟩ ⟨rfl, rfl⟩
        have hk' : k ≤ o.length := by omega
        have ht5 := ht.same s5
        have ek : (0 : Int) + (k : Int) = (k : Int) := Int.zero_add _
        have e1 : cutV (o.map V.str) none (some (0 + (k : Int))) = (o.take k).map V.str := by rw [cut_high (j := k) (z := 0 + (k : Int)) ek (by rw [lmo]; exact hk'), List.map_take]
        have e2 : cutV (o.map V.str) (some (0 + (k : Int))) none = (o.drop k).map V.str := by rw [cut_low (j := k) (z := 0 + (k : Int)) ek (by rw [lmo]; exact hk'), List.map_drop]
        refine ⟨rfl, _, rfl, _, rfl, _, rfl, t, _, rfl, ht5, fun a Ha sa ha => ?_⟩
        rw [e1] at ha
        refine ⟨_, rfl, (by show 1 ≤ sizeLine; decide), fun c v hc hv => ?_⟩
        have sc := same_new hc v
        refine ⟨a, c, _, _, rfl, rfl, ha.same sc, TpO.new hv, by rw [List.length_map, List.length_take, sizeLine_eq]; show _ + 1 ≤ _; omega, fun d Hd sd hd => ?_⟩
        refine ⟨_, rfl, _, rfl, _, rfl, t, _, rfl, ht5.same (sa.trans (sc.trans sd)), fun e He se he => ?_⟩
        rw [e2] at he
        refine ⟨d, e, _, _, rfl, rfl, hd.same se, he, by rw [List.length_append, List.length_map, List.length_map, List.length_take, List.length_drop, sizeLine_eq]; show _ + 1 + _ ≤ _; omega, fun g Hg sg hg => ?_⟩
        have s6 := sa.trans (sc.trans (sd.trans (se.trans sg)))
        have hD6 := s6 _ _ hD5
        refine ⟨_, hD6, ?_, us ++ [g], same_put (s5.trans s6) hD, by rw [upd_same, List.map_append]; rfl, ?_⟩
        · rw [List.length_map, ul5.1, List.length_append, List.length_take]
          exact small1000 (by omega)
        · have en : (insAll b o)[k]? = some (o.take k ++ [b] ++ o.drop k) := by
            unfold insAll
            rw [List.getElem?_map, List.getElem?_range (by omega)]
            rfl
          rw [List.take_add_one, en, ← List.append_assoc]
          refine ((ul5.move s6).app (TupL.one (t := g) ?_)).put hD6
          rw [List.map_append, List.map_append]
          exact hg
      · rintro H5 ⟨us, s5, hD5, ul5⟩
        rw [List.take_of_length_le (l := insAll b o) (by unfold insAll; rw [List.length_map, List.length_range]; omega)] at ul5
        refine ⟨us, s5, hD5, ?_⟩
        rw [List.take_add_one, eo, List.flatMap_append]
        show TupL H5 us (_ ++ [o].flatMap (insAll b))
        rw [List.flatMap_singleton]
        exact ul5
    · rintro H4 ⟨us, s4, hD4, ul⟩
      rw [List.length_map, tl.1, List.take_length] at ul
      exact ⟨D, some (.str b), us, rfl, s3.trans s4, s3.free hD, hD4, ul⟩
  · rintro σ H3 ⟨L, y2, ts, rfl, s3, nL, hL3, tl⟩
    rw [lm, List.take_length] at tl
    exact ⟨_, rfl, q L H3 ts s3 nL hL3 tl⟩
end
end Lt

set_option Elab.async false
set_option linter.all false
set_option maxRecDepth 100000
set_option maxHeartbeats 4000000
namespace Lt
open PySem PySem.Spec PyProof.Rows L2
theorem eqvAll_nats : ∀ xs ys : List Nat, PyData.eqvAll (xs.map fun k => PyData.int (k : Nat)) (ys.map fun k => PyData.int (k : Nat)) = decide (xs = ys)
  | [], [] => rfl
  | [], y :: r => rfl
  | x :: r, [] => rfl
  | x :: r, y :: t => by
    show (((x : Int) == (y : Int)) && PyData.eqvAll (r.map fun k => PyData.int (k : Nat)) (t.map fun k => PyData.int (k : Nat))) = _
    rw [eqvAll_nats r t]
    by_cases c : x = y
    · subst c
      rw [beq_self_eq_true, Bool.true_and, decide_eq_decide]
      exact ⟨fun h => by rw [h], fun h => (List.cons.inj h).2⟩
    · rw [beq_eq_false_iff_ne.mpr (show (x : Int) ≠ (y : Int) from fun z => c (Int.ofNat.inj z)), Bool.false_and]
      exact (decide_eq_false fun h => c (List.cons.inj h).1).symm
theorem eqvL_nats (xs ys : List Nat) : PyData.eqv (.list (xs.map fun k => PyData.int (k : Nat))) (.list (ys.map fun k => PyData.int (k : Nat))) = decide (xs = ys) := by
  rw [← eqvAll_nats]
  simp only [PyData.eqv]
theorem dpAll_nats {K : PySem.W.Frag} {H : Hp} : ∀ ns : List Nat, DpAll K H (ns.map natV) (ns.map fun k => PyData.int (k : Nat))
  | [] => .nil
  | x :: r => .cons (.int _) (dpAll_nats r)
theorem fineN {ns : List Nat} (hl : ns.length ≤ 1000) (n : Nat) : Fine (n + 1) (.list (ns.map fun k => PyData.int (k : Nat))) :=
  ⟨by rw [List.length_map]; exact hl, fun d hd => by
    obtain ⟨k, _, rfl⟩ := List.mem_map.mp hd
    cases n <;> trivial⟩
/-! ### what a tuple of texts holds -/
theorem tpo_inj {H : Hp} {t : Addr} {xs ys : List V} (a : TpO H t xs) (b : TpO H t ys) : xs = ys := by
  obtain ⟨u, h1, o, rfl, _⟩ := a
  obtain ⟨v, h2, o2, rfl, _⟩ := b
  rw [h1] at h2
  cases h2
  rfl
theorem strs_inj {a b : List Str} (h : a.map V.str = b.map V.str) : a = b := by
  induction a generalizing b with
  | nil =>
    cases b with
    | nil => rfl
    | cons _ _ => cases h
  | cons x r ih =>
    cases b with
    | nil => cases h
    | cons y t =>
      obtain ⟨h1, h2⟩ := List.cons.inj h
      rw [V.str.inj h1, ih h2]
open Classical in
noncomputable def cont (H : Hp) (t : Addr) : List Str := if h : ∃ r : List Str, TpO H t (r.map V.str) then Classical.choose h else []
theorem cont_of {H : Hp} {t : Addr} {r : List Str} (h : TpO H t (r.map V.str)) : cont H t = r := by
  unfold cont
  have e : ∃ r : List Str, TpO H t (r.map V.str) := ⟨r, h⟩
  rw [dif_pos e]
  exact strs_inj (tpo_inj (Classical.choose_spec e) h)
theorem TupL.cont {H : Hp} : ∀ {ts : List Addr} {rws : List (List Str)}, TupL H ts rws → ts.map (Lt.cont H) = rws
  | [], [], _ => rfl
  | [], r :: rs, h => nomatch h.1
  | t :: ts, [], h => nomatch h.1
  | t :: ts, r :: rs, h => by
    rw [List.map_cons, cont_of (h.2 0 t r rfl rfl), TupL.cont ⟨Nat.succ.inj h.1, fun i t q a b => h.2 (i + 1) t q a b⟩]
theorem TupL.at {H : Hp} {ts : List Addr} {rws : List (List Str)} (h : TupL H ts rws) {t : Addr} (ht : t ∈ ts) : Lt.cont H t ∈ rws ∧ TpO H t ((Lt.cont H t).map V.str) := by
  obtain ⟨i, hi⟩ := List.getElem?_of_mem ht
  have l := (List.getElem?_eq_some_iff.mp hi).1
  have hi2 : i < rws.length := by rw [← h.1]; exact l
  have z := h.2 i t _ hi (List.getElem?_eq_getElem hi2)
  rw [cont_of z]
  exact ⟨List.getElem_mem hi2, z⟩
theorem tupL_of {H : Hp} : ∀ (us : List Addr), (∀ t ∈ us, TpO H t ((Lt.cont H t).map V.str)) → TupL H us (us.map (Lt.cont H))
  | [], _ => TupL.nil H
  | t :: us, h => (TupL.one (h t (List.mem_cons_self ..))).app (tupL_of us fun u hu => h u (List.mem_cons_of_mem _ hu))
theorem kV_tk (r : List Str) : (tk r).map kV = r.map V.str := by
  rw [List.map_map]
  rfl
theorem starts_len {bs rs : List Str} {ns : List Nat} (h : bs.length ≤ 5) (hm : ∀ b ∈ rs, b ∈ bs) : (starts bs rs ns).length ≤ 120 := by
  unfold starts
  rw [List.length_map, ordP_len]
  exact fac_le (by rw [List.length_drop, (behindM_perm rs hm).length_eq]; omega)
section
variable {P : Program} {w : World} {K : PySem.W.Frag} {mg : Str → Option Value} {base : Heap} {X : Cx}
def spPilesFor (K : PySem.W.Frag) : Sp := fun vs H Q _ => ∃ (p r n : Addr) (bs rs : List Str) (ns : List Nat), vs = [.ref p, .ref r, .ref n] ∧ TpO H p (bs.map V.str) ∧ H r = some (.lst (rs.map V.str)) ∧ H n = some (.lst (ns.map natV)) ∧ bs.Nodup ∧ 0 < bs.length ∧ bs.length ≤ 5 ∧ rs.length ≤ 60 ∧
  (∀ b ∈ rs, b ∈ bs) ∧ (∀ k ∈ ns, k < bs.length) ∧ ns.length ≤ 900 ∧
  ∀ (l : Addr) (H' : Hp) (us : List Addr) (cs : List (List Str)), Same H H' → H l = none → H' l = some (.lst (us.map V.ref)) → TupL H' us cs → cs.Perm ((starts bs rs ns).filter (fits rs ns)) → (cs.Pairwise fun x y => lexK (tk y) (tk x) = false) → Q (.ref l) H'
abbrev nPilesFor : List Str := ["pile", "readings", "numbers", "last", "many", "starts", "below", "start"]
theorem scPilesFor : FnScope nPilesFor ["pile", "readings", "numbers"] (defScope sPilesFor) := ⟨rfl, rfl, rfl, by decide +kernel, rfl, by decide +kernel, by decide +kernel⟩
theorem ok_pilesFor {f : Addr} {fd : FuncData} (F : Fun K "piles_for" "piles_for" sPilesFor f fd) (B : Bi mg) (cBe : Has P w K mg base 2 "behind" ["pile", "readings"] spBehind) (cLi : Has P w K mg base 2 "lifted" ["pile", "readings"] spLifted)
    (cUn : Has P w K mg base 2 "undone" ["pile", "numbers"] (spUndone K)) (cOr : Has P w K mg base 1 "orders_of" ["books"] (spOrdersOf K)) : FnOk P w K mg base CX0 3 f fd ["pile", "readings", "numbers"] (spPilesFor K) := by
  refine F.ok scPilesFor (fun vs H Q E h => ?_) (fun cdv A outer s H vs Q E hr h => ?_)
  · obtain ⟨p, r, n, bs, rs, ns, rfl, _⟩ := h
    rfl
  obtain ⟨p, r, n, bs, rs, ns, rfl, hp, hrr, hn, nd, b0, b5, r60, mrs, kns, l900, q⟩ := h
  refine ⟨_, pss_cons (ps_set (i := 3) scPilesFor.nd rfl (.inr rfl) (pe_go cBe hr (by decide) rfl (pa_cons (pv 0) (pa_cons (pv 1) pa_nil))))
    (pss_cons (ps_set (i := 4) scPilesFor.nd rfl (.inr rfl) (pe_lenSetS rfl (by rfl) B.len (by rfl) B.set (pv 1)))
    (pss_cons (ps_setLc (i := 5) (own := [("below", 6)]) (g := gName 6) (tt := tYes) (by rfl) scPilesFor.nd rfl rfl (sw_true rfl rfl rfl (by decide +kernel)) (pi_list (pe_go cOr hr (by decide) rfl (pa_cons (pe_slice sl_tupY (pv 3) (po_some (pv 4)) po_none) pa_nil)))
      (blkOk_by (own := [("below", 6)]) (N := nPilesFor) (sc := defScope sPilesFor) (by decide +kernel)) (fun _ _ _ _ _ => pg_name (i := 6) scPilesFor.nd rfl (.inl rfl)) (fun _ _ _ _ _ => pts_nil)
      (fun _ _ _ _ _ => pe_ix (ixT (K := K) rfl) (pe_go cUn hr (by decide) rfl (pa_cons (pe_op op_catY (pe_slice sl_tupY (pv 3) po_none (po_some (pv 4))) (pv 6)) (pa_cons (pv 2) pa_nil))) pe_int (fun _ _ => rfl)))
    (pss_one (ps_ret (pe_callB cr_sortK (by rfl) B.sorted (by decide +kernel) (pa_cons (pe_lc (own := [("start", 7)]) (g := gName 7) (tt := tTest (tOp (rEqD K) (tCall spLifted [] E0 (tCons (tVar 7) (tCons (tVar 1) tNil))) (tVar 2)))
      (by rfl) scPilesFor.nd (pi_list (pv 5)) (blkOk_by (own := [("start", 7)]) (N := nPilesFor) (sc := defScope sPilesFor) (by decide +kernel)) (fun _ _ _ _ _ => pg_name (i := 7) scPilesFor.nd rfl (.inl rfl))
      (fun _ _ _ _ _ => pts_one (pt_cmpR (oEqD (K := K) hr.units rfl) (pe_go cLi hr (by decide) rfl (pa_cons (pv 7) (pa_cons (pv 1) pa_nil))) (pv 2) (nomark _))) (fun _ _ _ _ _ => pv 7)) pa_nil)))))), ?_⟩
  have pmb := behindM_perm rs mrs
  have lb : (behindM bs rs).length = bs.length := pmb.length_eq
  have lm : ((behindM bs rs).map V.str).length = bs.length := by rw [List.length_map, lb]
  have ld : dist rs ≤ bs.length := by
    have e : (nub rs).Perm (bs.filter fun z => decide (z ∈ rs)) := by
      rw [List.perm_ext_iff_of_nodup (nub_nodup rs) (nd.sublist List.filter_sublist)]
      intro z
      rw [nub_mem, List.mem_filter]
      exact ⟨fun h => ⟨mrs z h, by simpa using h⟩, fun h => by simpa using h.2⟩
    show (nub rs).length ≤ _
    rw [e.length_eq]
    exact List.length_filter_le _ _
  refine ⟨_, rfl, _, rfl, p, r, bs, rs, rfl, hp, hrr, by omega, mrs, fun la H1 s1 hla => ?_⟩
  refine ⟨_, rfl, r, rs, rfl, sql (s1 _ _ hrr), by omega, ?_⟩
  refine ⟨_, rfl, _, rfl, _, rfl, la, _, rfl, hla, fun lo H2 s2 hlo => ?_⟩
  rw [cut_low (j := dist rs) (z := ((dist rs : Nat) : Int)) rfl (by rw [lm]; exact ld), ← List.map_drop] at hlo
  refine ⟨lo, _, rfl, hlo.sqt, by rw [List.length_drop]; omega, fun os H3 ts s3 nos hos tl => ?_⟩
  have sm3 := s1.trans (s2.trans s3)
  have hla3 := hla.same (s2.trans s3)
  refine ⟨os, rfl, ⟨_, sql hos⟩, fun D hD => lc_list (K := K) (a := os) (xs := ts.map V.ref)
    (fun j H' => ∃ us : List Addr, Same H3 H' ∧ H' D = some (.lst (us.map V.ref)) ∧ TupL H' us (((ordP ((behindM bs rs).drop (dist rs))).take j).map fun b => unR ((behindM bs rs).take (dist rs) ++ b) ns.reverse))
    ⟨[], same_new hD _, upd_same, by rw [List.take_zero]; exact TupL.nil _⟩ (fun j H' _ ⟨_, s', _⟩ => s'.seq (sql hos)) ?_ ?_⟩
  · rintro j x H4 hx ⟨us, s4, hD4, ul⟩
    obtain ⟨t, b, rfl, et, eb, ht⟩ := tl.get hx
    have pb := (ordP_mem _ _).mp (List.mem_of_getElem? eb)
    have lbl : b.length = bs.length - dist rs := by rw [pb.length_eq, List.length_drop, lb]
    refine ⟨rfl, _, rfl, _, rfl, _, rfl, la, _, rfl, hla3.same s4, fun hi H5 s5 hhi => ?_⟩
    rw [cut_high (j := dist rs) (z := ((dist rs : Nat) : Int)) rfl (by rw [lm]; exact ld), ← List.map_take] at hhi
    refine ⟨_, rfl, hi, t, _, _, rfl, rfl, hhi, ht.same (s4.trans s5), by rw [List.length_map, List.length_map, List.length_take, lbl, sizeLine_eq]; omega, fun c H6 s6 hc => ?_⟩
    rw [← List.map_append] at hc
    have lc : ((behindM bs rs).take (dist rs) ++ b).length = bs.length := by
      rw [List.length_append, List.length_take, lbl, lb]
      omega
    refine ⟨_, rfl, c, n, _, ns, rfl, hc, sql ((sm3.trans (s4.trans (s5.trans s6))) _ _ hn), fun k hk => by rw [lc]; exact kns k hk, by omega, l900, fun tt o rd H7 s7 htt ho _ => ?_⟩
    have s47 := s5.trans (s6.trans s7)
    have hD7 := s47 _ _ hD4
    refine ⟨tt, _, _, _, rfl, rfl, sqt htt, at_of (j := 0) rfl rfl, _, hD7, ?_, us ++ [o], same_put (s4.trans s47) hD, by rw [upd_same, List.map_append]; rfl, ?_⟩
    · have z := ordP_len ((behindM bs rs).drop (dist rs))
      have z2 := fac_le (n := ((behindM bs rs).drop (dist rs)).length) (by rw [List.length_drop]; omega)
      rw [List.length_map, ul.1, List.length_map, List.length_take]
      exact small1000 (by omega)
    · rw [List.take_add_one, eb, List.map_append]
      exact ((ul.move s47).app (TupL.one ho)).put hD7
  · rintro H4 ⟨us, s4, hD4, ul⟩
    rw [List.length_map, tl.1, List.take_length] at ul
    have ul2 : TupL H4 us (starts bs rs ns) := ul
    have sl := starts_len (ns := ns) b5 mrs
    have okS : ∀ x ∈ starts bs rs ns, x.Perm bs := fun x hx => starts_perm x hx mrs
    have sm4 := sm3.trans s4
    generalize starts bs rs ns = ss at ul2 sl okS q
    refine ⟨_, rfl, D, rfl, ⟨_, sql hD4⟩, fun D2 hD2 => lc_list (K := K) (a := D) (xs := us.map V.ref)
      (fun j H' => ∃ vs : List Addr, Same H4 H' ∧ H' D2 = some (.lst (vs.map V.ref)) ∧ TupL H4 vs ((ss.take j).filter (fits rs ns)))
      ⟨[], same_new hD2 _, upd_same, by rw [List.take_zero]; exact TupL.nil _⟩ (fun j H' _ ⟨_, s', _⟩ => s'.seq (sql hD4)) ?_ ?_⟩
    · rintro j x H5 hx ⟨vs, s5, hD5, vl⟩
      obtain ⟨t, b, rfl, et, eb, ht⟩ := ul2.get hx
      have pb := okS b (List.mem_of_getElem? eb)
      have sm5 := sm4.trans s5
      refine ⟨rfl, _, rfl, _, rfl, t, r, b, rs, rfl, ht.same s5, sm5 _ _ hrr, by rw [pb.length_eq]; omega, by omega, (fun c hc => pb.mem_iff.mpr (mrs c hc)), fun li H6 s6 nli hli => ?_⟩
      have f1 := fineN (ns := liftedM b rs) (by rw [liftedM_len]; omega) 0
      have f2 := fineN (ns := ns) (by omega) 0
      refine ⟨_, rfl, _, _, .lst (sql hli) (dpAll_nats _), .lst (sql (s6 _ _ (sm5 _ _ hn))) (dpAll_nats ns), fine_shaped (n := 1) f1 (by decide), fine_shaped (n := 1) f2 (by decide), _, rfl, ?_⟩
      rw [eqvL_nats, List.take_add_one, eb, List.filter_append]
      refine ite2 (fun c => ?_) (fun c => ?_)
      · refine ⟨_, rfl, _, s6 _ _ hD5, ?_, vs ++ [t], same_put (s5.trans s6) hD2, by rw [upd_same, List.map_append]; rfl, ?_⟩
        · have z := List.length_filter_le (fits rs ns) (ss.take j)
          rw [List.length_take] at z
          rw [List.length_map, vl.1]
          exact small1000 (by omega)
        · refine vl.app ?_
          show TupL H4 [t] ([b].filter (fits rs ns))
          rw [filt_y (p := fits rs ns) c]
          exact TupL.one ht
      · refine ⟨vs, s5.trans s6, s6 _ _ hD5, ?_⟩
        show TupL H4 vs (_ ++ [b].filter (fits rs ns))
        rw [filt_n (p := fits rs ns) c, List.append_nil]
        exact vl
    · rintro H5 ⟨vs, s5, hD5, vl⟩
      rw [List.length_map, ul2.1, List.take_length] at vl
      have vl5 := vl.move s5
      have each : ∀ t ∈ vs, cont H5 t ∈ ss ∧ TpO H5 t ((cont H5 t).map V.str) := fun t ht => ⟨(List.mem_filter.mp (vl5.at ht).1).1, (vl5.at ht).2⟩
      refine ⟨D2, vs, fun t => tk (cont H5 t), rfl, sql hD5, fun t ht => ⟨by rw [kV_tk]; exact (each t ht).2.sqt, fun z => ?_⟩, fun t ht u hu => ⟨alike_tk _ _, ?_⟩, fun vs2 l pm pw nl => ?_⟩
      · have z2 := congrArg List.length z
        rw [List.length_map, (okS _ (each t ht).1).length_eq, List.length_nil] at z2
        omega
      · rw [List.length_map, List.length_map, (okS _ (each t ht).1).length_eq, (okS _ (each u hu).1).length_eq]
      · have s6 := same_new nl (.lst (vs2.map V.ref))
        have tl6 : TupL (upd H5 l (.lst (vs2.map V.ref))) vs2 (vs2.map (cont H5)) := (tupL_of vs2 fun t ht => (each t (pm.mem_iff.mp ht)).2).move s6
        refine q l _ vs2 (vs2.map (cont H5)) (sm4.trans (s5.trans s6)) ((sm4.trans s5).free nl) upd_same tl6 ?_ ?_
        · have z := pm.map (cont H5)
          rw [vl5.cont] at z
          exact z
        · exact List.pairwise_map.mpr pw
end
end Lt

set_option Elab.async false
set_option linter.all false
set_option maxRecDepth 100000
set_option maxHeartbeats 4000000
namespace Lt
open PySem PySem.Spec PyProof.Rows L2
theorem ordL_len : ∀ (n : Nat) (l : List Str), l.length = n → (ordL n l).length = fac n
  | 0, _, _ => rfl
  | n + 1, l, h => by
    have key : ∀ is : List Nat, (∀ i ∈ is, i < l.length) → (is.flatMap fun i => (ordL n (l.eraseIdx i)).map fun r => (l[i]?).getD Str.empty :: r).length = fac n * is.length := by
      intro is
      induction is with
      | nil => intro _; simp
      | cons i t ih =>
        intro hi
        have z := ordL_len n (l.eraseIdx i) (by rw [List.length_eraseIdx_of_lt (hi i (List.mem_cons_self ..)), h]; rfl)
        rw [List.flatMap_cons, List.length_append, List.length_map, z, ih fun j hj => hi j (List.mem_cons_of_mem _ hj), List.length_cons, Nat.mul_succ, Nat.add_comm]
    have z := key (List.range l.length) fun i hi => List.mem_range.mp hi
    rw [List.length_range] at z
    have z2 : fac n * l.length = fac n * (n + 1) := by rw [h]
    exact z.trans z2
section
variable {P : Program} {w : World} {K : PySem.W.Frag} {mg : Str → Option Value} {base : Heap} {X : Cx}
def spOrds (n : Nat) : Sp := fun vs H Q _ => ∃ (a : Addr) (l : List Str), vs = [.ref a] ∧ H a = some (.lst (l.map V.str)) ∧ l.length + 1 ≤ n ∧ l.length ≤ 5 ∧ (∀ b ∈ l, PyData.strOk b = true) ∧
  ∀ (p : Addr) (H' : Hp) (ts : List Addr), Same H H' → H p = none → H' p = some (.lst (ts.map V.ref)) → TupL H' ts (ordL l.length l) → Q (.ref p) H'
abbrev nOrds : List Str := ["books", "found", "at", "book", "row"]
theorem scOrds : FnScope nOrds ["books"] (defScope sOrders) := ⟨rfl, rfl, rfl, by decide +kernel, rfl, by decide +kernel, by decide +kernel⟩
theorem ords_step {f : Addr} {fd : FuncData} {n : Nat} (F : Fun K "_law_orders" "_law_orders" sOrders f fd) (B : Bi mg) (cI : Has P w K mg base n "_law_orders" ["books"] (spOrds n)) : FnOk P w K mg base CX0 (n + 1) f fd ["books"] (spOrds (n + 1)) := by
  refine F.ok scOrds (fun vs H Q E h => ?_) (fun cdv A outer s H vs Q E hr h => ?_)
  · obtain ⟨a, l, rfl, _⟩ := h
    rfl
  obtain ⟨a, l, rfl, ha, hn, h5, okL, q⟩ := h
  refine ⟨_, pss_cons (ps_if (pt_cmpR (op_eqD hr.units) (pv 0) (pe_lst pa_nil) (nomark _)) (pss_one (ps_ret (pe_lst (pa_cons (pe_tupZ pa_nil) pa_nil)))) pss_nil)
    (pss_cons (ps_set (i := 1) scOrds.nd rfl (.inl rfl) (pe_lst pa_nil))
    (pss_cons (ps_for PassesOwn.never rfl (pi_enum (by rfl) B.enumerate (pa_cons (pv 0) pa_nil)) (pg_tup rfl (pgs_cons (pg_name (i := 2) scOrds.nd rfl (.inl rfl)) (pgs_cons (pg_name (i := 3) scOrds.nd rfl (.inr rfl)) pgs_nil)))
      (pss_one (ps_set (i := 1) scOrds.nd rfl (.inl rfl) (pe_op op_cat (pv 1) (pe_lc (own := [("row", 4)]) (g := gName 4) (tt := tYes) (by rfl) scOrds.nd
        (pi_list (pe_go cI hr (Nat.le_refl _) rfl (pa_cons (pe_op op_cat (pe_slice sl_list (pv 0) po_none (po_some (pv 2))) (pe_slice sl_list (pv 0) (po_some (pe_op op_add (pv 2) pe_int)) po_none)) pa_nil)))
        (blkOk_by (own := [("row", 4)]) (N := nOrds) (sc := defScope sOrders) (by decide +kernel)) (fun _ _ _ _ _ => pg_name (i := 4) scOrds.nd rfl (.inl rfl)) (fun _ _ _ _ _ => pts_nil)
        (fun _ _ _ _ _ => pe_op op_catY (pe_tupZ (pa_cons (pv 3) pa_nil)) (pv 4)))))))
    (pss_one (ps_ret (pv 1))))), ?_⟩
  have lm : (l.map V.str).length = l.length := List.length_map _
  refine ⟨_, rfl, Nat.zero_le _, fun N0 hN0 => ?_⟩
  have s0 := same_new hN0 (.lst [])
  have fl := fine_strs (ss := l) (by omega) okL 0
  refine ⟨.list (l.map PyData.str), .list ([].map PyData.str), .lst (sql (s0 _ _ ha)) (dpAll_strs l), .lst (sql upd_same) .nil, fine_shaped (n := 1) fl (by decide), by decide +kernel, _, rfl, ?_⟩
  rw [eqvL_strs]
  generalize upd H N0 (.lst []) = H0 at s0 ⊢
  refine ite2 (fun c => ?_) (fun c => ?_)
  · have e : l = [] := of_decide_eq_true c
    subst e
    refine ⟨Nat.zero_le _, fun Z u hZ hu => ⟨(by show 1 ≤ sizeLine; decide), fun L hL => ?_⟩⟩
    have s1 := same_new hZ u
    have s2 := same_new hL (.lst [V.ref Z])
    exact q L _ [Z] (s0.trans (s1.trans s2)) ((s0.trans s1).free hL) upd_same (TupL.one (r := []) ((TpO.new hu).same s2))
  · have ne : l ≠ [] := of_decide_eq_false (Bool.eq_false_iff.mpr c)
    cases n with
    | zero =>
      cases l with
      | nil => exact absurd rfl ne
      | cons x r =>
        rw [List.length_cons] at hn
        omega
    | succ n' =>
    refine ⟨Nat.zero_le _, fun L hL => ?_⟩
    have s1 := same_new hL (.lst [])
    have ha1 := s1 _ _ (s0 _ _ ha)
    have hL1 : upd H0 L (.lst []) L = some (.lst (([] : List Addr).map V.ref)) := upd_same
    have sm1 := s0.trans s1
    have nL : H L = none := s0.free hL
    obtain ⟨m, em⟩ : ∃ m, l.length = m + 1 := by
      cases l with
      | nil => exact absurd rfl ne
      | cons x r => exact ⟨r.length, rfl⟩
    have eo : ordL l.length l = (List.range l.length).flatMap fun i => (ordL m (l.eraseIdx i)).map fun r => (l[i]?).getD Str.empty :: r := by
      conv => lhs; rw [em]
      rfl
    generalize upd H0 L (.lst []) = H1 at ha1 hL1 sm1 ⊢
    refine ⟨_, rfl, a, _, rfl, sql ha1, for_it (walk_enum (K := K) (a := a) (xs := l.map V.str))
      (fun i σ H' => ∃ (L : Addr) (y2 y3 : Option V) (ts : List Addr), σ = [some (.ref a), some (.ref L), y2, y3, none] ∧ Same H H' ∧ H L = none ∧ H' L = some (.lst (ts.map V.ref)) ∧ TupL H' ts ((List.range i).flatMap fun i => (ordL m (l.eraseIdx i)).map fun r => (l[i]?).getD Str.empty :: r))
      ⟨L, none, none, [], rfl, sm1, nL, hL1, TupL.nil _⟩ (fun i σ H' _ ⟨_, _, _, _, _, s', _⟩ => sql (s' _ _ ha)) ?_ ?_⟩
    · rintro i x σ H3 H4 hi ⟨L, y2, y3, ts, rfl, sm, nL, hL3, tl⟩ ⟨T, x1, x2, rfl, nT, rfl, e1, e2⟩
      rw [lm] at hi
      cases e1
      obtain ⟨b, hb, rfl⟩ := strs_get e2
      have s4 := same_new nT (.tup [natV i, .str b])
      have sm4 := sm.trans s4
      have hL4 := s4 _ _ hL3
      have tl4 := tl.move s4
      have hT4 : upd H3 T (.tup [natV i, .str b]) T = some (.tup [natV i, .str b]) := upd_same
      generalize upd H3 T (.tup [natV i, .str b]) = H4 at sm4 hL4 tl4 hT4 ⊢
      refine ⟨T, _, rfl, sqt hT4, rfl, _, _, rfl, _, _, rfl, rfl, ?_⟩
      have lts : ts.length ≤ 600 := by
        rw [tl.1]
        have key : ∀ k, k ≤ l.length → ((List.range k).flatMap fun i => (ordL m (l.eraseIdx i)).map fun r => (l[i]?).getD Str.empty :: r).length ≤ k * 120 := by
          intro k
          induction k with
          | zero => intro _; simp
          | succ k ih =>
            intro hk
            have z := ih (by omega)
            have z2 := ordL_len m (l.eraseIdx k) (by rw [List.length_eraseIdx_of_lt (by omega), em]; rfl)
            have z3 := fac_le (n := m) (by omega)
            rw [List.range_succ, List.flatMap_append, List.length_append, List.flatMap_singleton, List.length_map, z2, Nat.succ_mul]
            omega
        have z := key i (by omega)
        omega
      refine ⟨_, rfl, _, rfl, _, rfl, _, rfl, a, _, rfl, sql (sm4 _ _ ha), fun c1 hc1 => ?_⟩
      have s5 := same_new hc1 (.lst (cutV (l.map V.str) none (some (i : Int))))
      have e5 : cutV (l.map V.str) none (some (i : Int)) = (l.take i).map V.str := by rw [cut_high (j := i) (z := (i : Int)) rfl (by rw [lm]; omega), List.map_take]
      rw [e5] at s5 ⊢
      refine ⟨_, rfl, _, rfl, _, _, rfl, rfl, _, rfl, a, _, rfl, sql (s5 _ _ (sm4 _ _ ha)), fun c2 hc2 => ?_⟩
      have e6 : cutV (l.map V.str) (some ((i : Int) + 1)) none = (l.drop (i + 1)).map V.str := by rw [cut_low (j := i + 1) (z := (i : Int) + 1) (by omega) (by rw [lm]; omega), List.map_drop]
      rw [e6]
      have s6 := same_new hc2 (.lst ((l.drop (i + 1)).map V.str))
      refine ⟨c1, c2, _, _, rfl, rfl, s6 _ _ upd_same, upd_same, by rw [List.length_map, List.length_map, List.length_take, List.length_drop, sizeLine_eq]; omega, fun c3 hc3 => ?_⟩
      have e7 : (l.take i).map V.str ++ (l.drop (i + 1)).map V.str = (l.eraseIdx i).map V.str := by rw [← List.map_append, List.eraseIdx_eq_take_drop_succ]
      rw [e7]
      have s7 := same_new hc3 (.lst ((l.eraseIdx i).map V.str))
      have s47 := s5.trans (s6.trans s7)
      have le : (l.eraseIdx i).length = m := by rw [List.length_eraseIdx_of_lt hi, em]; rfl
      refine ⟨c3, l.eraseIdx i, rfl, upd_same, by omega, by omega, (fun c hc => okL c (List.mem_of_mem_eraseIdx hc)), fun rw_ H8 us s8 nrw hrw ul => ?_⟩
      rw [le] at ul
      have s48 := s47.trans s8
      have fl2 := ordL_len m (l.eraseIdx i) le
      have fl3 := fac_le (n := m) (by omega)
      have okr : ∀ r ∈ ordL m (l.eraseIdx i), r.length ≤ 5 := fun r hr' => by
        rw [((ordL_mem m _ le r).mp hr').length_eq]
        omega
      have eb : (l[i]?).getD Str.empty = b := by rw [hb]; rfl
      have ei : (List.range (i + 1)).flatMap (fun i => (ordL m (l.eraseIdx i)).map fun r => (l[i]?).getD Str.empty :: r) = ((List.range i).flatMap fun i => (ordL m (l.eraseIdx i)).map fun r => (l[i]?).getD Str.empty :: r) ++ (ordL m (l.eraseIdx i)).map fun r => b :: r := by
        rw [List.range_succ, List.flatMap_append, List.flatMap_singleton, eb]
      rw [ei]
      generalize ordL m (l.eraseIdx i) = os at ul fl2 okr ⊢
      refine ⟨rw_, rfl, ⟨_, sql hrw⟩, fun D hD => lc_list (K := K) (a := rw_) (xs := us.map V.ref) (fun j H' => ∃ vs : List Addr, Same H8 H' ∧ H' D = some (.lst (vs.map V.ref)) ∧ TupL H' vs ((os.take j).map fun r => b :: r))
        ⟨[], same_new hD _, upd_same, by rw [List.take_zero]; exact TupL.nil _⟩ (fun j H' _ ⟨_, s', _⟩ => s'.seq (sql hrw)) ?_ ?_⟩
      · rintro j x H9 hx ⟨vs, s9, hD9, vl⟩
        obtain ⟨t, r, rfl, et, er, ht⟩ := ul.get hx
        have lr := okr r (List.mem_of_getElem? er)
        refine ⟨rfl, _, rfl, (by show 1 ≤ sizeLine; decide), fun d v hd hv => ?_⟩
        have s10 := same_new hd v
        refine ⟨_, rfl, d, t, _, _, rfl, rfl, TpO.new hv, ht.same (s9.trans s10), by rw [List.length_map, sizeLine_eq]; show 1 + _ ≤ _; omega, fun e H11 s11 he => ?_⟩
        have s911 := s10.trans s11
        have hD11 := s911 _ _ hD9
        refine ⟨_, hD11, ?_, vs ++ [e], same_put (s9.trans s911) hD, by rw [upd_same, List.map_append]; rfl, ?_⟩
        · rw [List.length_map, vl.1, List.length_map, List.length_take]
          exact small1000 (by omega)
        · rw [List.take_add_one, er, List.map_append]
          exact ((vl.move s911).app (TupL.one (r := b :: r) he)).put hD11
      · rintro H9 ⟨vs, s9, hD9, vl⟩
        rw [List.length_map, ul.1, List.take_length] at vl
        have s49 := s48.trans s9
        refine ⟨L, D, _, _, rfl, rfl, s49 _ _ hL4, hD9, ?_, fun G hG => ?_⟩
        · rw [List.length_map, List.length_map, vl.1, List.length_map, sizeLine_eq]
          omega
        · have s10 := same_new hG (.lst (ts.map V.ref ++ vs.map V.ref))
          refine ⟨G, some (natV i), some (.str b), ts ++ vs, rfl, sm4.trans (s49.trans s10), (sm4.trans s49).free hG, by rw [upd_same, List.map_append], ?_⟩
          exact ((tl4.move s49).move s10).app (vl.move s10)
    · rintro σ H3 ⟨L, y2, y3, ts, rfl, sm, nL, hL3, tl⟩
      rw [lm, ← eo] at tl
      exact ⟨_, rfl, q L H3 ts sm nL hL3 tl⟩
theorem ords_all {f : Addr} {fd : FuncData} (F : Fun K "_law_orders" "_law_orders" sOrders f fd) (B : Bi mg) (m : mg "_law_orders" = some (.ref f)) (b : Binds K fd ["books"] []) : ∀ n : Nat, FnOk P w K mg base CX0 n f fd ["books"] (spOrds n)
  | 0 => by
    have no : ∀ vs H Q E, ¬ spOrds 0 vs H Q E := fun vs H Q E h => by
      obtain ⟨_, _, _, _, h, _⟩ := h
      omega
    exact ⟨fun vs H Q E h => absurd h (no vs H Q E), fun A outer s H args us vs Q E _ _ _ _ h => absurd h (no vs H Q E)⟩
  | n + 1 => ords_step F B ⟨f, fd, ords_all F B m b n, m, F.kp, b⟩
end
end Lt

set_option Elab.async false
set_option linter.all false
set_option maxRecDepth 100000
set_option maxHeartbeats 4000000
namespace Lt
open PySem PySem.Spec PyProof.Rows L2
theorem units65 {k : Nat} {A : Around} (r : Room k A) : A.units + 65 < cLine := by have := r.un; omega
theorem nat_ne {H : Hp} {n T S : Addr} {ns : List Nat} {i c : Int} (h : H n = some (.lst (ns.map natV))) (hT : H T = some (.lst [.ref S, .int i, .int c])) : n ≠ T := by
  refine ne_of h hT fun z => ?_
  injection z with z
  cases ns with
  | nil => cases z
  | cons a r => cases z
theorem rowsFine {rws : List (List Str)} (hl : rws.length ≤ 1000) (ok : ∀ r ∈ rws, r.length ≤ 1000 ∧ ∀ b ∈ r, PyData.strOk b = true) (n : Nat) : Fine (n + 2) (.list (rws.map fun r => .tuple (r.map PyData.str))) :=
  ⟨by rw [List.length_map]; exact hl, fun d hd => by
    obtain ⟨r, hr, rfl⟩ := List.mem_map.mp hd
    exact fine_strs (ok r hr).1 (ok r hr).2 n⟩
theorem any_row {rws : List (List Str)} {x : List Str} (h : x ∈ rws) (ok : ∀ b ∈ x, PyData.strOk b = true) (hl : x.length ≤ 1000) : ((rws.map fun r => PyData.tuple (r.map PyData.str)).any fun z => PyData.eqv z (.tuple (x.map PyData.str))) = true :=
  List.any_eq_true.mpr ⟨_, List.mem_map.mpr ⟨x, h, rfl⟩, fine_eqv (n := 1) (fine_strs hl ok 0)⟩
theorem sorted_lt {ys : List Str} (nd : ys.Nodup) (so : sortedS ys = true) : ys.Pairwise ltS := by
  have z := List.Pairwise.and (sorted_pw so) (List.nodup_iff_pairwise_ne.mp nd)
  refine z.imp fun {a b} h => ?_
  by_cases c : ltS a b
  · exact c
  · exact absurd (ltS_tri c h.1) h.2
theorem lifted_lt : ∀ (rs : List Str) {bs : List Str}, (∀ b ∈ rs, b ∈ bs) → ∀ k ∈ liftedM bs rs, k < bs.length
  | [], _, _, k, hk => nomatch hk
  | b :: r, bs, h, k, hk => by
    have hb := h b (List.mem_cons_self ..)
    have p := lay_perm hb
    rcases List.mem_cons.mp (show k ∈ bs.idxOf b :: liftedM (lay bs b) r from hk) with e | hk
    · rw [e]
      exact idx_lt hb
    · have z := lifted_lt r (bs := lay bs b) (fun c hc => p.mem_iff.mpr (h c (List.mem_cons_of_mem _ hc))) k hk
      rw [p.length_eq] at z
      exact z
theorem ixN_nat {n : Nat} {i : Int} (h0 : 0 ≤ i) (h1 : i < (n : Int)) : ixN n i = some i.toNat := by
  unfold ixN
  rw [if_pos h0, if_pos h1]
theorem books_rise : books.Pairwise ltS := by decide +kernel
abbrev nLaw : List Str := ["script", "tape", "turn", "pile", "readings", "numbers", "other", "near", "some", "due", "told", "number", "row"]
theorem scLaw : FnScope nLaw ["script"] (defScope sLaw) := ⟨rfl, rfl, rfl, by decide +kernel, rfl, by decide +kernel, by decide +kernel⟩
/-- numbers below how many books there are -/
structure Nums (bs : List Str) (rs : List Str) (ns : List Nat) : Prop where
  lt : ∀ k ∈ ns, k < bs.length
  len : ns.length = rs.length
section
variable {P : Program} {w : World} {K : PySem.W.Frag} {mg : Str → Option Value} {base : Heap} {X : Cx}
/-- what stands through a turn -/
structure Tn (H : Hp) (T S p rd : Addr) (ns : List Int) (bs rs : List Str) : Prop where
  tp : Tape H T S ns
  hp : TpO H p (bs.map V.str)
  hr : H rd = some (.lst (rs.map V.str))
  ok : IsPile bs
  le : bs.length ≤ 5
  m9 : rs.length ≤ 9
  mem : ∀ b ∈ rs, b ∈ bs
theorem Tn.same {H H' : Hp} {T S p rd : Addr} {ns : List Int} {bs rs : List Str} (h : Tn H T S p rd ns bs rs) (s : Same H H') : Tn H' T S p rd ns bs rs := ⟨h.tp.same s, h.hp.same s, s _ _ h.hr, h.ok, h.le, h.m9, h.mem⟩
abbrev ttD (K : PySem.W.Frag) : TT := tTest (tOp (rEqD K) (tOp (rIxT K) (tCall spRead [] E0 (tCons (tVar 12) (tCons (tVar 4) tNil))) (tC (.int 1))) (tVar 8))
theorem ok_law {f : Addr} {fd : FuncData} (F : Fun K "law" "law" sLaw f fd) (B : Bi mg) (cD : Has P w K mg base 1 "_law_draw" ["tape", "many"] spDraw) (cPi : Has P w K mg base 3 "_law_pile" ["tape", "size"] spPile)
    (cRe : Has P w K mg base 2 "_law_readings" ["tape", "books", "size"] spReadings) (cRd : Has P w K mg base 1 "_law_read" ["pile", "readings"] spRead) (cOd : Has P w K mg base 6 "_law_orders" ["books"] (spOrds 6))
    (cLk : Has P w K mg base 3 "_law_like" ["one", "two"] (spLike K 3)) (cPf : Has P w K mg base 3 "piles_for" ["pile", "readings", "numbers"] (spPilesFor K)) : FnOk P w K mg base CX0 7 f fd ["script"] (spLaw K) := by
  refine F.ok scLaw (fun vs H Q E h => ?_) (fun cdv A outer s H vs Q E hr h => ?_)
  · obtain ⟨a, ns, rfl, _⟩ := h
    rfl
  obtain ⟨a, ns, rfl, hS, h63, q⟩ := h
  refine ⟨_, pss_cons (ps_set (i := 1) scLaw.nd rfl (.inr rfl) (pe_lst (pa_cons (pe_callTy call_list_of (by rfl) B.list (by decide +kernel) (pa_cons (pv 0) pa_nil)) (pa_cons pe_int (pa_cons pe_int pa_nil)))))
    (pss_cons (ps_for PassesOwn.never rfl (pi_range1 (by rfl) B.range (pa_cons pe_int pa_nil)) (pg_name (i := 2) scLaw.nd rfl (.inl rfl))
      (pss_cons (ps_set (i := 3) scLaw.nd rfl (.inr rfl) (pe_go cPi hr (by decide) rfl (pa_cons (pv 1) (pa_cons pe_int pa_nil))))
      (pss_cons (ps_set (i := 4) scLaw.nd rfl (.inr rfl) (pe_go cRe hr (by decide) rfl (pa_cons (pv 1) (pa_cons (pv 3) (pa_cons pe_int pa_nil)))))
      (pss_cons (ps_set (i := 5) scLaw.nd rfl (.inl rfl) (pe_ix ix_tup (pe_go cRd hr (by decide) rfl (pa_cons (pv 3) (pa_cons (pv 4) pa_nil))) pe_int (fun _ _ => rfl)))
      (pss_cons (ps_setLc (i := 6) (own := [("number", 11)]) (g := gName 11) (tt := tYes) (by rfl) scLaw.nd rfl rfl (sw_true rfl rfl rfl (by decide +kernel)) (pi_list (pv 5))
        (blkOk_by (own := [("number", 11)]) (N := nLaw) (sc := defScope sLaw) (by decide +kernel)) (fun _ _ _ _ _ => pg_name (i := 11) scLaw.nd rfl (.inl rfl)) (fun _ _ _ _ _ => pts_nil)
        (fun _ _ _ _ _ => pe_go cD hr (by decide) rfl (pa_cons (pv 1) (pa_cons (pe_callB (cLen (K := K) rfl) (by rfl) B.len PySem.boot_len (pa_cons (pv 3) pa_nil)) pa_nil))))
      (pss_cons (ps_set (i := 7) scLaw.nd rfl (.inl rfl) (pe_callTy call_list_of (by rfl) B.list (by decide +kernel) (pa_cons (pv 5) pa_nil)))
      (Evl.pss_cut (ps_if (pt_cmpR (op_neD hr.units) (pv 7) (pe_lst pa_nil) (nomark _))
        (pss_one (ps_asg (pe_go cD hr (by decide) rfl (pa_cons (pv 1) (pa_cons (pe_callB call_len_seq (by rfl) B.len PySem.boot_len (pa_cons (pv 3) pa_nil)) pa_nil)))
          (pg_sub (pv 7) (pe_go cD hr (by decide) rfl (pa_cons (pv 1) (pa_cons (pe_callB call_len_seq (by rfl) B.len PySem.boot_len (pa_cons (pv 7) pa_nil)) pa_nil))) set_list))) pss_nil)
      (Evl.pss_cut (ps_for PassesOwn.never rfl (pi_list (pe_lst (pa_cons (pv 5) (pa_cons (pv 6) (pa_cons (pv 7) pa_nil))))) (pg_name (i := 8) scLaw.nd rfl (.inr rfl))
        (pss_cons (ps_setLc (i := 9) (own := [("row", 12)]) (g := gName 12) (tt := ttD K) (by rfl) scLaw.nd rfl rfl (sw_true rfl rfl rfl (by decide +kernel)) (pi_list (pe_go cOd hr (by decide) rfl (pa_cons (pe_callB cr_sortedT (by rfl) B.sorted (by decide +kernel) (pa_cons (pv 3) pa_nil)) pa_nil)))
          (blkOk_by (own := [("row", 12)]) (N := nLaw) (sc := defScope sLaw) (by decide +kernel)) (fun _ _ _ _ _ => pg_name (i := 12) scLaw.nd rfl (.inl rfl))
          (fun _ _ _ _ _ => pts_one (pt_cmpR (oEqD (K := K) hr.units rfl) (pe_ix (ixT (K := K) rfl) (pe_go cRd hr (by decide) rfl (pa_cons (pv 12) (pa_cons (pv 4) pa_nil))) pe_int (fun _ _ => rfl)) (pv 8) (nomark _))) (fun _ _ _ _ _ => pv 12))
        (pss_one (ps_if (pt_not (pt_val (pe_go cLk hr (by decide) rfl (pa_cons (pe_go cPf hr (by decide) rfl (pa_cons (pv 3) (pa_cons (pv 4) (pa_cons (pv 8) pa_nil)))) (pa_cons (pv 9) pa_nil))))) (pss_one (ps_ret pe_bl)) pss_nil))))
      (pss_cons (ps_set (i := 10) scLaw.nd rfl (.inl rfl) (pe_go cPf hr (by decide) rfl (pa_cons (pv 3) (pa_cons (pv 4) (pa_cons (pv 5) pa_nil)))))
      (pss_one (ps_if (PW.pt (pw_or (pt_cmpR (op_notInD (units65 hr)) (pv 3) (pv 10) (by rfl))
        (pw_or1 (PW.pt (pw_and (pt_cmpR op_ge (pe_lenSetS rfl (by rfl) B.len (by rfl) B.set (pv 4)) (pe_op op_sub (pe_callB call_len_seq (by rfl) B.len PySem.boot_len (pa_cons (pv 3) pa_nil)) pe_int) (nomark _))
          (pw_and1 (pt_cmpR (op_neD hr.units) (pv 10) (pe_lst (pa_cons (pv 3) pa_nil)) (nomark _)))))))) (pss_one (ps_ret pe_bl)) pss_nil)))))))))))
    (pss_one (ps_ret pe_bl))), ?_⟩
  refine ⟨_, rfl, a, _, rfl, .inl hS, fun S hS0 => ⟨(by show 3 ≤ sizeLine; decide), fun T hT0 => ?_⟩⟩
  have tp0 : Tape (upd (upd H S (.lst (ns.map V.int))) T (.lst [.ref S, .int 0, .int 0])) T S ns := ⟨⟨0, 0, upd_same⟩, by rw [upd_ne (ne_of_none upd_same hT0)]; exact upd_same⟩
  generalize upd (upd H S (.lst (ns.map V.int))) T (.lst [.ref S, .int 0, .int 0]) = H0 at tp0 ⊢
  refine ⟨3, rfl, by decide, by decide, for_range (lo := 0) (n := 3) (fun i σ H' => ∃ y2 y3 y4 y5 y6 y7 y8 y9 y10 : Option V, σ = [some (.ref a), some (.ref T), y2, y3, y4, y5, y6, y7, y8, y9, y10, none, none] ∧ Tape H' T S ns)
    ⟨none, none, none, none, none, none, none, none, none, rfl, tp0⟩ ?_ ?_⟩
  · rintro i σ H1 hi ⟨y2, y3, y4, y5, y6, y7, y8, y9, y10, rfl, tp1⟩
    -- pile, readings, numbers
    refine ⟨_, rfl, T, S, ns, 5, rfl, tp1, by decide, by decide, fun p H2 bs sm2 tp2 np hp bsOk ble => ?_⟩
    have npT : p ≠ T := by
      obtain ⟨i', c, hT⟩ := tp2.at_
      exact hp.ne hT (fun o z => nomatch z)
    have b5 : bs.length ≤ 5 := by omega
    have lb : (bs.map V.str).length = bs.length := List.length_map _
    have b0 := bsOk.pos
    refine ⟨_, rfl, _, rfl, T, S, p, ns, bs, 9, rfl, tp2, hp, bsOk.pos, bsOk.most, by decide, by decide, fun rd H3 rs sm3 tp3 nrd hrd lrs mrs => ?_⟩
    have hp3 := hp.sameT sm3 npT
    have r9 : rs.length ≤ 9 := by omega
    have nrT : rd ≠ T := by
      obtain ⟨i', c, hT⟩ := tp3.at_
      refine ne_of hrd hT fun z => ?_
      injection z with z
      cases rs with
      | nil => cases z
      | cons x y => cases z
    refine ⟨_, rfl, _, rfl, p, rd, bs, rs, rfl, hp3, hrd, bsOk.most, by omega, mrs, fun tt an nn ro H4 ts s4 htt han hnn hro pl => ?_⟩
    refine ⟨tt, _, _, _, rfl, rfl, sqt htt, at_of (j := 1) rfl rfl, ?_⟩
    have tn4 : Tn H4 T S p rd ns bs rs := ⟨tp3.same s4, hp3.same s4, s4 _ _ hrd, bsOk, b5, r9, mrs⟩
    have nums : Nums bs rs (liftedM bs rs) := ⟨lifted_lt rs mrs, liftedM_len bs rs⟩
    have lln : (liftedM bs rs).length ≤ 9 := by rw [liftedM_len]; exact r9
    have nnT : nn ≠ T := by
      obtain ⟨i', c, hT⟩ := tn4.tp.at_
      exact nat_ne hnn hT
    -- other
    refine ⟨_, rfl, nn, rfl, ⟨_, sql hnn⟩, fun D hD => lc_list (K := K) (a := nn) (xs := (liftedM bs rs).map natV)
      (fun j H' => ∃ os : List Nat, SameT T H4 H' ∧ Tape H' T S ns ∧ H' D = some (.lst (os.map natV)) ∧ os.length = j ∧ ∀ k ∈ os, k < bs.length)
      ⟨[], SameT.of (same_new hD _), tn4.tp.same (same_new hD _), upd_same, rfl, fun k hk => nomatch hk⟩ (fun j H' _ ⟨_, s', _⟩ => sql (s' _ _ nnT hnn)) ?_ ?_⟩
    · rintro j x H5 hx ⟨os, sm5, tp5, hD5, lo, mo⟩
      have hj : j < (liftedM bs rs).length := by
        have z := (List.getElem?_eq_some_iff.mp hx).1
        rw [List.length_map] at z
        exact z
      have nDT : D ≠ T := by
        obtain ⟨o, ho⟩ := tn4.tp.taken
        exact new_ne ho hD
      refine ⟨rfl, _, rfl, _, rfl, p, _, rfl, .inr (tn4.hp.sameT sm5 npT).sqt, T, S, ns, _, rfl, tp5, by rw [lb]; omega, by rw [lb]; omega, fun r i2 c2 r0 r1 => ?_⟩
      rw [lb] at r1
      refine ⟨_, (by rw [upd_ne nDT]; exact hD5), by rw [List.length_map]; exact small1000 (by omega), os ++ [r.toNat], fun b o nb hb => ?_, ?_, ?_, ?_, ?_⟩
      · rw [upd_ne (ne_of_none hb hD)]
        exact sameT_put _ b o nb (sm5 b o nb hb)
      · have t2 := tp5.put i2 c2
        obtain ⟨x1, x2, t3⟩ := t2.at_
        refine ⟨⟨x1, x2, by rw [upd_ne nDT.symm]; exact t3⟩, ?_⟩
        rw [upd_ne (ne_of_none tn4.tp.scr hD)]
        exact t2.scr
      · rw [upd_same, List.map_append]
        show _ = some (HO.lst (os.map natV ++ [V.int ((r.toNat : Nat) : Int)]))
        rw [Int.toNat_of_nonneg r0]
      · rw [List.length_append, lo]
        rfl
      · intro k hk
        rcases List.mem_append.mp hk with hk | hk
        · exact mo k hk
        · rw [List.mem_singleton.mp hk]
          omega
    · rintro H5 ⟨os, sm5, tp5, hD5, lo, mo⟩
      rw [List.length_map] at lo
      have nO : Nums bs rs os := ⟨mo, by rw [lo, liftedM_len]⟩
      have tn5 : Tn H5 T S p rd ns bs rs := ⟨tp5, tn4.hp.sameT sm5 npT, sm5 _ _ nrT tn4.hr, bsOk, b5, r9, mrs⟩
      have hnn5 := sm5 _ _ nnT hnn
      have nDT : D ≠ T := by
        obtain ⟨o, ho⟩ := tn4.tp.taken
        exact new_ne ho hD
      -- near
      refine ⟨_, rfl, nn, _, rfl, .inl (sql hnn5), fun nr hnr => ?_⟩
      have s6 := same_new hnr (.lst ((liftedM bs rs).map natV))
      have tn6 := tn5.same s6
      have hnn6 := s6 _ _ hnn5
      have hD6 := s6 _ _ hD5
      have hnr6 : upd H5 nr (.lst ((liftedM bs rs).map natV)) nr = some (.lst ((liftedM bs rs).map natV)) := upd_same
      have nrn : nn ≠ nr := ne_of_none hnn5 hnr
      have nDn : D ≠ nr := ne_of_none hD5 hnr
      have nrT2 : nr ≠ T := by
        obtain ⟨o, ho⟩ := tp5.taken
        exact new_ne ho hnr
      have npn : p ≠ nr := tn5.hp.taken hnr
      have nrdn : rd ≠ nr := ne_of_none tn5.hr hnr
      have nSn : S ≠ nr := ne_of_none tn5.tp.scr hnr
      generalize upd H5 nr (.lst ((liftedM bs rs).map natV)) = H6 at tn6 hnn6 hD6 hnr6 ⊢
      refine ⟨fun σ H' => ∃ ms : List Nat, σ = [some (.ref a), some (.ref T), some (.int (0 + (i : Int))), some (.ref p), some (.ref rd), some (.ref nn), some (.ref D), some (.ref nr), y8, y9, y10, none, none] ∧ Tn H' T S p rd ns bs rs ∧
        H' nn = some (.lst ((liftedM bs rs).map natV)) ∧ H' D = some (.lst (os.map natV)) ∧ H' nr = some (.lst (ms.map natV)) ∧ Nums bs rs ms, ?_, ?_⟩
      · refine ⟨_, rfl, Nat.zero_le _, fun N0 hN0 => ?_⟩
        have s7 := same_new hN0 (.lst [])
        have f1 := fineN (ns := liftedM bs rs) (by omega) 0
        refine ⟨.list ((liftedM bs rs).map fun k => PyData.int (k : Nat)), .list (([] : List Nat).map fun k => PyData.int (k : Nat)), .lst (sql (s7 _ _ hnr6)) (dpAll_nats _), .lst (sql upd_same) .nil, fine_shaped (n := 1) f1 (by decide), by decide +kernel, _, rfl, ?_⟩
        rw [eqvL_nats]
        have tn7 := tn6.same s7
        have hnn7 := s7 _ _ hnn6
        have hD7 := s7 _ _ hD6
        have hnr7 := s7 _ _ hnr6
        generalize upd H6 N0 (.lst []) = H7 at tn7 hnn7 hD7 hnr7 ⊢
        refine ite2 (fun c => ?_) (fun c => ?_)
        · have ne : liftedM bs rs ≠ [] := fun z => by
            rw [decide_eq_true z] at c
            cases c
          have l1 : 0 < (liftedM bs rs).length := List.length_pos_iff.mpr ne
          refine ⟨_, rfl, _, rfl, p, _, rfl, .inr tn7.hp.sqt, T, S, ns, _, rfl, tn7.tp, by rw [lb]; omega, by rw [lb]; omega, fun r i2 c2 r0 r1 => ?_⟩
          rw [lb] at r1
          have tp8 := tn7.tp.put i2 c2
          have sm8 : SameT T H7 (upd H7 T (.lst [.ref S, .int i2, .int c2])) := sameT_put _
          generalize upd H7 T (.lst [.ref S, .int i2, .int c2]) = H8 at tp8 sm8 ⊢
          refine ⟨_, rfl, _, rfl, _, rfl, nr, _, rfl, .inl (sql (sm8 _ _ nrT2 hnr7)), T, S, ns, _, rfl, tp8, by rw [List.length_map]; omega, by rw [List.length_map]; omega, fun r2 i3 c3 v0 v1 => ?_⟩
          rw [List.length_map] at v1
          have tp9 := tp8.put i3 c3
          have sm9 : SameT T H7 (upd H8 T (.lst [.ref S, .int i3, .int c3])) := sm8.trans (sameT_put _)
          generalize upd H8 T (.lst [.ref S, .int i3, .int c3]) = H9 at tp9 sm9 ⊢
          have hnr9 := sm9 _ _ nrT2 hnr7
          refine ⟨nr, _, r2, r2.toNat, rfl, rfl, hnr9, ixN_nat v0 (by rw [List.length_map]; exact v1), (liftedM bs rs).set r2.toNat r.toNat, rfl, ?_, ?_, ?_, ?_, ?_⟩
          · obtain ⟨x1, x2, t3⟩ := tp9.at_
            refine ⟨⟨⟨x1, x2, by rw [upd_ne nrT2.symm]; exact t3⟩, by rw [upd_ne nSn]; exact tp9.scr⟩, ?_, ?_, bsOk, b5, r9, mrs⟩
            · exact (tn7.hp.sameT sm9 npT).move fun u hu => by rw [upd_ne npn]; exact hu
            · rw [upd_ne nrdn]
              exact sm9 _ _ nrT tn7.hr
          · rw [upd_ne nrn]
            exact sm9 _ _ nnT hnn7
          · rw [upd_ne nDn]
            exact sm9 _ _ nDT hD7
          · rw [upd_same, List.map_set]
            show _ = some (HO.lst (((liftedM bs rs).map natV).set r2.toNat (V.int ((r.toNat : Nat) : Int))))
            rw [Int.toNat_of_nonneg r0]
          · refine ⟨fun k hk => ?_, by rw [List.length_set, liftedM_len]⟩
            rcases List.mem_or_eq_of_mem_set hk with hk | hk
            · exact nums.lt k hk
            · rw [hk]
              omega
        · exact ⟨_, rfl, tn7, hnn7, hD7, hnr7, nums⟩
      · rintro σ H7 ⟨ms, rfl, tn7, hnn7, hD7, hnr7, nM⟩
        have okB : ∀ b ∈ bs, PyData.strOk b = true := fun b hb => books_ok b (bsOk.ok b hb)
        refine ⟨fun σ H' => ∃ y8 y9 : Option V, σ = [some (.ref a), some (.ref T), some (.int (0 + (i : Int))), some (.ref p), some (.ref rd), some (.ref nn), some (.ref D), some (.ref nr), y8, y9, y10, none, none] ∧ Same H7 H', ?_, ?_⟩
        · refine ⟨_, rfl, _, rfl, _, rfl, (by show 3 ≤ sizeLine; decide), fun Z hZ => ?_⟩
          have s8 := same_new hZ (.lst [V.ref nn, V.ref D, V.ref nr])
          have hZ8 : upd H7 Z (.lst [V.ref nn, V.ref D, V.ref nr]) Z = some (.lst [V.ref nn, V.ref D, V.ref nr]) := upd_same
          generalize upd H7 Z (.lst [V.ref nn, V.ref D, V.ref nr]) = H8 at s8 hZ8 ⊢
          refine ⟨Z, rfl, ⟨_, sql hZ8⟩, for_list (K := K) (a := Z) (xs := [V.ref nn, V.ref D, V.ref nr])
            (fun j σ H' => ∃ y8 y9 : Option V, σ = [some (.ref a), some (.ref T), some (.int (0 + (i : Int))), some (.ref p), some (.ref rd), some (.ref nn), some (.ref D), some (.ref nr), y8, y9, y10, none, none] ∧ Same H8 H')
            ⟨y8, y9, rfl, fun _ _ h => h⟩ (fun j σ H' _ ⟨_, _, _, s'⟩ => sql (s' _ _ hZ8)) ?_ ?_⟩
          · rintro j x σ H9 hx ⟨y8, y9, rfl, s9⟩
            obtain ⟨m, ks, rfl, hm, nK⟩ : ∃ (m : Addr) (ks : List Nat), x = .ref m ∧ H7 m = some (.lst (ks.map natV)) ∧ Nums bs rs ks := by
              match j, hx with
              | 0, hx => cases hx; exact ⟨nn, _, rfl, hnn7, nums⟩
              | 1, hx => cases hx; exact ⟨D, os, rfl, hD7, nO⟩
              | 2, hx => cases hx; exact ⟨nr, ms, rfl, hnr7, nM⟩
              | j + 3, hx => simp at hx
            have s79 := s8.trans s9
            have tn9 := tn7.same s79
            have kl : ks.length ≤ 9 := by rw [nK.len]; exact r9
            refine ⟨_, rfl, p, bs, rfl, tn9.hp.sqt, by omega, fun ys yl pm so hyl => ?_⟩
            have ly : ys.length = bs.length := pm.length_eq
            have s10 := same_new hyl (.lst (ys.map V.str))
            have rises := sorted_lt (pm.nodup_iff.mpr bsOk.nd) so
            refine ⟨yl, ys, rfl, upd_same, by omega, by omega, (fun b hb => okB b (pm.mem_iff.mp hb)), fun ol H11 us s11 nol hol ul => ?_⟩
            have s911 := s10.trans s11
            have tn11 := tn9.same s911
            have sm11 := s79.trans s911
            have ol1 := ordL_len ys.length ys rfl
            have ol2 := fac_le (n := ys.length) (by omega)
            have okO : ∀ r ∈ ordL ys.length ys, r.Perm bs := fun r hr' => ((ordL_mem _ _ rfl r).mp hr').trans pm
            have piles := fun (cs : List (List Str)) pc sc => piles_one (bs := bs) (rs := rs) (ys := ys) (ns := ks) (cs := cs) bsOk.nd mrs pm rises pc sc
            generalize ordL ys.length ys = ros at ul ol1 okO piles
            refine ⟨ol, rfl, ⟨_, sql hol⟩, fun D2 hD2 => lc_list (K := K) (a := ol) (xs := us.map V.ref)
              (fun l H' => ∃ vs : List Addr, Same H11 H' ∧ H' D2 = some (.lst (vs.map V.ref)) ∧ TupL H11 vs ((ros.take l).filter (fits rs ks)))
              ⟨[], same_new hD2 _, upd_same, by rw [List.take_zero]; exact TupL.nil _⟩ (fun l H' _ ⟨_, s', _⟩ => s'.seq (sql hol)) ?_ ?_⟩
            · rintro l x H12 hx12 ⟨vs, s12, hD12, vl⟩
              obtain ⟨t, r, rfl, et, er, ht⟩ := ul.get hx12
              have pr := okO r (List.mem_of_getElem? er)
              have tn12 := tn11.same s12
              refine ⟨rfl, _, rfl, _, rfl, t, rd, r, rs, rfl, ht.same s12, tn12.hr, by rw [pr.length_eq]; omega, by omega, (fun c hc => pr.mem_iff.mpr (mrs c hc)), fun tt an n2 ro H13 ps s13 htt _ hn2 _ _ => ?_⟩
              have f1 := fineN (ns := liftedM r rs) (by rw [liftedM_len]; omega) 0
              have f2 := fineN (ns := ks) (by omega) 0
              refine ⟨tt, _, _, _, rfl, rfl, sqt htt, at_of (j := 1) rfl rfl, _, rfl, _, _, .lst (sql hn2) (dpAll_nats _), .lst (sql (s13 _ _ (s12 _ _ (sm11 _ _ hm)))) (dpAll_nats ks), fine_shaped (n := 1) f1 (by decide), fine_shaped (n := 1) f2 (by decide), _, rfl, ?_⟩
              rw [eqvL_nats, List.take_add_one, er, List.filter_append]
              refine ite2 (fun c => ?_) (fun c => ?_)
              · refine ⟨_, rfl, _, s13 _ _ hD12, ?_, vs ++ [t], same_put (s12.trans s13) hD2, by rw [upd_same, List.map_append]; rfl, ?_⟩
                · have z := List.length_filter_le (fits rs ks) (ros.take l)
                  rw [List.length_take] at z
                  rw [List.length_map, vl.1]
                  exact small1000 (by omega)
                · refine vl.app ?_
                  show TupL H11 [t] ([r].filter (fits rs ks))
                  rw [filt_y (p := fits rs ks) c]
                  exact TupL.one ht
              · refine ⟨vs, s12.trans s13, s13 _ _ hD12, ?_⟩
                show TupL H11 vs (_ ++ [r].filter (fits rs ks))
                rw [filt_n (p := fits rs ks) c, List.append_nil]
                exact vl
            · rintro H12 ⟨vs, s12, hD12, vl⟩
              rw [List.length_map, ul.1, List.take_length] at vl
              have tn12 := tn11.same s12
              have sm12 := sm11.trans s12
              refine ⟨_, rfl, _, rfl, _, rfl, p, rd, m, bs, rs, ks, rfl, tn12.hp, tn12.hr, sm12 _ _ hm, bsOk.nd, b0, b5, by omega, mrs, nK.lt, by omega, fun tl H13 us2 cs s13 ntl htl cl pc sc => ?_⟩
              have ec := piles cs pc sc
              have fF : Fine 2 (.list ((ros.filter (fits rs ks)).map fun r => .tuple (r.map PyData.str))) := rowsFine (Nat.le_trans (List.length_filter_le _ _) (by omega)) (fun r hr' => by
                have pr := okO r (List.mem_filter.mp hr').1
                exact ⟨by rw [pr.length_eq]; omega, fun b hb => okB b (pr.mem_iff.mp hb)⟩) 0
              subst ec
              refine ⟨_, rfl, _, _, _, 2, rfl, rfl, .lst (sql htl) cl.dp, .lst (sql (s13 _ _ hD12)) (vl.move (s12.trans s13)).dp, fF, fun H14 s14 => ⟨true, rfl, ?_⟩⟩
              exact ⟨some (.ref m), some (.ref D2), rfl, s9.trans (s911.trans (s12.trans (s13.trans s14)))⟩
          · rintro σ H9 ⟨y8, y9, rfl, s9⟩
            exact ⟨y8, y9, rfl, s8.trans s9⟩
        · rintro σ H8 ⟨y8, y9, rfl, s8⟩
          have tn8 := tn7.same s8
          obtain ⟨ys, pm, rises⟩ : ∃ ys : List Str, ys.Perm bs ∧ ys.Pairwise ltS := by
            refine ⟨books.filter fun z => decide (z ∈ bs), ?_, books_rise.sublist List.filter_sublist⟩
            rw [List.perm_ext_iff_of_nodup (books_nd.sublist List.filter_sublist) bsOk.nd]
            intro z
            rw [List.mem_filter]
            exact ⟨fun h => by simpa using h.2, fun h => ⟨bsOk.ok z h, by simpa using h⟩⟩
          refine ⟨_, rfl, _, rfl, _, rfl, p, rd, nn, bs, rs, liftedM bs rs, rfl, tn8.hp, tn8.hr, s8 _ _ hnn7, bsOk.nd, b0, b5, by omega, mrs, nums.lt, by omega, fun tl H9 us cs s9 ntl htl cl pc sc => ?_⟩
          have ec := piles_one (bs := bs) (rs := rs) (ys := ys) (ns := liftedM bs rs) (cs := cs) bsOk.nd mrs pm rises pc sc
          have self : bs ∈ cs := by rw [ec]; exact piles_self mrs pm
          have okC : ∀ r ∈ cs, r.Perm bs := fun r hr' => by
            rw [ec] at hr'
            exact ((ordL_mem _ _ rfl r).mp (List.mem_filter.mp hr').1).trans pm
          have lc : cs.length ≤ 1000 := by
            rw [ec]
            have z := ordL_len ys.length ys rfl
            have z2 := fac_le (n := ys.length) (by rw [pm.length_eq]; exact b5)
            exact Nat.le_trans (List.length_filter_le _ _) (by omega)
          have tn9 := tn8.same s9
          have fB := fine_strs (ss := bs) (by omega) okB 0
          have fC : Fine 2 (.list (cs.map fun r => .tuple (r.map PyData.str))) := rowsFine lc (fun r hr' => ⟨by rw [(okC r hr').length_eq]; omega, fun b hb => okB b ((okC r hr').mem_iff.mp hb)⟩) 0
          refine ⟨_, rfl, _, rfl, .tuple (bs.map PyData.str), _, .tup tn9.hp.sqt (dpAll_strs bs), .lst (sql htl) cl.dp, fine_shaped (n := 1) fB (by decide), fine_shaped (n := 2) fC (by decide), false, by rw [any_row self okB (by omega)]; rfl, ?_⟩
          refine ⟨_, rfl, rd, rs, rfl, sql tn9.hr, by omega, _, rfl, p, _, rfl, .inr tn9.hp.sqt, _, _, rfl, rfl, _, _, rfl, rfl, _, rfl, ite2 (fun c => ?_) (fun _ => ?_)⟩
          · have c' : bs.length - 1 ≤ dist rs := by
              have z := of_decide_eq_true c
              rw [lb] at z
              omega
            have e1 : cs = [bs] := by rw [ec]; exact piles_sole bsOk.nd mrs pm rises c'
            subst e1
            refine ⟨_, rfl, _, rfl, (by show 1 ≤ sizeLine; decide), fun W hW => ?_⟩
            have s10 := same_new hW (.lst [V.ref p])
            have d1 : Dp K (upd H9 W (.lst [V.ref p])) (.ref tl) (.list [.tuple (bs.map PyData.str)]) := .lst (sql (s10 _ _ htl)) (cl.move s10).dp
            have d2 : Dp K (upd H9 W (.lst [V.ref p])) (.ref W) (.list [.tuple (bs.map PyData.str)]) := .lst (sql upd_same) (.cons (.tup (tn9.hp.same s10).sqt (dpAll_strs _)) .nil)
            refine ⟨_, _, d1, d2, fine_shaped (n := 2) fC (by decide), fine_shaped (n := 2) fC (by decide), false, by rw [show PyData.eqv (.list [.tuple (bs.map PyData.str)]) (.list [.tuple (bs.map PyData.str)]) = true from fine_eqv (n := 2) fC]; rfl, ?_⟩
            exact ⟨_, _, _, _, _, _, _, _, _, rfl, (tn9.same s10).tp⟩
          · exact ⟨_, _, _, _, _, _, _, _, _, rfl, tn9.tp⟩
  · rintro σ H' ⟨y2, y3, y4, y5, y6, y7, y8, y9, y10, rfl, tp⟩
    exact q _
end
end Lt

set_option Elab.async false
set_option linter.all false
set_option maxRecDepth 100000
set_option maxHeartbeats 4000000
namespace Lt
open PySem PySem.Spec PyProof.Rows L2
theorem all_mk {l : PySem.W.OpenLaw} {w : World} {K : PySem.W.Frag} {h : Heap} {mg : Str → Option Value} {fa f0 f1 f2 f3 f4 f5 f6 f7 f8 f9 f10 f11 f12 f13 f14 f15 f16 : Addr} (X : K.In h) (G : h.Ns mainGlobals mg) (hfa : mg "law" = some (.ref fa))
    {od0 an0 od1 an1 od2 an2 od3 an3 od4 an4 od5 an5 od6 an6 od7 an7 od8 an8 od9 an9 od10 an10 od11 an11 od12 an12 od13 an13 od14 an14 od15 an15 od16 an16 : Option Addr} {sl0 sl1 sl2 sl3 sl4 sl5 sl6 sl7 sl8 sl9 sl10 sl11 sl12 sl13 sl14 sl15 sl16 : Array (Option Value)}
    {oc0 kv0 dc0 pm0 cd0 ct0 oc1 kv1 dc1 pm1 cd1 ct1 oc2 kv2 dc2 pm2 cd2 ct2 oc3 kv3 dc3 pm3 cd3 ct3 oc4 kv4 dc4 pm4 cd4 ct4 oc5 kv5 dc5 pm5 cd5 ct5 oc6 kv6 dc6 pm6 cd6 ct6 oc7 kv7 dc7 pm7 cd7 ct7 oc8 kv8 dc8 pm8 cd8 ct8 oc9 kv9 dc9 pm9 cd9 ct9 oc10 kv10 dc10 pm10 cd10 ct10 oc11 kv11 dc11 pm11 cd11 ct11 oc12 kv12 dc12 pm12 cd12 ct12 oc13 kv13 dc13 pm13 cd13 ct13 oc14 kv14 dc14 pm14 cd14 ct14 oc15 kv15 dc15 pm15 cd15 ct15 oc16 kv16 dc16 pm16 cd16 ct16 : Value}
    (a0 : PySem.W.nsIn K mainGlobals "behind" = some (some (.ref f0)))
    (l0 : K.lookup f0 = some ⟨oc0, od0, .func (PySem.W.fnOf "behind" "behind" (defArgs sBehind) (defBody sBehind) (defScope sBehind) .none kv0 dc0 pm0 an0 cd0 ct0), sl0⟩)
    (c0 : PySem.W.codeIn K cd0 "behind" = true) (k0 : PySem.W.keepIn K (.ref f0) = true)
    (a1 : PySem.W.nsIn K mainGlobals "lifted" = some (some (.ref f1)))
    (l1 : K.lookup f1 = some ⟨oc1, od1, .func (PySem.W.fnOf "lifted" "lifted" (defArgs sLifted) (defBody sLifted) (defScope sLifted) .none kv1 dc1 pm1 an1 cd1 ct1), sl1⟩)
    (c1 : PySem.W.codeIn K cd1 "lifted" = true) (k1 : PySem.W.keepIn K (.ref f1) = true)
    (a2 : PySem.W.nsIn K mainGlobals "laid_on_top" = some (some (.ref f2)))
    (l2 : K.lookup f2 = some ⟨oc2, od2, .func (PySem.W.fnOf "laid_on_top" "laid_on_top" (defArgs sLaid) (defBody sLaid) (defScope sLaid) .none kv2 dc2 pm2 an2 cd2 ct2), sl2⟩)
    (c2 : PySem.W.codeIn K cd2 "laid_on_top" = true) (k2 : PySem.W.keepIn K (.ref f2) = true)
    (a3 : PySem.W.nsIn K mainGlobals "undone" = some (some (.ref f3)))
    (l3 : K.lookup f3 = some ⟨oc3, od3, .func (PySem.W.fnOf "undone" "undone" (defArgs sUndone) (defBody sUndone) (defScope sUndone) .none kv3 dc3 pm3 an3 cd3 ct3), sl3⟩)
    (c3 : PySem.W.codeIn K cd3 "undone" = true) (k3 : PySem.W.keepIn K (.ref f3) = true)
    (a4 : PySem.W.nsIn K mainGlobals "piles_for" = some (some (.ref f4)))
    (l4 : K.lookup f4 = some ⟨oc4, od4, .func (PySem.W.fnOf "piles_for" "piles_for" (defArgs sPilesFor) (defBody sPilesFor) (defScope sPilesFor) .none kv4 dc4 pm4 an4 cd4 ct4), sl4⟩)
    (c4 : PySem.W.codeIn K cd4 "piles_for" = true) (k4 : PySem.W.keepIn K (.ref f4) = true)
    (a5 : PySem.W.nsIn K mainGlobals "liftable" = some (some (.ref f5)))
    (l5 : K.lookup f5 = some ⟨oc5, od5, .func (PySem.W.fnOf "liftable" "liftable" (defArgs sLiftable) (defBody sLiftable) (defScope sLiftable) .none kv5 dc5 pm5 an5 cd5 ct5), sl5⟩)
    (c5 : PySem.W.codeIn K cd5 "liftable" = true) (k5 : PySem.W.keepIn K (.ref f5) = true)
    (a6 : PySem.W.nsIn K mainGlobals "put_back" = some (some (.ref f6)))
    (l6 : K.lookup f6 = some ⟨oc6, od6, .func (PySem.W.fnOf "put_back" "put_back" (defArgs sPut) (defBody sPut) (defScope sPut) .none kv6 dc6 pm6 an6 cd6 ct6), sl6⟩)
    (c6 : PySem.W.codeIn K cd6 "put_back" = true) (k6 : PySem.W.keepIn K (.ref f6) = true)
    (a7 : PySem.W.nsIn K mainGlobals "orders_of" = some (some (.ref f7)))
    (l7 : K.lookup f7 = some ⟨oc7, od7, .func (PySem.W.fnOf "orders_of" "orders_of" (defArgs sOrdersOf) (defBody sOrdersOf) (defScope sOrdersOf) .none kv7 dc7 pm7 an7 cd7 ct7), sl7⟩)
    (c7 : PySem.W.codeIn K cd7 "orders_of" = true) (k7 : PySem.W.keepIn K (.ref f7) = true)
    (a8 : PySem.W.nsIn K mainGlobals "_law_draw" = some (some (.ref f8)))
    (l8 : K.lookup f8 = some ⟨oc8, od8, .func (PySem.W.fnOf "_law_draw" "_law_draw" (defArgs sDraw) (defBody sDraw) (defScope sDraw) .none kv8 dc8 pm8 an8 cd8 ct8), sl8⟩)
    (c8 : PySem.W.codeIn K cd8 "_law_draw" = true) (k8 : PySem.W.keepIn K (.ref f8) = true)
    (a9 : PySem.W.nsIn K mainGlobals "_law_like" = some (some (.ref f9)))
    (l9 : K.lookup f9 = some ⟨oc9, od9, .func (PySem.W.fnOf "_law_like" "_law_like" (defArgs sLike) (defBody sLike) (defScope sLike) .none kv9 dc9 pm9 an9 cd9 ct9), sl9⟩)
    (c9 : PySem.W.codeIn K cd9 "_law_like" = true) (k9 : PySem.W.keepIn K (.ref f9) = true)
    (a10 : PySem.W.nsIn K mainGlobals "_law_any_order" = some (some (.ref f10)))
    (l10 : K.lookup f10 = some ⟨oc10, od10, .func (PySem.W.fnOf "_law_any_order" "_law_any_order" (defArgs sOrder) (defBody sOrder) (defScope sOrder) .none kv10 dc10 pm10 an10 cd10 ct10), sl10⟩)
    (c10 : PySem.W.codeIn K cd10 "_law_any_order" = true) (k10 : PySem.W.keepIn K (.ref f10) = true)
    (a11 : PySem.W.nsIn K mainGlobals "_law_books" = some (some (.ref f11)))
    (l11 : K.lookup f11 = some ⟨oc11, od11, .func (PySem.W.fnOf "_law_books" "_law_books" (defArgs sBooks) (defBody sBooks) (defScope sBooks) .none kv11 dc11 pm11 an11 cd11 ct11), sl11⟩)
    (c11 : PySem.W.codeIn K cd11 "_law_books" = true) (k11 : PySem.W.keepIn K (.ref f11) = true)
    (a12 : PySem.W.nsIn K mainGlobals "_law_pile" = some (some (.ref f12)))
    (l12 : K.lookup f12 = some ⟨oc12, od12, .func (PySem.W.fnOf "_law_pile" "_law_pile" (defArgs sPile) (defBody sPile) (defScope sPile) .none kv12 dc12 pm12 an12 cd12 ct12), sl12⟩)
    (c12 : PySem.W.codeIn K cd12 "_law_pile" = true) (k12 : PySem.W.keepIn K (.ref f12) = true)
    (a13 : PySem.W.nsIn K mainGlobals "_law_readings" = some (some (.ref f13)))
    (l13 : K.lookup f13 = some ⟨oc13, od13, .func (PySem.W.fnOf "_law_readings" "_law_readings" (defArgs sReadings) (defBody sReadings) (defScope sReadings) .none kv13 dc13 pm13 an13 cd13 ct13), sl13⟩)
    (c13 : PySem.W.codeIn K cd13 "_law_readings" = true) (k13 : PySem.W.keepIn K (.ref f13) = true)
    (a14 : PySem.W.nsIn K mainGlobals "_law_read" = some (some (.ref f14)))
    (l14 : K.lookup f14 = some ⟨oc14, od14, .func (PySem.W.fnOf "_law_read" "_law_read" (defArgs sRead) (defBody sRead) (defScope sRead) .none kv14 dc14 pm14 an14 cd14 ct14), sl14⟩)
    (c14 : PySem.W.codeIn K cd14 "_law_read" = true) (k14 : PySem.W.keepIn K (.ref f14) = true)
    (a15 : PySem.W.nsIn K mainGlobals "_law_orders" = some (some (.ref f15)))
    (l15 : K.lookup f15 = some ⟨oc15, od15, .func (PySem.W.fnOf "_law_orders" "_law_orders" (defArgs sOrders) (defBody sOrders) (defScope sOrders) .none kv15 dc15 pm15 an15 cd15 ct15), sl15⟩)
    (c15 : PySem.W.codeIn K cd15 "_law_orders" = true) (k15 : PySem.W.keepIn K (.ref f15) = true)
    (a16 : PySem.W.nsIn K mainGlobals "law" = some (some (.ref f16)))
    (l16 : K.lookup f16 = some ⟨oc16, od16, .func (PySem.W.fnOf "law" "law" (defArgs sLaw) (defBody sLaw) (defScope sLaw) .none kv16 dc16 pm16 an16 cd16 ct16), sl16⟩)
    (c16 : PySem.W.codeIn K cd16 "law" = true) (k16 : PySem.W.keepIn K (.ref f16) = true)
    (z0 : PySem.W.nsIn K mainGlobals "len" = some none)
    (z1 : PySem.W.nsIn K mainGlobals "range" = some none)
    (z2 : PySem.W.nsIn K mainGlobals "tuple" = some none)
    (z3 : PySem.W.nsIn K mainGlobals "list" = some none)
    (z4 : PySem.W.nsIn K mainGlobals "sorted" = some none)
    (z5 : PySem.W.nsIn K mainGlobals "enumerate" = some none)
    (z6 : PySem.W.nsIn K mainGlobals "isinstance" = some none)
    (z7 : PySem.W.nsIn K mainGlobals "bool" = some none)
    (z8 : PySem.W.nsIn K mainGlobals "set" = some none)
    (z9 : PySem.W.nsIn K mainGlobals "sum" = some none)
    (z10 : PySem.W.nsIn K mainGlobals "min" = some none)
    (z11 : PySem.W.nsIn K mainGlobals "max" = some none)
    (z12 : PySem.W.nsIn K mainGlobals "dict" = some none)
    (z13 : PySem.W.nsIn K mainGlobals "reversed" = some none)
    (z14 : PySem.W.nsIn K mainGlobals "all" = some none)
    (z15 : PySem.W.nsIn K mainGlobals "any" = some none)
    (z16 : PySem.W.nsIn K mainGlobals "int" = some none)
    (z17 : PySem.W.nsIn K mainGlobals "str" = some none)
    (z18 : PySem.W.nsIn K mainGlobals "zip" = some none)
    : ∃ fd : FuncData, (∀ (s : Shared) (v : Value), BindsTo s fd ⟨[v], []⟩ [("script", v)]) ∧ ∀ base : Heap, K.In base → base.Ns mainGlobals mg → FnOk l.prog w K mg base CX0 7 fa fd ["script"] (spLaw K) := by
  have e := hfa.symm.trans (PySem.W.mg_of X G a16)
  cases e
  have B : Bi mg := ⟨PySem.W.mg_none_of X G z0, PySem.W.mg_none_of X G z1, PySem.W.mg_none_of X G z2, PySem.W.mg_none_of X G z3, PySem.W.mg_none_of X G z4, PySem.W.mg_none_of X G z5, PySem.W.mg_none_of X G z6, PySem.W.mg_none_of X G z7, PySem.W.mg_none_of X G z8, PySem.W.mg_none_of X G z9, PySem.W.mg_none_of X G z10, PySem.W.mg_none_of X G z11, PySem.W.mg_none_of X G z12, PySem.W.mg_none_of X G z13, PySem.W.mg_none_of X G z14, PySem.W.mg_none_of X G z15, PySem.W.mg_none_of X G z16, PySem.W.mg_none_of X G z17, PySem.W.mg_none_of X G z18⟩
  have F0 := fun_mk (st := sBehind) l0 c0 k0
  have b0 := F0.binds (ps := ["pile", "readings"]) fun _ _ _ _ _ _ us hl => match us, hl with | [_, _], _ => rfl
  have g0 := PySem.W.mg_of X G a0
  have F1 := fun_mk (st := sLifted) l1 c1 k1
  have b1 := F1.binds (ps := ["pile", "readings"]) fun _ _ _ _ _ _ us hl => match us, hl with | [_, _], _ => rfl
  have g1 := PySem.W.mg_of X G a1
  have F2 := fun_mk (st := sLaid) l2 c2 k2
  have b2 := F2.binds (ps := ["pile", "book"]) fun _ _ _ _ _ _ us hl => match us, hl with | [_, _], _ => rfl
  have g2 := PySem.W.mg_of X G a2
  have F3 := fun_mk (st := sUndone) l3 c3 k3
  have b3 := F3.binds (ps := ["pile", "numbers"]) fun _ _ _ _ _ _ us hl => match us, hl with | [_, _], _ => rfl
  have g3 := PySem.W.mg_of X G a3
  have F4 := fun_mk (st := sPilesFor) l4 c4 k4
  have b4 := F4.binds (ps := ["pile", "readings", "numbers"]) fun _ _ _ _ _ _ us hl => match us, hl with | [_, _, _], _ => rfl
  have g4 := PySem.W.mg_of X G a4
  have F5 := fun_mk (st := sLiftable) l5 c5 k5
  have b5 := F5.binds (ps := ["pile", "numbers"]) fun _ _ _ _ _ _ us hl => match us, hl with | [_, _], _ => rfl
  have g5 := PySem.W.mg_of X G a5
  have F6 := fun_mk (st := sPut) l6 c6 k6
  have b6 := F6.binds (ps := ["pile", "number"]) fun _ _ _ _ _ _ us hl => match us, hl with | [_, _], _ => rfl
  have g6 := PySem.W.mg_of X G a6
  have F7 := fun_mk (st := sOrdersOf) l7 c7 k7
  have b7 := F7.binds (ps := ["books"]) fun _ _ _ _ _ _ us hl => match us, hl with | [_], _ => rfl
  have g7 := PySem.W.mg_of X G a7
  have F8 := fun_mk (st := sDraw) l8 c8 k8
  have b8 := F8.binds (ps := ["tape", "many"]) fun _ _ _ _ _ _ us hl => match us, hl with | [_, _], _ => rfl
  have g8 := PySem.W.mg_of X G a8
  have F9 := fun_mk (st := sLike) l9 c9 k9
  have b9 := F9.binds (ps := ["one", "two"]) fun _ _ _ _ _ _ us hl => match us, hl with | [_, _], _ => rfl
  have g9 := PySem.W.mg_of X G a9
  have F10 := fun_mk (st := sOrder) l10 c10 k10
  have b10 := F10.binds (ps := ["tape", "many"]) fun _ _ _ _ _ _ us hl => match us, hl with | [_, _], _ => rfl
  have g10 := PySem.W.mg_of X G a10
  have F11 := fun_mk (st := sBooks) l11 c11 k11
  have b11 := F11.binds (ps := []) fun _ _ _ _ _ _ us hl => match us, hl with | [], _ => rfl
  have g11 := PySem.W.mg_of X G a11
  have F12 := fun_mk (st := sPile) l12 c12 k12
  have b12 := F12.binds (ps := ["tape", "size"]) fun _ _ _ _ _ _ us hl => match us, hl with | [_, _], _ => rfl
  have g12 := PySem.W.mg_of X G a12
  have F13 := fun_mk (st := sReadings) l13 c13 k13
  have b13 := F13.binds (ps := ["tape", "books", "size"]) fun _ _ _ _ _ _ us hl => match us, hl with | [_, _, _], _ => rfl
  have g13 := PySem.W.mg_of X G a13
  have F14 := fun_mk (st := sRead) l14 c14 k14
  have b14 := F14.binds (ps := ["pile", "readings"]) fun _ _ _ _ _ _ us hl => match us, hl with | [_, _], _ => rfl
  have g14 := PySem.W.mg_of X G a14
  have F15 := fun_mk (st := sOrders) l15 c15 k15
  have b15 := F15.binds (ps := ["books"]) fun _ _ _ _ _ _ us hl => match us, hl with | [_], _ => rfl
  have g15 := PySem.W.mg_of X G a15
  have F16 := fun_mk (st := sLaw) l16 c16 k16
  refine ⟨PySem.W.fnOf "law" "law" (defArgs sLaw) (defBody sLaw) (defScope sLaw) .none kv16 dc16 pm16 an16 cd16 ct16, fun s v => .of_eq rfl, fun base _ _ => ?_⟩
  have cD : Has l.prog w K mg base 1 "_law_draw" ["tape", "many"] spDraw := ⟨f8, _, ok_draw F8 B.len, g8, k8, b8⟩
  have cO : Has l.prog w K mg base 2 "_law_any_order" ["tape", "many"] spOrder := ⟨f10, _, ok_order F10 B cD, g10, k10, b10⟩
  have cB : Has l.prog w K mg base 1 "_law_books" [] spBooks := ⟨f11, _, ok_books F11, g11, k11, b11⟩
  have cPi : Has l.prog w K mg base 3 "_law_pile" ["tape", "size"] spPile := ⟨f12, _, ok_pile F12 B cD cO cB, g12, k12, b12⟩
  have cRe : Has l.prog w K mg base 2 "_law_readings" ["tape", "books", "size"] spReadings := ⟨f13, _, ok_readings F13 B cD, g13, k13, b13⟩
  have cRd : Has l.prog w K mg base 1 "_law_read" ["pile", "readings"] spRead := ⟨f14, _, ok_read F14 B, g14, k14, b14⟩
  have cLk : Has l.prog w K mg base 3 "_law_like" ["one", "two"] (spLike K 3) := ⟨f9, _, like_all F9 B g9 b9 3, g9, k9, b9⟩
  have cOd : Has l.prog w K mg base 6 "_law_orders" ["books"] (spOrds 6) := ⟨f15, _, ords_all F15 B g15 b15 6, g15, k15, b15⟩
  have cLd : Has l.prog w K mg base 1 "laid_on_top" ["pile", "book"] spLaid := ⟨f2, _, ok_laid F2, g2, k2, b2⟩
  have cBe : Has l.prog w K mg base 2 "behind" ["pile", "readings"] spBehind := ⟨f0, _, ok_behind F0 cLd, g0, k0, b0⟩
  have cLi : Has l.prog w K mg base 2 "lifted" ["pile", "readings"] spLifted := ⟨f1, _, ok_lifted F1 cLd, g1, k1, b1⟩
  have cPu : Has l.prog w K mg base 1 "put_back" ["pile", "number"] spPut := ⟨f6, _, ok_put F6, g6, k6, b6⟩
  have cLf : Has l.prog w K mg base 1 "liftable" ["pile", "numbers"] (spLiftable K) := ⟨f5, _, ok_liftable F5 B, g5, k5, b5⟩
  have cUn : Has l.prog w K mg base 2 "undone" ["pile", "numbers"] (spUndone K) := ⟨f3, _, ok_undone F3 B cPu cLf, g3, k3, b3⟩
  have cOf : Has l.prog w K mg base 1 "orders_of" ["books"] (spOrdersOf K) := ⟨f7, _, ok_ordersOf F7 B, g7, k7, b7⟩
  have cPf : Has l.prog w K mg base 3 "piles_for" ["pile", "readings", "numbers"] (spPilesFor K) := ⟨f4, _, ok_pilesFor F4 B cBe cLi cUn cOf, g4, k4, b4⟩
  exact ok_law F16 B cD cPi cRe cRd cOd cLk cPf
theorem walk {l : PySem.W.OpenLaw} {q : Program} {loose : List Str} {XP : (Str → Option Value) → Heap → Prop} {YP : World → Heap → Prop} {d : DefRec} {K : Params → PySem.W.Frag} (hn : l.most = some 63) (hdf : d.params.defaults = [])
    (hY : ∀ (w : World) (h : Heap), YP w h → (K w.params).In h)
    (F : ∀ (w : World) (mg : Str → Option Value) (fa : Addr) (h : Heap), (K w.params).In h → h.Ns mainGlobals mg → mg d.name = some (.ref fa) →
      ∃ fd : FuncData, (∀ (s : Shared) (u : Value), BindsTo s fd ⟨[u], []⟩ [("script", u)]) ∧ ∀ base : Heap, (K w.params).In base → base.Ns mainGlobals mg → FnOk l.prog w (K w.params) mg base CX0 7 fa fd ["script"] (spLaw (K w.params))) :
    PySem.W.WalkO q loose XP YP l.row.toRowW d [] (fun f vs => PySem.call f vs) :=
  L2.walk_of (n := 63) (k := 7) (x := "script") (CX := fun _ => CX0) (sp := fun w => spLaw (K w.params)) hn (by decide) hdf ⟨rfl, by decide, by decide⟩ hY F (fun _ _ a ns hl _ hS => ⟨a, ns, rfl, hS, hl, fun _ => rfl⟩) fun _ _ _ _ _ z => z
end Lt
open PySem PySem.W PyProof.Rows in
set_option maxRecDepth 100000 in
set_option maxHeartbeats 0 in
theorem PySem.Challenge.cw_laidontop_k08_first_piles_by_all_piles_holds : PySem.Challenge.rw_laidontop_k08_first_piles_by_all_piles.Holds := by
  w_on; o_law; k_head; (case hw => w_witness2)
  k_fill
  refine Lt.walk (l := PySem.Challenge.rw_laidontop_k08_first_piles_by_all_piles) rfl rfl (fun w h Y => PySem.W.kIn_of Y) ?F
  case F =>
    intro w mg fa h KX G hmg
    refine' Lt.all_mk KX G hmg ?a0 ?l0 ?c0 ?k0 ?a1 ?l1 ?c1 ?k1 ?a2 ?l2 ?c2 ?k2 ?a3 ?l3 ?c3 ?k3 ?a4 ?l4 ?c4 ?k4 ?a5 ?l5 ?c5 ?k5 ?a6 ?l6 ?c6 ?k6 ?a7 ?l7 ?c7 ?k7 ?a8 ?l8 ?c8 ?k8 ?a9 ?l9 ?c9 ?k9 ?a10 ?l10 ?c10 ?k10 ?a11 ?l11 ?c11 ?k11 ?a12 ?l12 ?c12 ?k12 ?a13 ?l13 ?c13 ?k13 ?a14 ?l14 ?c14 ?k14 ?a15 ?l15 ?c15 ?k15 ?a16 ?l16 ?c16 ?k16 ?z0 ?z1 ?z2 ?z3 ?z4 ?z5 ?z6 ?z7 ?z8 ?z9 ?z10 ?z11 ?z12 ?z13 ?z14 ?z15 ?z16 ?z17 ?z18
    (case a0 => k_is)
    (case l0 => k_is)
    (case c0 => k_is)
    (case k0 => k_is)
    (case a1 => k_is)
    (case l1 => k_is)
    (case c1 => k_is)
    (case k1 => k_is)
    (case a2 => k_is)
    (case l2 => k_is)
    (case c2 => k_is)
    (case k2 => k_is)
    (case a3 => k_is)
    (case l3 => k_is)
    (case c3 => k_is)
    (case k3 => k_is)
    (case a4 => k_is)
    (case l4 => k_is)
    (case c4 => k_is)
    (case k4 => k_is)
    (case a5 => k_is)
    (case l5 => k_is)
    (case c5 => k_is)
    (case k5 => k_is)
    (case a6 => k_is)
    (case l6 => k_is)
    (case c6 => k_is)
    (case k6 => k_is)
    (case a7 => k_is)
    (case l7 => k_is)
    (case c7 => k_is)
    (case k7 => k_is)
    (case a8 => k_is)
    (case l8 => k_is)
    (case c8 => k_is)
    (case k8 => k_is)
    (case a9 => k_is)
    (case l9 => k_is)
    (case c9 => k_is)
    (case k9 => k_is)
    (case a10 => k_is)
    (case l10 => k_is)
    (case c10 => k_is)
    (case k10 => k_is)
    (case a11 => k_is)
    (case l11 => k_is)
    (case c11 => k_is)
    (case k11 => k_is)
    (case a12 => k_is)
    (case l12 => k_is)
    (case c12 => k_is)
    (case k12 => k_is)
    (case a13 => k_is)
    (case l13 => k_is)
    (case c13 => k_is)
    (case k13 => k_is)
    (case a14 => k_is)
    (case l14 => k_is)
    (case c14 => k_is)
    (case k14 => k_is)
    (case a15 => k_is)
    (case l15 => k_is)
    (case c15 => k_is)
    (case k15 => k_is)
    (case a16 => k_is)
    (case l16 => k_is)
    (case c16 => k_is)
    (case k16 => k_is)
    (case z0 => k_is)
    (case z1 => k_is)
    (case z2 => k_is)
    (case z3 => k_is)
    (case z4 => k_is)
    (case z5 => k_is)
    (case z6 => k_is)
    (case z7 => k_is)
    (case z8 => k_is)
    (case z9 => k_is)
    (case z10 => k_is)
    (case z11 => k_is)
    (case z12 => k_is)
    (case z13 => k_is)
    (case z14 => k_is)
    (case z15 => k_is)
    (case z16 => k_is)
    (case z17 => k_is)
    (case z18 => k_is)
