import PyProof.Rows.All
import Wide.All
import OpenK.AllK
import Wide.FinOn
import HandS.ForMost
import HandS.IsInst
import HandS.Strs
import HandS.ExcInit
import HandS.ExcField
import HandS.ExcIs
import HandS.TryOnly
import HandS.Lambda
import HandS.EndTab
import HandS.Flow
import HandS.SortInts
import HandS.SortRule
import HandS.SortKw
import KE.KTupSum
import HandS.NamedTupSort
import PyProof.P3Eq
import HandS.ReCall
import HandS.OwnEq
import HandS.TupAny
import HandS.Deep
import PyProof.InstNe
import KE.SortKeyHeap
import HandS.Walk
import KE.GoesEnum
import PyProof.P3In
import HandS.Evl
import HandS.WordsExc
import HandS.Conv
import HandS.Style
import KE.SortData
import HandS.SetFor
import HandS.CallLocal
import KE.KNestM
import PySem.Challenge.RW_ringbars_k10_bars_put_together
set_option Elab.async false
set_option linter.all false
set_option maxRecDepth 100000
set_option maxHeartbeats 4000000
/-! ## rules of our own, for what the rings' program says and the layer has no rule for -/
namespace Rg
open PySem PySem.Spec PyProof.Rows L2

/-! ### f(k = v, ..), oj.m(k = v, ..) -/
section
variable {X : Cx} {CX : CXT} {k : Nat} {f C : Addr} {fd : FuncData} {ps ks : List Str} {sp : Sp} {E : XK} {x m : Str} {p pos apos : Pos} {oj : Expr} {kws : List Keyword} {ta : TE} {tkn : TA}
variable {g : List Value → List Value → List Value} {gV : List V → List V → List V}
theorem pe_callK0 (F : FnOk X.prog X.w X.K X.mg X.base CX k f fd ps sp) (hr : Room k X.A) (hg : Gl X x) (hmm : X.mg x = some (.ref f)) (hk : PySem.W.keepIn X.K (.ref f) = true) (hb : KBinds X.K fd ps ks g gV) (hx : Passes CX X E)
    (hkw : PK X kws tkn) (hall : (backToKw pos (keywordEach kws X.env)).all (·.1.isSome) = true := by rfl) (hks : (backToKw pos (keywordEach kws X.env)).filterMap (·.1) = ks := by rfl)
    (hdb : (x == ("__debug__" : Str)) = false := by decide)
    (hpl : ((backTo pos (starEach [] X.env)).any (·.1) || (backToKw pos (keywordEach kws X.env)).any (·.1.isNone)) = false := by rfl) :
    PE X (.Call (.Name x p) [] kws pos) (tCallK sp gV E tNil tkn) := by
  refine ⟨fun pns s σs Hh Qq Iv h => ?_⟩
  refine wpAny_Call_Name_kw (ld_glob Iv hg hmm ?_ hdb)
  refine PySem.W.callWith_KW0 (h₀ := X.base) Iv.ok.mod.kin hk hall ?_ hpl
  refine thn (hkw.run pos pns s σs Hh _ Iv h) fun kvs2 sh2 ⟨zvs, H2, I2, rlz, q2⟩ => ⟨I2.kIn, ?_⟩
  rw [hks]
  exact run_fnk (us := []) (vs := []) F hr hb hx I2 .nil rlz q2
/-- oj.m(k = v, ..) -/
def tMethK (C : Addr) (m : Str) (sp : Sp) (gV : List V → List V → List V) (E : XK) (ta : TE) (tkn : TA) : TE := fun σs Hh Qq => ta σs Hh fun x H1 => ∃ a dx fs, x = .ref a ∧ H1 a = some (.ins C dx fs) ∧ fs.lookup m = none ∧
  tkn σs H1 fun zvs H2 => sp (gV [.ref a] zvs) H2 Qq E
theorem pe_methK0 {pl : Sem Bool} (he : PE X oj ta) (c : Cls X.K C) (hmm : Meth X.K C m f) (F : FnOk X.prog X.w X.K X.mg X.base CX k f fd ps sp) (hr : Room k X.A) (hb : KBinds X.K fd ps ks g gV) (hx : Passes CX X E)
    (hkw : PK X kws tkn) (hall : (backToKw pos (keywordEach kws X.env)).all (·.1.isSome) = true := by rfl) (hks : (backToKw pos (keywordEach kws X.env)).filterMap (·.1) = ks := by rfl)
    (hpl : ((backTo pos (starEach [] X.env)).any (·.1) || (backToKw pos (keywordEach kws X.env)).any (·.1.isNone)) = false := by rfl)
    (ht : eval (.Call (.Attribute oj m apos) [] kws pos) X.env = (do
      let ov ← eval oj X.env
      standAt apos.atName
      let (f, first) ← holding [ov] (getMethod ov m pl)
      callWith pos f first (backTo pos (starEach [] X.env)) (backToKw pos (keywordEach kws X.env))) := by rfl) :
    PE X (.Call (.Attribute oj m apos) [] kws pos) (tMethK C m sp gV E ta tkn) := by
  refine ⟨fun pns s σs Hh Qq Iv h => ?_⟩
  refine PySem.W.methodCall_KW (pl := pl) (thn (he.run pns s σs Hh _ Iv h) fun u sh1 ⟨x, H1, I1, rlx, a, dx, fs, ex, eqa, l, qq⟩ => ?_) ht
  subst ex
  obtain rfl : u = Value.ref a := rlx
  refine getmeth_ok I1 eqa c hmm l ?_
  refine PySem.W.callWith_KW0 (first := [.ref a]) (h₀ := X.base) Iv.ok.mod.kin hmm.kp hall ?_ hpl
  refine thn (hkw.run pos pns sh1 σs H1 _ I1 qq) fun kvs2 sh2 ⟨zvs, H2, I2, rlz, q2⟩ => ⟨I2.kIn, ?_⟩
  rw [hks]
  exact run_fnk (us := [.ref a]) (vs := [.ref a]) F hr hb hx I2 (.cons rfl .nil) rlz q2
end

/-! ### len(oj), the instance's own __len__ -/
section
variable {X : Cx} {k : Nat} {f : Addr} {fd : FuncData} {sp : Sp}
def rLenO (K : PySem.W.Frag) (f : Addr) (sp : Sp) : List V → Hp → VK → Prop := fun vxs Hh Qq => ∃ a C dx fs, vxs = [.ref a] ∧ Hh a = some (.ins C dx fs) ∧ PySem.W.findIn K (.ref C) "__len__" = some (some (.ref f)) ∧ PySem.W.isFn K (.ref f) = true ∧
  sp [.ref a] Hh (fun v H' => ∃ n : Int, v = .int n ∧ 0 ≤ n ∧ n < 2 ^ 63 ∧ Qq (.int n) H') E0
theorem call_lenO (F : FnOk X.prog X.w X.K X.mg X.base CX0 k f fd ["self"] sp) (hr : Room (k + 1) X.A) (hb : Binds X.K fd ["self"] []) : CallR X (.builtin "len") (rLenO X.K f sp) := by
  intro pns s σs Hh vxs uvs Qq Iv r h
  obtain ⟨a, C, dx, fs, rfl, eqa, hs, hf, qq⟩ := h
  obtain ⟨u, rfl, rlu⟩ := vals1 r
  obtain rfl : u = Value.ref a := rlu
  obtain ⟨mA, O, _, _, _, _⟩ := ins_get Iv.hok eqa
  obtain ⟨m, fr⟩ := Iv.fr
  obtain ⟨od, hod⟩ : ∃ od, s.heap.get? dx = some od := let ⟨oj, _, _, e', _⟩ := O.ns; ⟨oj, e'⟩
  refine PySem.W.len_K fr Iv.ok.mod.kin (ox := PySem.W.instObj C dx) (C := C) (od := some od) ⟨O.obj, rfl, rfl, hod⟩ hs hf ?_
  have hlst : ([Value.ref a] ++ []).length = (["self"] : List Str).length := rfl
  refine wpAny_call (codeAny_mono (F.run X.A.in1 X.stack s Hh ⟨[.ref a], []⟩ [.ref a] [.ref a] _ E0 hr.in1 Iv.env0.in1 (hb s [.ref a] Iv.kIn hlst) (.cons rfl .nil) qq) fun r s' hsq => ?_)
  cases r with
  | error e => exact hsq.elim
  | ok fl =>
    cases fl with
    | ret u =>
      obtain ⟨v, H', I3, rlv, n, ev, h0, hh1, q3⟩ := Iv.after hsq
      subst ev
      obtain ⟨t, rfl⟩ := rlv
      exact ⟨⟨h0, hh1⟩, ⟨.int n, H', I3.tok _, ⟨_, rfl⟩, q3⟩⟩
    | next => exact False.elim hsq
    | brk => exact False.elim hsq
    | cont => exact False.elim hsq
end

/-! ### sum, max of a tuple of ints; vls index -/
section
variable {prog : Program} {w : World} {A : Around} {E : Value → Shared → Prop} {s : Shared} {l : Addr} {vls : List Value} {nms : List Int} {Qq : Value → Shared → Prop}
theorem isTuple_of {h : Heap} (x : IsTup h l vls.toArray) : h.IsTuple l vls.toArray := x
theorem sumT_raw (hcal : A.handled = none) (hlst : s.heap.IsTuple l vls.toArray) (hint : IntsAre vls nms)
    (h : ∀ h' tkn t', (∀ b oj, s.heap.get? b = some oj → h'.get? b = some oj) → Qq (.int nms.sum t') { s with heap := h', toks := tkn }) : wpAny (model prog w) A (call (.builtin "sum") [.ref l]) Qq E s := by
  obtain ⟨vxs, e⟩ := hint.allInts.items
  have hnn : numsOf (intItems vxs).toList = nms := by rw [← e]; exact hint.numsOf
  rw [nums_intItems] at hnn
  rw [e] at hlst
  refine PySem.W.ktm_sumG hcal hlst fun h' tkn t' hk => ?_
  have := h h' tkn t' hk
  rw [preSum_eq, List.take_of_length_le (by simp), hnn]; exact this
end
section
variable {X : Cx}
def rSumT (K : PySem.W.Frag) : List V → Hp → VK → Prop := fun vs Hh Qq => ∃ (a : Addr) (nms : List Int), vs = [V.ref a] ∧ SqT K Hh a (nms.map V.int) ∧ Qq (.int nms.sum) Hh
theorem cr_sumT (hc : X.calm = true) : CallR X (.builtin "sum") (rSumT X.K) := by
  intro pns s σs Hh vs uvs Qq Iv r h
  obtain ⟨a, nms, rfl, hs, qq⟩ := h
  obtain ⟨vls, rlv, hlst, _⟩ := Iv.tuple hs
  rw [Vals.ref1 r]
  exact sumT_raw (Iv.ok.hd hc) (isTuple_of hlst) rlv.ints fun h' tkn t' hk => ⟨.int _, Hh, Iv.kept hk, ⟨_, rfl⟩, qq⟩
end
end Rg
namespace Rg
open PySem PySem.Spec PyProof.Rows L2
/-! ### max of a tuple of ints, vls index, isinstance of a caught error with fields -/
section
variable {prog : Program} {w : World} {A : Around} {E : Value → Shared → Prop} {s : Shared} {l : Addr} {vls : List Value} {nms : List Int} {Qq : Value → Shared → Prop}
theorem max_intTup {vxs : Array (Int × Tok)} (hcal : A.handled = none) (ht : s.heap.IsTuple l (intItems vxs)) (hpos : 0 < vxs.size)
    (h : ∀ v h' tkn, (intItems vxs)[argBest (fun i j => decide (numAt vxs i > numAt vxs j)) (vxs.size - 1)]? = some v → (∀ b oj, s.heap.get? b = some oj → h'.get? b = some oj) → Qq v { s with heap := h', toks := tkn }) :
    wpAny (model prog w) A (call (.builtin "max") [.ref l]) Qq E s := by
  obtain ⟨oj, hob, hc, n, hd⟩ := id ht
  have hI : l ≠ s.heap.objs.size := Nat.ne_of_lt (Heap.lt_size hob)
  refine call_max_walk (wpAny_pyIter_tuple ht ?_)
  refine ⟨s.heap.objs.size, _, _, _, _, _, _, rfl, Walks.tuple (A := A.in1) hcal _ l hI (intItems vxs), ⟨⟨_, Heap.get?_push_size _ rfl, rfl, rfl⟩, ht.at fun oj e => Heap.get?_push_of_some _ e⟩, fun b hb => ?_, by simpa [intItems] using hpos, CmpOf.ints_gt (numAt vxs) (fun _ _ => intItems_at), fun v h' tkn hP hk => ?_⟩
  · rcases List.mem_cons.mp hb with rfl | hb
    · exact Heap.lt_size (Heap.get?_push_size _ rfl)
    · obtain rfl := List.mem_singleton.mp hb
      exact Heap.lt_size (Heap.get?_push_of_some _ hob)
  · refine h v h' tkn (by simpa [intItems] using hP) fun b oj e => ?_
    exact hk b oj (fun hb => absurd (Heap.lt_size e) ((List.mem_singleton.mp hb) ▸ Nat.lt_irrefl _)) (Heap.get?_push_of_some _ e)
theorem maxT_raw (hcal : A.handled = none) (hlst : s.heap.IsTuple l vls.toArray) (hint : IntsAre vls nms) (hpos : 0 < nms.length)
    (h : ∀ h' tkn M t', (∀ b oj, s.heap.get? b = some oj → h'.get? b = some oj) → M ∈ nms → (∀ a, a ∈ nms → a ≤ M) → Qq (.int M t') { s with heap := h', toks := tkn }) : wpAny (model prog w) A (call (.builtin "max") [.ref l]) Qq E s := by
  obtain ⟨vxs, e⟩ := hint.allInts.items
  have hnn : numsOf (intItems vxs).toList = nms := by rw [← e]; exact hint.numsOf
  rw [nums_intItems] at hnn
  subst hnn
  rw [e] at hlst
  have hsz : 0 < vxs.size := by simpa using hpos
  refine max_intTup hcal hlst hsz fun v h' tkn hval hk => ?_
  obtain ⟨t, rfl⟩ := intItems_at hval
  obtain ⟨hh1, hh2⟩ := argBest_gt (numAt vxs) (vxs.size - 1)
  refine h h' tkn _ t hk ?_ fun a ha => ?_
  · rw [numAt_eq]; exact PySem.getD_mem (by rw [List.length_map, Array.length_toList]; omega)
  · obtain ⟨j, hjj, rfl⟩ := mem_getD ha
    rw [List.length_map, Array.length_toList] at hjj
    rw [← numAt_eq]; exact hh2 j (by omega)
end
section
variable {X : Cx}
def rMaxT (K : PySem.W.Frag) : List V → Hp → VK → Prop := fun vs Hh Qq => ∃ (a : Addr) (nms : List Int), vs = [V.ref a] ∧ SqT K Hh a (nms.map V.int) ∧ 0 < nms.length ∧ ∀ m, m ∈ nms → (∀ y, y ∈ nms → y ≤ m) → Qq (.int m) Hh
theorem cr_maxT (hc : X.calm = true) : CallR X (.builtin "max") (rMaxT X.K) := by
  intro pns s σs Hh vs uvs Qq Iv r h
  obtain ⟨a, nms, rfl, hs, hpos, qq⟩ := h
  obtain ⟨vls, rlv, hlst, _⟩ := Iv.tuple hs
  rw [Vals.ref1 r]
  exact maxT_raw (Iv.ok.hd hc) (isTuple_of hlst) rlv.ints hpos fun h' tkn m t' hk hh1 hh2 => ⟨.int _, Hh, Iv.kept hk, ⟨_, rfl⟩, qq m hh1 hh2⟩
theorem flat_ints (yms : List Int) : (yms.map V.int).all flatV = true := by
  rw [List.all_map]
  exact List.all_eq_true.mpr fun _ _ => rfl
def rTIdx (K : PySem.W.Frag) : V → List V → Hp → VK → Prop := fun x vxs Hh Qq => ∃ (p : Addr) (yms : List Int) (z : Int) (j : Nat), x = .ref p ∧ vxs = [.int z] ∧ SqT K Hh p (yms.map V.int) ∧ yms[j]? = some z ∧ (∀ m, m < j → yms[m]? ≠ some z) ∧ Qq (.int (j : Nat)) Hh
theorem mt_tupIdx : MtR X "tuple.index" (rTIdx X.K) := by
  intro pns s σs Hh x vxs v uvs Qq Iv rlx rs h
  obtain ⟨p, yms, z, j, rfl, rfl, hsq, hatj, hnot, qq⟩ := h
  cases rlx
  obtain ⟨u, rfl, t, rfl⟩ := vals1 rs
  obtain ⟨vls, r, pl, hszz⟩ := Iv.tuple hsq
  obtain ⟨⟨cls, dct, dta, slt⟩, hob, hc, n, hd⟩ := pl
  simp only at hc hd
  subst hc
  subst hd
  have hlst : vls.toArray.size = yms.length := by rw [List.size_toArray, ← r.length, List.length_map]
  have hjj : j < vls.toArray.size := by rw [hlst]; exact (List.getElem?_eq_some_iff.mp hatj).1
  have at' : ∀ (m : Nat) (hmm : m < vls.toArray.size), ∃ y t', yms[m]? = some y ∧ vls.toArray[m] = Value.int y t' := fun m hmm => by
    have hm' : m < yms.length := by rw [← hlst]; exact hmm
    obtain ⟨w, hwv, t', hw'⟩ := r.get (i := m) (x := .int yms[m]) (by simp [hm'])
    refine ⟨yms[m], t', List.getElem?_eq_getElem hm', ?_⟩
    have e := (List.getElem?_eq_some_iff.mp hwv).2
    rw [← hw', ← e]
    simp
  refine call_meets PySem.F.slot_tuple_index ⟨_, hob, rfl⟩ PySem.F.entry_tuple_index (PySem.F.args_tuple_index_2 _ _) (TI.tuple_indexAt p vls.toArray n dct slt (.int z t) (eqU (.int z)) j hjj ?_ ?_)
    ⟨hob, fun w hwv => mem_eqAt (x := .int z) ⟨t, rfl⟩ rfl r (flat_ints yms) w (by simpa using hwv), ⟨.int (j : Nat), Hh, Iv.tok _, ⟨_, rfl⟩, qq⟩⟩
  · obtain ⟨y, t', hh1, hh2⟩ := at' j hjj
    rw [hatj] at hh1
    cases hh1
    rw [hh2]
    simp [eqU, eqV]
  · intro m hmm hlt
    obtain ⟨y, t', hh1, hh2⟩ := at' m hmm
    rw [hh2]
    have : y ≠ z := fun e => hnot m hlt (by rw [hh1, e])
    simp [eqU, eqV, this]
end
/-! isinstance(e, c), e the exception that the suite holds, with vls dict -/
def rIsED (K : PySem.W.Frag) (D a : Addr) : List V → Hp → VK → Prop := fun vxs Hh Qq => ∃ (c : V) (cv : Value) (b : Bool), vxs = [.ref a, c] ∧ (∀ u, RelV c u → u = cv) ∧ PySem.W.kitOne K (.ref D) cv = some b ∧ Qq (.bl b) Hh
end Rg
namespace Rg
open PySem PySem.Spec PyProof.Rows L2 SrtO
/-! ### sorted(t), t a tuple -/
section
variable {prog : Program} {w : World} {A : Around} {E : Value → Shared → Prop} {s : Shared} {l : Addr} {vs : List Value}
/-- the heap behind the collecting -/
abbrev colHeap (h : Heap) (vs : List Value) : Heap := (h.push (seqObj "list" #[] 0)).update h.objs.size (Obj.mapSeq (· ++ vs.toArray))
theorem col_tup {Qq : List Value → Shared → Prop} (hlst : s.heap.IsTuple l vs.toArray) (hszz : vs.length ≤ sizeLine) (h : Qq vs { s with heap := colHeap s.heap vs }) : wpAny (model prog w) A (collect (.ref l)) Qq E s := by
  obtain ⟨oj, hob, hc, n, hd⟩ := hlst
  have hnew : (s.heap.push (seqObj "list" #[] 0)).get? s.heap.objs.size = some (seqObj "list" #[] 0) := Heap.get?_push_size _ rfl
  have hold : (s.heap.push (seqObj "list" #[] 0)).get? l = some oj := Heap.get?_push_of_some _ hob
  have tt : (Value.type "tuple" == Value.type "tuple") = true := by rfl
  unfold collect
  refine wpAny_bind (wpAny_runValue (codeAny_builtin entry_proto_collect' ?_))
  show wpAny _ _ (do again (.builtin "list.__iadd__" ⟨[← newList [], .ref l], []⟩)) _ _ s
  refine wpAny_bind (wpAny_newList (wpAny_pure ⟨Code.quiet_builtin _ (by decide +kernel), codeAny_builtin entry_list_iadd' ?_⟩))
  show wpAny _ _ (Builtin.List.listExtendWith (.ref s.heap.objs.size) (.ref l) (.ref s.heap.objs.size)) _ _ { s with heap := s.heap.push (seqObj "list" #[] 0) }
  unfold Builtin.List.listExtendWith
  refine wpAny_bind (wpAny_typeOf (T := "tuple") ⟨oj, hold, hc⟩ ?_)
  rw [if_pos (by rw [tt]; simp)]
  refine wpAny_bind (listItems_at hold hd (wpAny_bind (listItems_at (xs := #[]) (n := 0) hnew rfl ?_)))
  rw [if_neg (by simp)]
  refine wpAny_bind (listUpdate_at (xs := #[]) (n := 0) hnew rfl (wpAny_pure ?_) (Nat.zero_le _) (by show (#[] ++ vs.toArray).size ≤ sizeLine + 1; simp only [Array.size_append, List.size_toArray, List.length_nil]; omega))
  show wpAny (model prog w) A (do
      let oj ← load s.heap.objs.size
      match oj.data with
      | .seq vxs _ => pure vxs.toList
      | _ => unsupported "internal:collect") Qq E { s with heap := colHeap s.heap vs }
  refine wpAny_bind (wpAny_load (get?_update_seq hnew _) ?_)
  show wpAny _ _ (pure ((#[] : Array Value) ++ vs.toArray).toList) Qq E _
  have e : ((#[] : Array Value) ++ vs.toArray).toList = vs := by simp
  rw [e]
  exact wpAny_pure h
theorem sorted_tup {ltv : Value → Value → Bool} {Qq : Value → Shared → Prop} (O : Swo ltv) (hlst : s.heap.IsTuple l vs.toArray) (hszz : vs.length ≤ sizeLine)
    (hS : 2 ≤ vs.length → ∀ (h₁ : Heap) (a : Addr), h₁.get? a = some (seqObj "list" vs.toArray 0) → (∀ b oj, s.heap.get? b = some oj → b ≠ a ∧ h₁.get? b = some oj) → SortableO prog w A.in1.in1 { s with heap := h₁ } a vs ltv)
    (h : ∀ out : List Value, Srtd ltv out → Stb ltv out vs → Qq (.ref (s.heap.objs.size + 1)) { s with heap := sortedAll s.heap vs out.toArray }) : wpAny (model prog w) A (call (.builtin "sorted") [.ref l]) Qq E s := by
  have size1 : (colHeap s.heap vs).objs.size = s.heap.objs.size + 1 := by rw [Heap.size_update, size_push']
  have at1 : ((colHeap s.heap vs).push (seqObj "list" vs.toArray 0)).get? (s.heap.objs.size + 1) = some (seqObj "list" vs.toArray 0) := size1 ▸ Heap.get?_push_size (colHeap s.heap vs) rfl
  have old : ∀ b oj, s.heap.get? b = some oj → b ≠ s.heap.objs.size + 1 ∧ ((colHeap s.heap vs).push (seqObj "list" vs.toArray 0)).get? b = some oj := fun b oj qq => by
    have lt : b < s.heap.objs.size := Heap.lt_size qq
    exact ⟨Nat.ne_of_lt (Nat.lt_succ_of_lt lt), Heap.get?_push_of_some _ ((Heap.get?_update_ne _ _ _ _ (Nat.ne_of_lt lt)).trans (Heap.get?_push_of_some _ qq))⟩
  refine Calls.call_function_entry kind_sorted plain_sorted entry_sorted (args_sorted1 _) ?_
  unfold Builtin.«sorted»
  refine wpAny_bind (m := checkCount "sorted" 1 1 _) (wpAny_pure (wpAny_bind (col_tup hlst hszz (wpAny_bind (wpAny_newList ?_ hszz)))))
  show wpAny _ _ _ _ _ { s with heap := (colHeap s.heap vs).push (seqObj "list" vs.toArray 0) }
  rw [size1]
  exact wpAny_bind (wpAny_holding (wpAny_call_entry slot_list_sort ⟨_, at1, rfl⟩ entry_list_sort (list_sort_ord O at1 hszz (fun hh2 => hS hh2 _ _ at1 old) fun out hs hb => ⟨_, rfl, wpAny_pure ⟨_, rfl, h out hs hb⟩⟩) (args_list_sort _)))
end
section
variable {X : Cx}
def rSortedT (K : PySem.W.Frag) : List V → Hp → VK → Prop := fun vs Hh Qq => ∃ (a : Addr) (nms : List Int), vs = [V.ref a] ∧ SqT K Hh a (nms.map V.int) ∧
  ∀ (ns' : List Int) (p : Addr), ns'.Perm nms → ns'.Pairwise (· ≤ ·) → Hh p = none → Qq (.ref p) (upd Hh p (.lst (ns'.map V.int)))
theorem cr_sortedT : CallR X (.builtin "sorted") (rSortedT X.K) := by
  intro pns s σs Hh vs uvs Qq Iv r h
  obtain ⟨a, nms, rfl, hs, qq⟩ := h
  obtain ⟨vls, rlv, hlst, hszz⟩ := Iv.tuple hs
  have hint := rlv.ints
  rw [List.length_map] at hszz
  rw [Vals.ref1 r]
  refine sorted_tup swo_int (isTuple_of hlst) (by rw [hint.length]; exact hszz) (fun hh2 h₁ a' _ _ => ints_sortable hint hh2) fun out hh1 hh2 => ?_
  obtain ⟨k1, k2, k3⟩ := ints_out hint hh1 hh2
  obtain ⟨ep, he'⟩ := PyProof.Rows.sortedAll_at s.heap vls out.toArray
  exact ⟨.ref _, upd Hh (s.heap.objs.size + 1) (.lst ((out.map iv).map V.int)), Iv.laid (t' := s.toks) (fun _ _ => PyProof.Rows.sortedAll_old) (Nat.le_succ _) ⟨by rw [List.length_map, k2.length_eq]; exact hszz, out, ep, vals_of_ints k1, he'⟩, rfl, qq _ _ k2 k3 (Iv.hok.fresh (Nat.le_succ _))⟩
end
end Rg
namespace Rg
open PySem PySem.Spec PyProof.Rows L2 SrtO
/-! ### sorted(vxs), vxs a list of pairs (k, t): k an int, t a tuple of ints -/
/-- at v a pair of x and a tuple of the ints nms -/
def Nest (h : Heap) (v : Value) (x : Int) (nms : List Int) : Prop := ∃ (a b : Addr) (oj : Obj) (t : Tok) (n : Nat) (vls : List Value), v = .ref a ∧ h.get? a = some oj ∧ oj.cls = .type "tuple" ∧ oj.data = .seq #[.int x t, .ref b] n ∧ IsTup h b vls.toArray ∧ IntsAre vls nms
theorem Nest.kept {h h' : Heap} {v : Value} {x : Int} {nms : List Int} (p : Nest h v x nms) (k : ∀ b oj, h.get? b = some oj → oj.cls = .type "tuple" → h'.get? b = some oj) : Nest h' v x nms := by
  obtain ⟨a, b, oj, t, n, vls, e, hob, hc, hd, ⟨ob, hb, hbc, hbd⟩, hint⟩ := p
  exact ⟨a, b, oj, t, n, vls, e, k _ _ hob hc, hc, hd, ⟨ob, k _ _ hb hbc, hbc, hbd⟩, hint⟩
theorem reads_ints {h : Heap} : ∀ {vs : List Value} {nms : List Int}, IntsAre vs nms → ∃ as, ReadsAll h vs (nms.map PyData.int) as
  | _, _, .nil => ⟨_, .nil⟩
  | _, _, .cons i t r => by
    obtain ⟨as, qq⟩ := reads_ints (h := h) r
    exact ⟨_, .cons (.int i t) qq⟩
theorem eqvA_ints : ∀ vxs yms : List Int, PyData.eqvAll (vxs.map PyData.int) (yms.map PyData.int) = decide (vxs = yms)
  | [], [] => by simp [PyData.eqvAll]
  | [], y :: yms => by simp [PyData.eqvAll]
  | x :: vxs, [] => by simp [PyData.eqvAll]
  | x :: vxs, y :: yms => by
    simp only [List.map_cons, PyData.eqvAll, eqvA_ints vxs yms, PyData.eqv]
    by_cases e : x = y <;> by_cases f : vxs = yms <;> simp [e, f]
theorem layA_ints : ∀ l : List Int, PyData.canLayAll0 (l.map PyData.int) = true
  | [] => by simp [PyData.canLayAll0]
  | i :: l => by simp [PyData.canLayAll0, PyData.canLay0, layA_ints l]
theorem depA_ints : ∀ l : List Int, PyData.depthAll (l.map PyData.int) = 0
  | [] => by simp [PyData.depthAll]
  | i :: l => by simp [PyData.depthAll, PyData.depth, depA_ints l]
theorem lex_self : ∀ l : List Int, HT.lexLt l l = false
  | [] => rfl
  | x :: l => by rw [HT.lexLt_cons, if_pos rfl]; exact lex_self l
section
variable {prog : Program} {w : World} {A : Around} {E : Value → Shared → Prop} {s : Shared}
theorem eq_tupInts {b c : Addr} {vls jts : List Value} {nms ms : List Int} (hb : IsTup s.heap b vls.toArray) (hc : IsTup s.heap c jts.toArray) (hint : IntsAre vls nms) (hjj : IntsAre jts ms) (hu : A.units + 1 < cLine) :
    SeqAt.EqAt A s (.ref b) (.ref c) (decide (nms = ms)) := by
  obtain ⟨o1, hh1, c1, n1, d1⟩ := hb
  obtain ⟨o2, hh2, c2, n2, d2⟩ := hc
  obtain ⟨as, r1⟩ := reads_ints (h := s.heap) hint
  obtain ⟨bs, r2⟩ := reads_ints (h := s.heap) hjj
  have qq := SeqAt.eqAt_reads (.tuple (nms.map PyData.int)) (.tuple (ms.map PyData.int)) A s (.ref b) (.ref c) _ _ (Reads.tuple hh1 c1 d1 r1) (Reads.tuple hh2 c2 d2 r2) (by simp only [PyData.canLay0]; exact layA_ints nms) (by simp only [PyData.canLay0]; exact layA_ints ms)
    (by simp only [PyData.depth, depA_ints]; omega)
  have e : PyData.eqv (.tuple (nms.map PyData.int)) (.tuple (ms.map PyData.int)) = decide (nms = ms) := by
    simp only [PyData.eqv]
    exact eqvA_ints nms ms
  rwa [e] at qq
theorem nest_cmp {vs : List Value} {k : Value → Int × List Int} (hp : ∀ v ∈ vs, Nest s.heap v (k v).1 (k v).2) (hu : A.units + 1 < cLine) :
    SrtO.Cmp prog w A s (tuples' true) (fun p => p.1 ∈ vs) (lt2 fun v u => HT.lexLt ((k v).1 :: (k v).2) ((k u).1 :: (k u).2)) := by
  intro p qq hmm hm'
  have hh1 := hp _ hmm
  have hh2 := hp _ hm'
  show wpAny (model prog w) A (keyLt' (tuples' true) p.1 qq.1) (fun r s' => s' = s ∧ r = HT.lexLt ((k p.1).1 :: (k p.1).2) ((k qq.1).1 :: (k qq.1).2)) (fun _ _ => False) s
  generalize (k p.1).1 = x at hh1 ⊢
  generalize (k p.1).2 = nms at hh1 ⊢
  generalize (k qq.1).1 = y at hh2 ⊢
  generalize (k qq.1).2 = ms at hh2 ⊢
  obtain ⟨a, b, oj, t, n, vls, e, hob, hc, hd, hb, hint⟩ := hh1
  obtain ⟨a', b', o', t', n', its', e', ho', hc', hd', hb', hi'⟩ := hh2
  rw [e, e', HT.lexLt_cons]
  refine PySem.W.kat_lt hob hd ho' hd' ?_
  show PySem.W.KatLex prog w A true (decide (2 < 2)) _ [(.int x t, .int y t'), (.ref b, .ref b')] 0 s
  refine PySem.W.kat_cons (SeqAt.EqAt.int_int x t y t' prog w _ _ (PySem.W.kat_go (fun e1 => PySem.W.kat_yes (PySem.W.kat_cons (eq_tupInts hb hb' hint hi' hu prog w _ _ (PySem.W.kat_go (fun ee2 => ?_) (fun ee2 => ?_))))) (fun e1 => ?_)))
  · have ex : x = y := by simpa using e1
    have ey : nms = ms := of_decide_eq_true ee2
    refine PySem.W.kat_yes (PySem.W.kat_nil ⟨rfl, ?_⟩)
    rw [if_pos ex, ey, lex_self]
    rfl
  · have ex : x = y := by simpa using e1
    rw [if_pos ex]
    exact PySem.W.kat_no (PySem.W.kat_one _ _ (HT.lt_tupInts hb hb' hint hi' (by omega) ⟨rfl, rfl⟩))
  · have ex : ¬ x = y := by simpa using e1
    rw [if_neg ex]
    exact PySem.W.kat_no (oneLt_int ⟨rfl, rfl⟩)
theorem nest_firsts {h : Heap} {k : Value → Int × List Int} : ∀ {vs : List Value}, (∀ v ∈ vs, Nest h v (k v).1 (k v).2) → ∃ fs : List Value, PySem.W.KatTups h vs fs ∧ fs.length = vs.length ∧ ∀ f ∈ fs, ∃ x t, f = Value.int x t
  | [], _ => ⟨[], PySem.W.KatTups.nil, rfl, fun _ z => nomatch z⟩
  | v :: vs, hp => by
    obtain ⟨fs, q1, q2, q3⟩ := nest_firsts fun v' z => hp v' (List.mem_cons_of_mem _ z)
    obtain ⟨a, b, oj, t, n, vls, e, hob, hc, hd, _⟩ := hp v (List.mem_cons_self ..)
    rw [e]
    refine ⟨.int _ t :: fs, PySem.W.KatTups.cons hob hc hd rfl q1, congrArg (· + 1) q2, fun f z => ?_⟩
    rcases List.mem_cons.mp z with z | z
    · exact ⟨_, t, z⟩
    · exact q3 f z
theorem nest_sortable {a : Addr} {vs : List Value} {k : Value → Int × List Int} (h0 : 0 < vs.length) (hu : A.units + 1 < cLine) (hp : ∀ v ∈ vs, Nest s.heap v (k v).1 (k v).2) (ha : ∀ oj, s.heap.get? a = some oj → oj.cls ≠ .type "tuple") :
    SortableO prog w A s a vs fun v u => HT.lexLt ((k v).1 :: (k v).2) ((k u).1 :: (k u).2) := by
  intro h' keep
  have hp' : ∀ v ∈ vs, Nest h' v (k v).1 (k v).2 := fun v z => (hp v z).kept fun b oj e c => keep b oj (fun z => ha oj (z ▸ e) c) e
  obtain ⟨fs, q1, q2, q3⟩ := nest_firsts hp'
  refine ⟨tuples' true, fun Qq E hsq => PySem.W.kat_kind (T := .type "int") q1 (by omega) (fun f z => ?_) (by rfl) ?_, nest_cmp hp' hu⟩
  · obtain ⟨x, t, e⟩ := q3 f z
    rw [e]
    exact PySem.W.Looks.now
  · rw [show (Value.type "int" != Value.type "tuple") = true by decide +kernel]
    exact hsq
end
section
variable {X : Cx}
/-- k says what stands at each item -/
def rSortedN (K : PySem.W.Frag) : List V → Hp → VK → Prop := fun vs Hh Qq => ∃ (a : Addr) (vxs : List V) (k : V → Int × List Int), vs = [V.ref a] ∧ SqL K Hh a vxs ∧ (∀ x ∈ vxs, ∃ t b, x = V.ref t ∧ Hh t = some (.tup [.int (k x).1, .ref b]) ∧ Hh b = some (.tup ((k x).2.map V.int))) ∧
  ∀ yms p, Srtd (fun v u => HT.lexLt ((k v).1 :: (k v).2) ((k u).1 :: (k u).2)) yms → yms.Perm vxs → Hh p = none → Qq (.ref p) (upd Hh p (.lst yms))
theorem cr_sortedN (hu : X.A.units + 64 < cLine) : CallR X (.builtin "sorted") (rSortedN X.K) := by
  intro pns s σs Hh vs uvs Qq Iv r h
  obtain ⟨a, vxs, k, rfl, hs, hx, qq⟩ := h
  obtain ⟨vls, rlv, hlst, hszz⟩ := Iv.list hs
  rw [Vals.ref1 r]
  obtain ⟨e1, ee2⟩ := refs_back rlv fun x m => let ⟨t, _, e, _⟩ := hx x m; ⟨t, e⟩
  have nst : ∀ v ∈ vls, Nest s.heap v (k (backV v)).1 (k (backV v)).2 := fun v hval => by
    obtain ⟨t, rfl⟩ := ee2 v hval
    obtain ⟨t', b, et, hh1, hh2⟩ := hx (V.ref t) (by rw [e1]; exact List.mem_map.mpr ⟨_, hval, rfl⟩)
    cases et
    obtain ⟨_, jts, r2, oj, hob, hc, n, hd⟩ := Iv.hok _ _ hh1
    obtain ⟨u1, u2, rfl, ⟨t1, rfl⟩, r3⟩ := vals2 r2
    obtain rfl : u2 = Value.ref b := r3
    obtain ⟨_, kts, r4, p4⟩ := Iv.hok _ _ hh2
    exact ⟨t, b, oj, t1, n, kts, rfl, hob, hc, hd, p4, r4.ints⟩
  refine sorted_ord (NtL.swo_lexL fun u : Value => (k (backV u)).1 :: (k (backV u)).2) hlst.isList (by rw [← rlv.length]; exact hszz) (fun hh2 h₁ a' ha kk => ?_) fun out hh1 hh2 => ?_
  · refine nest_sortable (s := { s with heap := h₁ }) (k := fun u => k (backV u)) (by omega) (show X.A.units + 1 + 1 + 1 < cLine by omega) (fun v hval => (nst v hval).kept fun b oj e _ => (kk b oj e).2) fun oj e c => ?_
    cases e.symm.trans ha
    exact absurd (Value.type.inj c) (by decide)
  · have h3 : ∀ u ∈ out, ∃ a, u = Value.ref a := fun u hu => ee2 u (hh2.perm.mem_iff.mp hu)
    have hp : (out.map backV).Perm vxs := by rw [e1]; exact hh2.perm.map backV
    obtain ⟨n, hnn⟩ := PyProof.Rows.sortedAll_at s.heap vls out.toArray
    exact ⟨.ref _, upd Hh (s.heap.objs.size + 1) (.lst (out.map backV)), Iv.laid (t' := s.toks) (fun _ _ => PyProof.Rows.sortedAll_old) (Nat.le_succ _) ⟨by rw [hp.length_eq]; exact hszz, out, n, vals_back h3, hnn⟩, rfl,
      qq _ _ (List.pairwise_map.mpr hh1) hp (Iv.hok.fresh (Nat.le_succ _))⟩
end
end Rg
namespace Rg
open PySem PySem.Spec PyProof.Rows L2
/-! tuple(list), whose object is known to have no dict: so that vls methods can be called -/
section
variable {X : Cx}
def rTupF (K : PySem.W.Frag) : List V → Hp → VK → Prop := fun vxs Hh Qq => ∃ p yms, vxs = [V.ref p] ∧ SqL K Hh p yms ∧ ∀ l oj, Hh l = none → oj.dict = none → Qq (.ref l) (upd Hh l (.frz oj (.tup yms)))
theorem cr_tupF : CallR X (.type "tuple") (rTupF X.K) := by
  intro pns s σs Hh vxs uvs Qq Iv r ⟨p, yms, e, hsq, qq⟩
  subst e
  obtain ⟨u, rfl, rlx⟩ := vals1 r
  cases rlx
  obtain ⟨vls, rlv, pl, sz⟩ := Iv.list hsq
  have hnn := rlv.length
  refine call_tuple_list pl.isList (fun hh1 kp => ?_) (by rw [List.size_toArray]; omega)
  have J : Inv X pns σs Hh { s with heap := hh1 } := Iv.kept (t' := s.toks) kp
  have J2 : Inv X pns σs (upd Hh hh1.objs.size (.frz { cls := .type "tuple", data := .seq vls.toArray } (.tup yms))) { s with heap := hh1.push { cls := .type "tuple", data := .seq vls.toArray } } :=
    J.laid (t' := s.toks) (fun b oj e => Heap.get?_push_of_some _ e) (Nat.le_refl _)
      (show ObjOk X.prog X.w _ _ _ (.frz _ (.tup yms)) from ⟨Heap.get?_push_size _ rfl, sz, vls, rlv, IsTup.new _ _⟩)
  exact ⟨.ref hh1.objs.size, _, J2, rfl, qq _ _ (J.hok.fresh (Nat.le_refl _)) rfl⟩
def tyTF (x : V) (Hh : Hp) : Prop := ∃ a oj yms, x = .ref a ∧ Hh a = some (.frz oj (.tup yms)) ∧ oj.dict = none
theorem ty_tf : TyOk X "tuple" tyTF := by
  intro pns σs Hh s x v Iv r ⟨a, oj, yms, e, h, hd⟩
  subst e
  cases r
  obtain ⟨e, _, vls, _, o2, ee2, hc, _⟩ := (show ObjOk X.prog X.w Hh s.heap a (.frz oj (.tup yms)) from Iv.hok a _ h)
  refine ⟨⟨_, ee2, hc⟩, fun b qq => ?_⟩
  cases qq
  exact ⟨oj, e, hd⟩
end
end Rg
namespace Rg
open PySem PySem.Spec PyProof.Rows L2
/-! ### x != y, x == y of instances whose class has an own == and no own != -/
section
variable {prog : Program} {w : World} {A : Around} {E : Value → Shared → Prop} {s : Shared} {K : PySem.W.Frag} {x C L f : Addr} {h₀ : Heap} {m : Str → Option Value} {ox : Obj} {od : Option Obj} {b tb : Value}
theorem boundNe {M : Model} {args : List Value} {Q : Option Value → Shared → Prop} (Xk : K.In s.heap) (Ia : PySem.W.InstAt s.heap x ox C od) (hs : PySem.W.findIn K (.ref C) "__ne__" = some (some (.builtin "object.__ne__")))
    (h : wpAny M A (call (.builtin "object.__ne__") (.ref x :: args)) (fun v => Q (some v)) E s) : wpAny M A (callSpecialIfBound? (.ref x) "__ne__" args) Q E s := by
  simp only [callSpecialIfBound?, bindSpecialIfBound?]
  refine wpAny_holding (wpAny_bind (wpAny_bind (wpAny_bind (Ia.type.here ((PySem.W.looks_findIn Xk hs).here ?_)))))
  dsimp only
  simp only [F.cmp_object.ne.bind]
  refine wpAny_bind (wpAny_askSetting (wpAny_ite ?_))
  have fin : wpAny M A (call (.builtin "object.__ne__") ([.ref x] ++ args) >>= fun v => pure (some v)) Q E s := wpAny_bind (wpAny_mono h (fun v s' h' => wpAny_pure h') fun _ _ h' => h')
  split
  · exact wpAny_bind (wpAny_pure (wpAny_pure fin))
  · exact wpAny_tryCatch (wpAny_bind (wpAny_pure (wpAny_pure fin)))
theorem checkNe {M : Model} {Q : Unit → Shared → Prop} (Xk : K.In s.heap) (Ia : PySem.W.InstAt s.heap x ox C od) (ho : PySem.W.subIn K (.ref C) (.type "object") = some true) (hq : Q () s) : wpAny M A (checkBuiltinCall "object.__ne__" ⟨[.ref x, b], []⟩) Q E s := by
  simp only [checkBuiltinCall, F.cmpKind_ne, F.cmpSplit_ne]
  refine wpAny_bind ?_
  unfold isInstance
  refine wpAny_bind (Ia.type.here ((PySem.W.looks_subIn Xk ho).here ?_))
  simp only [Bool.not_true, Bool.false_eq_true, if_false]
  have ha := F.cmpArgs_ne (.ref x) b
  cases hsig : Manifest.signature? "object.__ne__" with
  | none => exact wpAny_pure hq
  | some sig =>
    simp only [argsOk, hsig] at ha
    have h2 : Bind.checkArgs "object.__ne__" sig ⟨[.ref x, b], []⟩ = pure () := ha
    show wpAny M A (Bind.checkArgs "object.__ne__" sig ⟨[.ref x, b], []⟩) Q E _
    rw [h2]; exact wpAny_pure hq
theorem objNeK {Q : Fin → Shared → Prop} (Xk : K.In s.heap) (Ia : PySem.W.InstAt s.heap x ox C od) (hs : PySem.W.findIn K (.ref C) "__eq__" = some (some (.ref f))) (hf : PySem.W.isFn K (.ref f) = true) (hu : A.units < cLine)
    (h : wpAny (model prog w) A (call (.ref f) [.ref x, b]) (fun v s' => ∃ r, v = .bool r ∧ Q (.done (.ret (.bool (!r)))) s') E s) :
    wpAny (model prog w) A (Builtin.«object.__ne__» ⟨[.ref x, b], []⟩) Q E s := by
  unfold Builtin.«object.__ne__»
  repeat (first
    | with_reducible refine wpAny_cRoomFor hu ?_
    | (refine wpAny_bind (m := callSpecialIfBound? (.ref x) (Str.ofString "__eq__") [b])
        (PySem.W.ifBound_K Xk Ia hs hf (wpAny_mono h (fun r s' hr => by
          obtain ⟨b, rfl, hq⟩ := hr
          repeat (first | exact hq | exact wpAny_pure hq | exact wpAny_truthy_bool hq | (refine wpAny_bind (m := truthy (.bool _)) (wpAny_truthy_bool ?_)) | wp_step)) fun _ _ e => e)))
    | wp_step)
theorem neK {Q : Value → Shared → Prop} (hu : A.units + 1 < cLine) (Fr0 : Fr h₀ L s.heap m) (X₀ : K.In h₀) (Ia : PySem.W.InstAt s.heap x ox C od) (hb : PySem.W.Looks (model prog w) s.heap (typeOf b) tb) (hn : PySem.W.notFirst K C tb = true)
    (hne : PySem.W.findIn K (.ref C) "__ne__" = some (some (.builtin "object.__ne__"))) (ho : PySem.W.subIn K (.ref C) (.type "object") = some true) (hs : PySem.W.findIn K (.ref C) "__eq__" = some (some (.ref f))) (hf : PySem.W.isFn K (.ref f) = true)
    (h : wpAny (model prog w) A.in1 (call (.ref f) [.ref x, b]) (fun v s' => ∃ r, v = .bool r ∧ Q (.bool (!r)) s') E s) : wpAny (model prog w) A (richCompare .NotEq (.ref x) b) Q E s := by
  have Xk := X₀.keeps Fr0.keep
  have one : wpAny (model prog w) A (tryCompare (.ref x) "__ne__" b) (fun r s' => ∃ v, r = some v ∧ Q v s') E s := by
    unfold tryCompare
    refine wpAny_bind (boundNe Xk Ia hne (wpAny_call (codeAny_call_builtin F.cmp_object.ne.plain F.cmpEntry_ne (checkNe Xk Ia ho (objNeK (A := A.in1) Xk Ia hs hf hu (wpAny_mono h (fun v s' hv => ?_) fun _ _ e => e))))))
    obtain ⟨r, rfl, hq⟩ := hv
    exact ⟨r, rfl, wpAny_pure ⟨_, rfl, hq⟩⟩
  unfold richCompare
  simp only [oneThing_ref]
  refine wpAny_holding (wpAny_bind (wpAny_cRoomFor (Nat.lt_of_succ_lt hu) ?_))
  refine wpAny_bind (Ia.type.here (wpAny_bind (hb.here ?_)))
  split
  · rename_i q
    have e : PySem.W.subIn K tb (.ref C) = some false := by
      rcases Bool.or_eq_true_iff.mp hn with e | e
      · rw [beq_iff_eq.mp e] at q; simp at q
      · exact beq_iff_eq.mp e
    refine wpAny_bind ((PySem.W.looks_subIn Xk e).here ?_)
    simp only [Bool.false_eq_true, if_false]
    refine wpAny_bind (wpAny_mono one (fun r s' z => ?_) fun _ _ e => e)
    obtain ⟨v, rfl, hq⟩ := z
    exact wpAny_pure hq
  · refine wpAny_bind (wpAny_pure ?_)
    simp only [Bool.false_eq_true, if_false]
    refine wpAny_bind (wpAny_mono one (fun r s' z => ?_) fun _ _ e => e)
    obtain ⟨v, rfl, hq⟩ := z
    exact wpAny_pure hq
end
section
variable {X : Cx} {n : Nat} {C f : Addr} {fd : FuncData} {ps : List Str} {sp : Sp}
/-- both are instances of C; what the own == says of them, as a bool -/
def rInsEq (C : Addr) (sp : Sp) : R2 := fun x y H Q => ∃ a b dx dy fs gs, x = .ref a ∧ y = .ref b ∧ H a = some (.ins C dx fs) ∧ H b = some (.ins C dy gs) ∧ sp [.ref a, .ref b] H (fun v H' => ∃ r, v = .bl r ∧ Q (.bl r) H') E0
def rInsNe (C : Addr) (sp : Sp) : R2 := fun x y H Q => ∃ a b dx dy fs gs, x = .ref a ∧ y = .ref b ∧ H a = some (.ins C dx fs) ∧ H b = some (.ins C dy gs) ∧ sp [.ref a, .ref b] H (fun v H' => ∃ r, v = .bl r ∧ Q (.bl (!r)) H') E0
theorem op_insNe (F : FnOk X.prog X.w X.K X.mg X.base CX0 n f fd ps sp) (hne : PySem.W.findIn X.K (.ref C) "__ne__" = some (some (.builtin "object.__ne__"))) (ho : PySem.W.subIn X.K (.ref C) (.type "object") = some true)
    (hs : PySem.W.findIn X.K (.ref C) "__eq__" = some (some (.ref f))) (hf : PySem.W.isFn X.K (.ref f) = true) (hb : Binds X.K fd ps []) (hr : Room (n + 1) X.A) : OpR X (compareOp .NotEq) (rInsNe C sp) := by
  intro pins s σ H x y u v Q I rx ry ⟨a, b, dx, dy, fs, gs, ex, ey, ha, hb', hsp⟩
  subst ex ey
  cases rx
  cases ry
  obtain ⟨mA, J, _⟩ := ins_get I.hok ha
  obtain ⟨mB, J', _⟩ := ins_get I.hok hb'
  obtain ⟨od, J, _⟩ := J.look
  obtain ⟨od', J', _⟩ := J'.look
  obtain ⟨m, hF⟩ := I.fr
  show wpAny (model X.prog X.w) X.A (richCompare .NotEq (.ref a) (.ref b)) (EP X pins σ Q) X.xe s
  refine neK (tb := .ref C) (by have := hr.un; omega) hF I.ok.mod.kin J J'.type (by simp [PySem.W.notFirst]) hne ho hs hf ?_
  have hl := F.len _ _ _ _ hsp
  have r2 : Vals [V.ref a, V.ref b] [Value.ref a, Value.ref b] := .cons rfl (.cons rfl .nil)
  refine wpAny_call (codeAny_mono (F.run X.A.in1 X.stack s H ⟨[.ref a, .ref b], []⟩ [.ref a, .ref b] [.ref a, .ref b] _ E0 hr.in1 I.env0.in1 (by
    have := hb s [.ref a, .ref b] I.kIn (by simpa using hl)
    simpa using this) r2 hsp) fun r s' hq => ?_)
  cases r with
  | error e => exact hq.elim
  | ok fl =>
    cases fl with
    | ret w =>
      obtain ⟨z, H', I', rz, r0, ez, q⟩ := I.after hq
      subst ez
      cases rz
      exact ⟨r0, rfl, .bl (!r0), H', I', rfl, q⟩
    | next => exact False.elim hq
    | brk => exact False.elim hq
    | cont => exact False.elim hq
theorem op_insEq (F : FnOk X.prog X.w X.K X.mg X.base CX0 n f fd ps sp)
    (hs : PySem.W.findIn X.K (.ref C) "__eq__" = some (some (.ref f))) (hf : PySem.W.isFn X.K (.ref f) = true) (hb : Binds X.K fd ps []) (hr : Room n X.A) : OpR X (compareOp .Eq) (rInsEq C sp) := by
  intro pins s σ H x y u v Q I rx ry ⟨a, b, dx, dy, fs, gs, ex, ey, ha, hb', hsp⟩
  subst ex ey
  cases rx
  cases ry
  obtain ⟨mA, J, _⟩ := ins_get I.hok ha
  obtain ⟨mB, J', _⟩ := ins_get I.hok hb'
  obtain ⟨od, J, _⟩ := J.look
  obtain ⟨od', J', _⟩ := J'.look
  obtain ⟨m, hF⟩ := I.fr
  show wpAny (model X.prog X.w) X.A (richCompare .Eq (.ref a) (.ref b)) (EP X pins σ Q) X.xe s
  refine PySem.W.cmp_K (op := .Eq) (tb := .ref C) hr.units0 hF I.ok.mod.kin J J'.type (by simp [PySem.W.notFirst]) hs hf ?_
  have hl := F.len _ _ _ _ hsp
  have r2 : Vals [V.ref a, V.ref b] [Value.ref a, Value.ref b] := .cons rfl (.cons rfl .nil)
  refine wpAny_call (codeAny_mono (F.run X.A X.stack s H ⟨[.ref a, .ref b], []⟩ [.ref a, .ref b] [.ref a, .ref b] _ E0 hr I.env0 (by
    have := hb s [.ref a, .ref b] I.kIn (by simpa using hl)
    simpa using this) r2 hsp) fun r s' hq => ?_)
  cases r with
  | error e => exact hq.elim
  | ok fl =>
    cases fl with
    | ret w =>
      obtain ⟨z, H', I', rz, r0, ez, q⟩ := I.after hq
      subst ez
      cases rz
      exact ⟨.bl r0, H', I', rfl, q⟩
    | next => exact False.elim hq
    | brk => exact False.elim hq
    | cont => exact False.elim hq
end
end Rg
namespace Rg
open PySem PySem.Spec PyProof.Rows L2 HT
/-! ### t[:0:-1] of a tuple -/
theorem adjust_back {n : Nat} (hn : 1 ≤ n) : Builtin.Slice.sliceAdjust none (some 0) (-1) (n : Int) = (((n - 1 : Nat) : Int), 0) := by
  unfold Builtin.Slice.sliceAdjust
  have h1 : ((-1 : Int) < 0) := by omega
  have h2 : ¬ ((0 : Int) < 0) := by omega
  simp only [h1, h2, if_true, if_false]
  refine Prod.ext ?_ ?_
  · show (n : Int) - 1 = _
    omega
  · show min (0 : Int) ((n : Int) - 1) = 0
    omega
theorem places_back (n : Nat) : Builtin.Slice.slicePlaces (n : Int) 0 (-1) = n := by
  unfold Builtin.Slice.slicePlaces
  have h1 : ¬ ((-1 : Int) > 0) := by omega
  simp only [h1, if_false, Int.neg_neg, Int.ediv_one]
  split <;> omega
theorem pick_back0 {α : Type} (l : List α) (h : 1 ≤ l.length) : (List.range (l.length - 1)).filterMap (fun m => l[l.length - 1 - m]?) = (l.drop 1).reverse := by
  have e : ∀ k, k ≤ l.length - 1 → (List.range k).filterMap (fun m => l[l.length - 1 - m]?) = (l.drop (l.length - k)).reverse := by
    intro k
    induction k with
    | zero => intro _; simp
    | succ k ih =>
      intro hk
      rw [List.range_succ, List.filterMap_append, ih (by omega)]
      have hlt : l.length - (k + 1) < l.length := by omega
      rw [List.drop_eq_getElem_cons hlt, List.reverse_cons, show l.length - (k + 1) + 1 = l.length - k by omega]
      congr 1
      have e2 : l[l.length - 1 - k]? = some l[l.length - (k + 1)] := by
        rw [show l.length - 1 - k = l.length - (k + 1) by omega]
        exact List.getElem?_eq_getElem hlt
      simp [e2]
  have := e (l.length - 1) (Nat.le_refl _)
  rw [show l.length - (l.length - 1) = 1 by omega] at this
  exact this
theorem fmap_congr {α β : Type} {f g : α → Option β} : ∀ {l : List α}, (∀ x ∈ l, f x = g x) → l.filterMap f = l.filterMap g
  | [], _ => rfl
  | x :: l, h => by
    rw [List.filterMap_cons, List.filterMap_cons, h x (List.mem_cons_self ..), fmap_congr fun y hy => h y (List.mem_cons_of_mem _ hy)]
theorem pick_back (xs : Array Value) (h : 1 ≤ xs.size) : ((List.range (xs.size - 1)).filterMap fun (m : Nat) => xs[((((xs.size - 1 : Nat) : Int)) + (m : Int) * (-1)).toNat]?).toArray = (xs.toList.drop 1).reverse.toArray := by
  have h2 := pick_back0 xs.toList (by simpa using h)
  rw [Array.length_toList] at h2
  rw [← h2]
  congr 1
  refine fmap_congr fun m hm => ?_
  have hm' := List.mem_range.mp hm
  rw [show ((((xs.size - 1 : Nat) : Int)) + (m : Int) * (-1)).toNat = xs.size - 1 - m by omega]
  simp
section
variable {prog : Program} {w : World} {A : Around} {E : Value → Shared → Prop} {s : Shared}
theorem applied_back {sl : Addr} {vu vs : Value} {n : Nat} {Q : Int × Int × Nat → Shared → Prop} (hs : s.heap.IsSliceOf sl .none vu vs) (pu : IsPart vu (some 0)) (ps : IsPart vs (some (-1))) (hn : 1 ≤ n)
    (h : Q (((n - 1 : Nat) : Int), -1, n - 1) s) : wpAny (model prog w) A (Builtin.Slice.sliceApplied (.ref sl) (pure (n : Int))) Q E s := by
  obtain ⟨os, hos, hcs, hds⟩ := id hs
  unfold Builtin.Slice.sliceApplied Builtin.Slice.sliceFields
  refine wpAny_bind (wpAny_bind (wpAny_field hos hds (x := .none) rfl (wpAny_bind (wpAny_field hos hds (x := vu) rfl (wpAny_bind (wpAny_field hos hds (x := vs) rfl (wpAny_pure ?_)))))))
  refine wpAny_bind (slicePart_ ps ?_)
  show wpAny _ _ (if ((-1 : Int) == 0) = true then _ else _) _ _ s
  rw [if_neg (by decide)]
  refine wpAny_bind (slicePart_none (wpAny_bind (slicePart_ pu (wpAny_bind (wpAny_pure ?_)))))
  show wpAny _ _ (match Builtin.Slice.sliceAdjust none (some 0) (-1) (n : Int) with | (lo, hi) => pure (lo, (-1 : Int), Builtin.Slice.slicePlaces lo hi (-1))) _ _ s
  rw [adjust_back hn]
  show wpAny _ _ (pure (((n - 1 : Nat) : Int), (-1 : Int), Builtin.Slice.slicePlaces ((n - 1 : Nat) : Int) 0 (-1))) _ _ s
  rw [places_back]
  exact wpAny_pure h
theorem getItem_back {t sl : Addr} {items : Array Value} {vu vs : Value} {Q : Value → Shared → Prop} (ht : IsTup s.heap t items) (hs : s.heap.IsSliceOf sl .none vu vs) (pu : IsPart vu (some 0)) (ps : IsPart vs (some (-1))) (hn : 1 ≤ items.size)
    (h : Q (.ref s.heap.objs.size) { s with heap := s.heap.push { cls := .type "tuple", data := .seq (items.toList.drop 1).reverse.toArray } })
    (hsz : items.size ≤ sizeLine) : wpAny (model prog w) A (getItem (.ref t) (.ref sl)) Q E s := by
  have htake : sizeOk (.seq (items.toList.drop 1).reverse.toArray) := by
    show (items.toList.drop 1).reverse.toArray.size ≤ sizeLine
    rw [List.size_toArray, List.length_reverse, List.length_drop, Array.length_toList]
    omega
  obtain ⟨os, hos, hcs, hds⟩ := id hs
  have hTs : s.TypeIs (.ref sl) "slice" := ⟨os, hos, hcs⟩
  unfold getItem
  try with_reducible refine wpAny_holding ?_
  first | refine wpAny_bind (wpAny_pure ?_) | skip
  refine wpAny_bind (wpAny_sequenceKey ht.typeIs (by decide) ?_)
  refine wpAny_bind (wpAny_callSpecial?_slot (name := Str.ofString "__getitem__") ht.typeIs PyProof.Rows.slot_tuple_getitem
    (wpAny_call_entry PyProof.Rows.slot_tuple_getitem ht.typeIs entry_tuple_getitem ?_ (args_tuple_getitem _ _)))
  show wpAny _ _ (Builtin.Tuple.tupleItemsOf (.ref t) >>= _) _ _ s
  refine wpAny_bind (tupleItemsOf_ ht ?_)
  refine wpAny_bind (wpAny_typeOf hTs ?_)
  rw [if_pos (by decide)]
  refine wpAny_bind (applied_back hs pu ps hn ?_)
  have hno : ¬ ((((items.size - 1 : Nat) : Int) == 0 && (-1 : Int) == 1 && (items.size - 1) == items.size) = true) := by
    intro q
    rw [Bool.and_eq_true, Bool.and_eq_true] at q
    exact absurd q.1.2 (by decide)
  show wpAny _ _ (if (((items.size - 1 : Nat) : Int) == 0 && (-1 : Int) == 1 && (items.size - 1) == items.size) = true then _ else _) _ _ s
  rw [if_neg hno, pick_back items hn]
  first
    | exact wpAny_bind (m := Builtin.Tuple.tupleExact _) (wpAny_newObj_type (wpAny_pure ⟨_, rfl, wpAny_pure h⟩) htake)
    | exact wpAny_bind (m := Builtin.Tuple.tupleExact _) (wpAny_newObj_type (wpAny_bind (wpAny_pure (wpAny_pure ⟨_, rfl, wpAny_pure h⟩))) htake)
    | exact wpAny_bind (wpAny_bind (m := Builtin.Tuple.tupleExact _) (wpAny_newObj_type (wpAny_pure (wpAny_pure ⟨_, rfl, wpAny_pure h⟩)) htake))
    | exact wpAny_bind (wpAny_bind (m := Builtin.Tuple.tupleExact _) (wpAny_newObj_type (wpAny_pure ⟨_, rfl, wpAny_pure h⟩) htake))
end
section
variable {X : Cx}
def tBackT (K : PySem.W.Frag) (te : TE) : TE := fun σ H Q => te σ H fun x H1 => ∃ a xs, x = .ref a ∧ SqT K H1 a xs ∧ 1 ≤ xs.length ∧ ∀ p, H1 p = none → Q (.ref p) (upd H1 p (.tup (xs.drop 1).reverse))
theorem pe_backT {e : Expr} {te : TE} {k k0 : Nat} {p0 p1 p2 p3 pos : Pos} (he : PE X e te) : PE X (.Subscript e (.Slice none (some (.Constant (.int 0) k0 p0)) (some (.UnaryOp .USub (.Constant (.int 1) k p1) p2)) p3) pos) (tBackT X.K te) := by
  refine ⟨fun pins s σ H Q I h => ?_⟩
  refine Subscript_ (thn (he.run pins s σ H _ I h) fun v s1 ⟨x, H1, I1, r1, q1⟩ => ?_)
  obtain ⟨a, xs, ex, hx, hn, q⟩ := q1
  subst ex
  cases r1
  have hst : PO X (some (.UnaryOp .USub (.Constant (.int 1) k p1) p2)) (tPart (tUn (rU fun i => .int (-i)) (tC (.int 1)))) := po_some (pe_un un_neg pe_int)
  have hz0 : PO X (some (.Constant (.int 0) k0 p0)) (tPart (tC (.int 0))) := po_some pe_int
  refine wpAny_Slice (thn (po_none.run pins s1 σ H1 (fun o H2 => o = none ∧ H2 = H1) I1 ⟨rfl, rfl⟩) fun vl s2 ⟨l, H2, I2, pl, el, e2⟩ => ?_)
  subst el e2
  refine thn (hz0.run pins s2 σ H2 (fun o H3 => o = some 0 ∧ H3 = H2) I2 ⟨0, rfl, rfl, rfl⟩) fun vu s3 ⟨u, H3, I3, pu, eu, e3⟩ => ?_
  subst eu e3
  refine thn (hst.run pins s3 σ H3 (fun o H4 => o = some (-1) ∧ H4 = H3) I3 ⟨1, rfl, -1, rfl, rfl, rfl⟩) fun vs s4 ⟨o, H4, I4, ps, eo, e4⟩ => ?_
  subst eo e4
  cases pl
  have I5 : Inv X pins σ H4 { s4 with heap := s4.heap.push { cls := .type "slice", data := .fields #[.none, vu, vs] } } := I4.kept (t' := s4.toks) fun b ob q => Heap.get?_push_of_some _ q
  obtain ⟨its, r, ht, hz⟩ := I5.tuple hx
  have hlen := r.length
  show wpAny (model X.prog X.w) X.A (subscriptTail e (.Slice none (some (.Constant (.int 0) k0 p0)) (some (.UnaryOp .USub (.Constant (.int 1) k p1) p2)) p3) (.ref a) (.ref s4.heap.objs.size)) (EP X pins σ Q) X.xe { s4 with heap := s4.heap.push { cls := .type "slice", data := .fields #[.none, vu, vs] } }
  refine tail_any (T := "tuple") (ops := [.ref a, .ref s4.heap.objs.size]) ht.typeIs (PyProof.Rows.slot_tuple_getitem.lookup) ?_ (by with_unfolding_all rfl)
  refine getItem_back ht (Heap.IsSliceOf.new _ .none vu vs) pu ps (by rw [List.size_toArray]; omega) ?_ (by rw [List.size_toArray]; omega)
  refine ⟨.ref _, _, I5.laid (t' := s4.toks) (o := .tup (xs.drop 1).reverse) (fun b ob q => Heap.get?_push_of_some _ q) (Nat.le_refl _) ?_, rfl, q _ (I5.hok.fresh (Nat.le_refl _))⟩
  exact ⟨by rw [List.length_reverse, List.length_drop]; omega, _, (r.drop 1).reverse, IsTup.new _ _⟩
end
end Rg
namespace Rg
open PySem PySem.Spec PyProof.Rows L2 LamX
/-! ### sorted(lots, key=lambda lot: (len(lot), lot)), lots tuples of ints -/
theorem reads_intsN {h : Heap} : ∀ {vs : List Value} {nms : List Int}, IntsAre vs nms → ReadsAll h vs (nms.map PyData.int) []
  | _, _, .nil => .nil
  | _, _, .cons i t r => .cons (.int i t) (reads_intsN r)
def lotKey (l : List Int) : PyData := .tuple [.int (l.length : Nat), .tuple (l.map PyData.int)]
theorem alike_lotKey (a b : List Int) : PySem.W.alike (lotKey a) (lotKey b) = true := by
  simp [lotKey, PySem.W.alike, PySem.W.alikeAll, PySem.W.alike_ints]
theorem depth_lotKey (a : List Int) : (lotKey a).depth ≤ 4 := by
  simp [lotKey, PyData.depth, PyData.depthAll, PySem.W.depth_ints]
theorem eqvA_ints8 : ∀ vxs yms : List Int, PyData.eqvAll (vxs.map PyData.int) (yms.map PyData.int) = decide (vxs = yms)
  | [], [] => by simp [PyData.eqvAll]
  | [], y :: yms => by simp [PyData.eqvAll]
  | x :: vxs, [] => by simp [PyData.eqvAll]
  | x :: vxs, y :: yms => by
    simp only [List.map_cons, PyData.eqvAll, eqvA_ints8 vxs yms, PyData.eqv]
    by_cases e : x = y <;> by_cases f : vxs = yms <;> simp [e, f]
/-- fewer bars first, then as tuples -/
def lotLe (a b : List Int) : Bool := !PySem.W.dataLt (lotKey b) (lotKey a)
section
variable {prog : Program} {w : World} {A : Around} {s : Shared} {h : Heap}
theorem lotkey_turn {tk : Nat} {f c' t : Addr} {q y : Str} {params : Arguments} {scope : Scope} {pm ctv : Value} {p1 p2 p3 p4 p5 : Pos} {x1 : Nat} {mg mb : Str → Option Value} {ns : List Int} {its : List Value}
    (hroom : A.depth < recursionLimit)
    (hf : h.get? f = some (PySem.W.kla_obj "<lambda>" q params (.Tuple [.Call (.Name "len" p1) [.Name y p2] [] p3, .Name y p4] x1 p5) scope [] pm c' ctv))
    (hco : scope.isCoroutine = false) (hgen : scope.isGenerator = false) (hk : scope.kind = .function)
    (hcell : ∀ x ∈ scope.names, x.2 ≠ .cell) (hy : scope.names.lookup y = some .local) (hlen : scope.names.lookup ("len" : Str) = some .globalImplicit)
    (hbind : ∀ v : Value, bindArgs (PySem.W.kla_fn "<lambda>" q params (.Tuple [.Call (.Name "len" p1) [.Name y p2] [] p3, .Name y p4] x1 p5) scope [] pm (.ref c') ctv) ⟨[v], []⟩ = pure [(y, v)])
    (hcd : h.CodeRec (.ref c') q) (hg : h.Ns mainGlobals mg) (hm : mg ("len" : Str) = none) (hb : h.Ns builtinsNs mb) (hmb : mb ("len" : Str) = some (.builtin "len")) (hnl : h.NoLimit)
    (ht : IsTup h t its.toArray) (hi : IntsAre its ns) (hz : its.length ≤ sizeLine) (hyd : (y == ("__debug__" : Str)) = false) :
    wpAny (model prog w) A (call (.ref f) [.ref t]) (PySem.W.KeyPure (lotKey ns) { s with heap := h, toks := tk }) (fun _ _ => False) { s with heap := h, toks := tk } := by
  refine wpAny_call (PySem.W.kla_callFunE hroom hf rfl hco hgen rfl hcd ?_)
  rw [hbind]
  refine wpAny_pure (wpAny_newFunctionEnv hcell (fun z hz => by rw [List.mem_singleton.mp hz]; exact hy) (fun h₁ hns hsb => ⟨hnl.fresh _ hsb, ?_⟩) hk)
  have kp : ∀ b o, h.get? b = some o → h₁.get? b = some o := fun b o e => hsb.extBut b o (Nat.ne_of_lt (Heap.lt_size e)) (Heap.get?_push_of_some _ e)
  show codeAny _ _ (.expr _ (PySem.W.envX q scope h.objs.size f (.ref c') [])) _ _
  refine PySem.W.kla_codeExpr ?_
  refine wpAny_Tuple_spliced ?_
  have rd : ∀ (A' : Around) (tk' : Nat) (pos : Pos) (Q : Value → Shared → Prop) (E : Value → Shared → Prop), Q (.ref t) { s with heap := h₁, toks := tk' } → wpAny (model prog w) A' (eval (.Name y pos) (PySem.W.envX q scope h.objs.size f (.ref c') [])) Q E { s with heap := h₁, toks := tk' } := fun A' tk' pos Q E hQ =>
    wpAny_Name (wpAny_loadName_local hk hy hns (by show ([(y, Value.ref t)].reverse).lookup y = _; simp) hQ) hyd
  refine Calls.spliced_cons (wpAny_Call_Name_kw (Calls.Name_function_global hk hlen (Calls.loadGlobal_builtin (hg.keeps kp) hm (hb.keeps kp) hmb ?_)))
  refine PyProof.Rows.callWith_builtin1 (Calls.spliced_cons (rd _ _ _ _ _ (Calls.spliced_nil ?_))) rfl rfl
  refine len_tuple (ht.keeps kp) ?_ ?_
  · have := line63
    simp only [List.size_toArray]
    omega
  refine Calls.spliced_cons (rd _ _ _ _ _ (Calls.spliced_nil ⟨by show 2 ≤ sizeLine; decide, ?_⟩))
  refine ⟨_, _, rfl, fun b o e => Heap.get?_push_of_some _ (kp b o e), ?_⟩
  obtain ⟨o, ho, hc, n, hd⟩ := ht.keeps kp
  refine Reads.tuple (Heap.get?_push_size _ rfl) rfl rfl ?_
  show ReadsAll _ [.int (its.toArray.size : Nat) _, .ref t] [.int (ns.length : Nat), .tuple (ns.map .int)] []
  have e1 : its.toArray.size = ns.length := by rw [List.size_toArray, hi.length]
  rw [e1]
  exact ReadsAll.cons (.int _ _) (ReadsAll.cons (Reads.tuple (Heap.get?_push_of_some _ ho) hc hd (reads_intsN hi)) .nil)
end
theorem each_vals : ∀ {out : List Value} {ys : List V}, PySem.W.EachIs (fun u x => RelV x u) out ys → Vals ys out
  | _, _, .nil => .nil
  | _, _, .cons r t => .cons r (each_vals t)
theorem vals_each : ∀ {ys : List V} {out : List Value}, Vals ys out → PySem.W.EachIs (fun u x => RelV x u) out ys
  | _, _, .nil => .nil
  | _, _, .cons r t => .cons r (vals_each t)
section
variable {X : Cx}
/-- sorted(e, key=the lambda) -/
def tSortLots (K : PySem.W.Frag) (T : List (Addr × Str)) (te : TE) : TE := fun σ H Q => te σ H fun v H1 => ∃ (a : Addr) (xs : List V) (k : V → List Int), v = .ref a ∧ SqL K H1 a xs ∧ (∀ x ∈ xs, ∃ t, x = V.ref t ∧ H1 t = some (.tup ((k x).map V.int))) ∧ Tabs T H1 ∧
  ∀ (H2 : Hp) (p : Addr) (ys : List V), ExtN H1 H2 → Tabs T H2 → ys.Perm xs → (ys.Pairwise fun u v => lotLe (k u) (k v) = true) → H2 p = none → Q (.ref p) (upd H2 p (.lst ys))
theorem pe_sortLots {T : List (Addr × Str)} {c P : Addr} {y : Str} {params : Arguments} {scope : Scope} {p p1 p2 p3 p4 p5 lpos kpos pos : Pos} {x1 : Nat} {e : Expr} {te : TE}
    (hdp : X.A.depth < recursionLimit) (hu : X.A.units + 64 < cLine) (hgS : Gl X ("sorted" : Str)) (hmS : X.mg ("sorted" : Str) = none) (hmL : X.mg ("len" : Str) = none) (he : PE X e te)
    (TB : TabB X.base X.mg c P) (hcode : X.env.code = .ref c) (hmT : (P, X.env.qual ++ "<lambda>") ∈ T) (huT : ∀ p ∈ T, p.1 = P → p.2 = X.env.qual ++ "<lambda>")
    (hdef : defaultsOf params X.env = ([], [])) (hco : scope.isCoroutine = false) (hgen : scope.isGenerator = false) (hk : scope.kind = .function)
    (hcell : ∀ x ∈ scope.names, x.2 ≠ .cell ∧ x.2 ≠ .free) (hy : scope.names.lookup y = some .local) (hlen : scope.names.lookup ("len" : Str) = some .globalImplicit) (hclo : cloFrom X.env.cells scope.names [] = [])
    (hbind : ∀ (q : Str) (pm cv ctv v : Value), bindArgs (PySem.W.kla_fn "<lambda>" q params (.Tuple [.Call (.Name "len" p1) [.Name y p2] [] p3, .Name y p4] x1 p5) scope [] pm cv ctv) ⟨[v], []⟩ = pure [(y, v)])
    (hyd : (y == ("__debug__" : Str)) = false := by decide)
    (hes : backTo pos (starEach [e] X.env) = [(false, eval e X.env)] := by rfl) :
    PE X (.Call (.Name "sorted" p) [e] [⟨some "key", .Lambda params (.Tuple [.Call (.Name "len" p1) [.Name y p2] [] p3, .Name y p4] x1 p5) scope lpos, kpos⟩] pos) (tSortLots X.K T te) := by
  refine ⟨fun pins s σ H Q I h => ?_⟩
  refine wpAny_Call_Name_kw (ld_blt I hgS hmS (u := .builtin "sorted") (by decide +kernel) ?_ (by decide) (by decide))
  refine PyProof.Rows.callWith_kw ?_ hes (by rw [hes]; rfl) rfl rfl
  rw [hes]
  refine Calls.spliced_cons (thn (he.run pins s σ H _ I h) fun u s1 ⟨v, H1, I1, r1, q1⟩ => Calls.spliced_nil ?_)
  obtain ⟨a, xs, k, rfl, hs, hx, hT, q⟩ := q1
  obtain rfl : u = Value.ref a := r1
  show wpAny _ _ (evalAll [do let v ← eval (.Lambda params (.Tuple [.Call (.Name "len" p1) [.Name y p2] [] p3, .Name y p4] x1 p5) scope lpos) X.env; standAt pos; pure v]) _ _ _
  refine wpAny_evalAll_cons (wpAny_bind ?_)
  refine lam_make2 I1 TB hcode hmT huT hT hdef (fun z hz ef => absurd ef (hcell z hz).2) fun f c' pm ctv H2 s2 I2 eN T2 hf hfn hfr hco2 => ?_
  rw [hclo] at hf
  refine wpAny_bind (wpAny_standAt (wpAny_pure ?_))
  refine wpAny_evalAll_nil ?_
  show wpAny _ _ (call (.builtin "sorted") [.ref a] [(Str.ofString "key", .ref f)]) _ _ s2
  have hs2 : SqL X.K H2 a xs := by
    rcases hs with (hs | ⟨o, hs⟩) | hs
    · exact .inl (.inl (eN _ _ hs (fun _ z => nomatch z)))
    · exact .inl (.inr ⟨o, eN _ _ hs (fun _ z => nomatch z)⟩)
    · exact .inr hs
  obtain ⟨its, rv, hl, hsz⟩ := I2.list hs2
  have hx2 : ∀ x ∈ xs, ∃ t, x = V.ref t ∧ H2 t = some (.tup ((k x).map V.int)) := fun x m => let ⟨t, e1, e2⟩ := hx x m; ⟨t, e1, eN _ _ e2 (fun _ z => nomatch z)⟩
  obtain ⟨⟨oc, cvs, ct, hoc, hdc, hvc⟩, _, _⟩ := I2.hok c' _ hco2
  obtain ⟨mb, hb1, hb2⟩ := I2.mod.blt
  refine PySem.W.sorted_key_data (β := V) (R := fun u x => RelV x u) (fun x => lotKey (k x)) hl.isList (vals_each rv) (PySem.W.AllAlike.of fun b b' => alike_lotKey _ _) (PySem.W.Sortable.tuples fun b => ⟨_, _, rfl⟩) hsz
    (fun x _ => by have := depth_lotKey (k x); omega) (PyProof.Rows.ksk_s1 _ _) (fun _ => PyProof.Rows.ksk_l1 _ _) (fun x => PyProof.Rows.ksk_t1 f x) ?_ ?_
  · intro v x hR hxm h' tk' hk'
    obtain ⟨t, rfl, ht⟩ := hx2 x hxm
    obtain rfl : v = Value.ref t := hR
    obtain ⟨hz, jts, rj, tj⟩ := I2.hok t _ ht
    refine lotkey_turn (hroom := hdp) (hk' _ _ hf) hco hgen hk (fun z hz => (hcell z hz).1) hy hlen (fun v => hbind _ _ _ _ v) ⟨c', oc, cvs, ct, rfl, hk' _ _ hoc, hdc, hvc⟩
      ((I2.mod.glob.keeps I2.bk).keeps hk') hmL ((hb1.keeps I2.bk).keeps hk') ((hb2 _ (by decide)).trans PySem.boot_len) (I2.nolimit.keeps hk') (tj.keeps hk') rj.ints (by rw [← rj.length]; exact hz) hyd
  · intro out cc h' tk' hk' hfr' hnew hol heach
    have hpm : (xs.mergeSort (PySem.W.dataLe false fun x => lotKey (k x))).Perm xs := List.mergeSort_perm ..
    refine ⟨.ref (s2.heap.objs.size + 1), upd H2 (s2.heap.objs.size + 1) (.lst (xs.mergeSort (PySem.W.dataLe false fun x => lotKey (k x)))), I2.laid (t' := tk') hk' (Nat.le_succ _) ?_, rfl, ?_⟩
    · exact ⟨by rw [hpm.length_eq]; exact hsz, out, cc, each_vals heach, hnew⟩
    · have nf : H2 (s2.heap.objs.size + 1) = none := I2.hok.fresh (Nat.le_succ _)
      refine q _ _ _ eN T2 hpm ?_ nf
      have z := PySem.W.sortLe_total (listOrd itemOrd) false (fun x : V => PySem.W.keyToks (lotKey (k x)))
      exact List.pairwise_mergeSort (le := PySem.W.dataLe false fun x => lotKey (k x)) (fun a b c => z.trans a b c) (fun a b => Bool.or_eq_true _ _ |>.mpr (z.total a b)) xs
end
end Rg
namespace Rg
open PySem PySem.Spec PyProof.Rows L2
/-! ### enumerate(t), t a tuple -/
theorem meets_enum1 {v : Value} {ob : Obj} {Hz : Heap → Prop} (B : Begins v ob Hz) :
    Meets (Builtin.«enumerate.__new__» ⟨[.type "enumerate", v], []⟩) (fun _ R s => Hz s.heap ∧
      R (.ok (.ret (.ref (s.heap.push ob).objs.size))) { s with heap := (s.heap.push ob).push { cls := .type "enumerate", data := .fields #[.none, .bool false, .ref s.heap.objs.size, rawInt 0, .none, .none] } }) :=
  .of_wp fun prog w A R s h => by
    obtain ⟨hp, gg, dd, tk, os⟩ := s
    obtain ⟨hz, h⟩ := h
    have hsub := sub_enumerate
    have go : ∀ {A' : Around} {E' : Value → Shared → Prop} {Q' : Value → Shared → Prop}, Q' (.ref hp.objs.size) ⟨hp.push ob, gg, dd, tk, os⟩ → wpAny (model prog w) A' (pyIter v) Q' E' ⟨hp, gg, dd, tk, os⟩ :=
      fun q => B.iter prog w _ _ ⟨hp, gg, dd, tk, os⟩ _ hz q
    wp_walk using go
    refine wpAny_stack_any fun st => wpAny_pure ?_
    split
    · rename_i c _ _ _ _ _
      cases (c == Value.type "enumerate")
      · wp_walk using go
        exact ⟨_, rfl, h⟩
      · wp_walk using go
        exact ⟨_, rfl, h⟩
    · wp_walk using go
      exact ⟨_, rfl, h⟩
section
variable {prog : Program} {w : World} {A : Around} {E : Value → Shared → Prop} {s : Shared}
theorem call_enum1 {v : Value} {ob : Obj} {Hz : Heap → Prop} {Q : Value → Shared → Prop} (B : Begins v ob Hz) (hz : Hz s.heap)
    (k : ∀ g, IsEnum g (s.heap.objs.size + 1) s.heap.objs.size 0 .none → g.get? s.heap.objs.size = some ob → (∀ c u, s.heap.get? c = some u → g.get? c = some u) → Q (.ref (s.heap.objs.size + 1)) { s with heap := g }) :
    wpAny (model prog w) A (call (.type "enumerate") [v]) Q E s := by
  refine callType_new F.called_enumerate (by decide) (F.typeCall_enumerate_1 _) (F.newCall_enumerate_1 _) (fun obj => F.args_object_init_2 obj _) F.entry_enumerate_new (meets_enum1 B) ⟨hz, ?_⟩
  have sz : (s.heap.push ob).objs.size = s.heap.objs.size + 1 := Heap.size_push ..
  show _ ∧ _
  rw [sz]
  have ie : IsEnum ((s.heap.push ob).push { cls := .type "enumerate", data := .fields #[.none, .bool false, .ref s.heap.objs.size, rawInt 0, .none, .none] }) (s.heap.objs.size + 1) s.heap.objs.size 0 .none := by
    have z := Heap.get?_push_size (s.heap.push ob) (o := { cls := .type "enumerate", data := .fields #[.none, .bool false, .ref s.heap.objs.size, rawInt 0, .none, .none] }) rfl
    rw [sz] at z
    exact z
  exact ⟨⟨_, ie, rfl⟩, k _ ie (Heap.get?_push_of_some _ (Heap.get?_push_size _ B.free)) fun c u x => Heap.get?_push_of_some _ (Heap.get?_push_of_some _ x)⟩
end
/-- the tuple at a as it stands at each turn, each item in a new pair -/
def IteT (K : PySem.W.Frag) (a : Addr) : It :=
  ⟨fun i H => ∃ (xs : List V) (x : V), SqT K H a xs ∧ xs[i]? = some x, fun i H v H' => ∃ T x, v = .ref T ∧ H T = none ∧ H' = upd H T (.tup [.int (i : Nat), x]) ∧ ∀ xs, SqT K H a xs → xs[i]? = some x, fun i H => ∃ xs : List V, SqT K H a xs ∧ xs.length ≤ i⟩
theorem turn_enumT {P : Program} {w : World} {K : PySem.W.Frag} {elts : List Expr} {kk : Nat} {tpos : Pos} (a e it : Addr) :
    Turn P w K (.Tuple elts kk tpos) (IteT K a) [e, it] e (fun i h => (∃ old, IsEnum h e it ((i : Nat) : Int) old) ∧ h.IsTupleIter it a i ∧ e ≠ it) where
  mem := List.mem_cons_self ..
  obj := by
    rintro i h ⟨⟨old, he⟩, ⟨o, ho, hc, hd⟩, _⟩ b hb
    rcases List.mem_cons.mp hb with z | z
    · rw [z]; exact ⟨_, he, fun v q => nomatch q⟩
    · rw [List.mem_singleton.mp z]; exact ⟨o, ho, fun v q => by rw [hd] at q; cases q⟩
  keep := by
    rintro i h h' ⟨⟨old, he⟩, hi, hne⟩ k
    exact ⟨⟨old, k e (by simp) _ he⟩, hi.at fun o q => k it (by simp) o q, hne⟩
  item := by
    intro X hP hw hK hc i pins s σ H E I hf st hg
    subst hP hw hK
    obtain ⟨⟨old, he⟩, hit, hne⟩ := st
    obtain ⟨xs, x, hq, hx⟩ := hg
    obtain ⟨its, rv, tp, hz⟩ := I.tuple hq
    obtain ⟨u, hu, ru⟩ := rv.get hx
    have hel : e < s.heap.objs.size := Heap.lt_size he
    have hil : it < s.heap.objs.size := by obtain ⟨_, q, _⟩ := hit; exact Heap.lt_size q
    obtain ⟨ot, hot, hct, nt, hdt⟩ := tp
    have nai : a ≠ it := fun z => by
      obtain ⟨oi, hoi, hci, _⟩ := hit
      rw [← z, hot] at hoi
      cases hoi
      rw [hct] at hci
      exact absurd (Value.type.inj hci) (by decide)
    have nae : a ≠ e := fun z => by
      have he' := he
      rw [IsEnum, ← z, hot] at he'
      cases he'
      exact absurd (Value.type.inj hct) (by decide)
    have hlt : i < its.toArray.size := by
      rw [List.size_toArray]
      exact (List.getElem?_eq_some_iff.mp hu).1
    refine wpAny_pyNext_enum_itemD (Draws.tuple (A := X.A.in1) (I.ok.hd hc) it a nai its.toArray) he ⟨hit, ⟨ot, hot, hct, nt, hdt⟩⟩ hlt hne (by simp [hne, Ne.symm nae]) fun u' g tk hP ho hst' hT hsz hk => ?_
    have eu : u' = u := by
      have h1 : its.toArray[i]? = some u' := hP
      rw [List.getElem?_toArray, hu] at h1
      exact (Option.some.inj h1).symm
    subst eu
    refine ⟨_, rfl, wpAny_letOwnedTupleGo_enum (s := { s with heap := g, toks := tk + 1 }) ho fun g2 he' sb => ?_⟩
    have hT2 : g2.get? s.heap.objs.size = some { cls := .type "tuple", data := .seq #[.int i tk, u'] } := (sb.2 _ (Nat.ne_of_gt hel)).trans hT
    have I1 : Inv X pins σ (upd H s.heap.objs.size (.tup [.int (i : Nat), x])) { s with heap := g2, toks := tk + 1 } :=
      I.turnedNew (ch := [e, it]) (fun b ob hb q => (sb.2 b (fun z => hb (by simp [z]))).trans (hk b ob (fun z => hb (by simp [z])) (fun z => hb (by simp [z])) q)) hf (Nat.le_refl _)
        ⟨by show 2 ≤ sizeLine; decide, [.int i tk, u'], .cons ⟨_, rfl⟩ (.cons ru .nil), ⟨_, hT2, rfl, _, rfl⟩⟩
    refine ⟨.ref s.heap.objs.size, _, I1, rfl, ⟨_, x, rfl, I.hok.fresh (Nat.le_refl _), rfl, fun ys hy => by rw [I.tuple_inj hy hq]; exact hx⟩, ⟨⟨u', ?_⟩, hst'.1.at fun o q => (sb.2 it (Ne.symm hne)).trans q, hne⟩, fun b hb => ?_⟩
    · have e1 : ((i + 1 : Nat) : Int) = (i : Int) + 1 := by omega
      rw [e1]
      exact he'
    · have hb' : b < s.heap.objs.size := by
        rcases List.mem_cons.mp hb with z | z
        · rw [z]; exact hel
        · rw [List.mem_singleton.mp z]; exact hil
      rw [upd_ne (Nat.ne_of_lt hb')]
      exact (hf b hb).1
  done := by
    intro X hP hw hK hc i pins s σ H E I hf st hg
    subst hP hw hK
    obtain ⟨⟨old, he⟩, hit, hne⟩ := st
    obtain ⟨xs, hq, hx⟩ := hg
    obtain ⟨its, rv, tp, hz⟩ := I.tuple hq
    obtain ⟨f0, f1, f2, f3, f4, f5⟩ := hf it (by simp)
    have hl := rv.length
    have hT : s.TypeIs (.ref e) "enumerate" := ⟨_, he, rfl⟩
    unfold pyNext
    refine wpAny_bind (wpAny_attempt (wpAny_callSpecial?_slot (name := Str.ofString "__next__") hT F.slot_enumerate_next
      (wpAny_call_entry F.slot_enumerate_next hT F.entry_enumerate_next ?_ (F.args_enumerate_next_1 _))))
    show wpAny _ _ (field (.ref e) 2 >>= _) _ _ _
    refine wpAny_bind (wpAny_field he rfl (x := .ref it) rfl ?_)
    refine wpAny_bind (wpAny_nextOf_tuple_end (I.ok.hd hc) hit tp (by simp; omega) fun g x eb hx' => ?_)
    obtain ⟨o, ho, hcl⟩ := hx'
    refine wpAny_bind (wpAny_isInstance (T := "StopIteration") (b := true) ⟨o, ho, hcl⟩ isSubtype_stop ?_)
    exact wpAny_pure ⟨rfl, I.turned (t' := s.toks) (fun b o hb q => eb b o hb q) f0 f1 f3 f4 f5⟩
  self := fun A i s Q E st h => let ⟨⟨_, he⟩, _⟩ := st; wpAny_pyIter_enum he h
def iEnumT (K : PySem.W.Frag) (ta : TA) : TI := fun σ H R => ta σ H fun vs H1 => ∃ a xs, vs = [.ref a] ∧ SqT K H1 a xs ∧ R (IteT K a) H1
theorem pi_enumT {X : Cx} {e : Expr} {ta : TA} {p pos tpos : Pos} {elts : List Expr} {kk : Nat} (hg : Gl X "enumerate") (hm : X.mg "enumerate" = none) (ha : PA X [e] ta) (hs : starEach [e] X.env = [(false, eval e X.env)] := by rfl) :
    PI X (.Tuple elts kk tpos) (.Call (.Name "enumerate" p) [e] [] pos) (iEnumT X.K ta) := by
  refine ⟨fun pins s σ H R I h => ?_⟩
  refine Call_ (ld_blt I hg hm boot_enumerate (PyProof.Rows.callWith_type1 (thn (ha.run pos pins s σ H _ I h) fun us s1 ⟨vs, H1, I1, r1, q1⟩ => ?_) hs rfl))
  obtain ⟨a, xs, rfl, hq, q⟩ := q1
  rw [Vals.ref1 r1]
  obtain ⟨its, rv, tp, hz⟩ := I1.tuple hq
  refine call_enum1 (begins_tuple a its.toArray) tp fun g he hit hk => wpAny_pyIter_enum he ?_
  have I2 : Inv X pins σ H1 { s1 with heap := g } := I1.kept (t' := s1.toks) hk
  refine ⟨s1.heap.objs.size + 1, [s1.heap.objs.size + 1, s1.heap.objs.size], _, _, H1, rfl, I2, turn_enumT a (s1.heap.objs.size + 1) s1.heap.objs.size, ⟨⟨.none, he⟩, ⟨_, hit, rfl, rfl⟩, Nat.succ_ne_self _⟩, fun b hb => ?_, q⟩
  have hle : s1.heap.objs.size ≤ b := by
    rcases List.mem_cons.mp hb with z | z
    · rw [z]; exact Nat.le_succ _
    · rw [List.mem_singleton.mp z]; exact Nat.le_refl _
  exact I1.fpOk hle (I1.hok.fresh hle)
theorem walk_enumT {K : PySem.W.Frag} {a : Addr} {xs : List V} : Walk (IteT K a) xs.length (fun H => SqT K H a xs) (YPair (fun i => some (.int (i : Nat))) (fun i => xs[i]?)) := by
  refine ⟨fun i _ hi q => ⟨xs, xs[i], q, List.getElem?_eq_getElem hi⟩, fun _ q => ⟨xs, q, Nat.le_refl _⟩, fun i H v H' _ q y => ?_⟩
  obtain ⟨T, x, y1, y2, y3, y4⟩ := y
  exact ⟨T, .int (i : Nat), x, y1, y2, y3, rfl, y4 xs q⟩
end Rg
namespace Rg
open PySem PySem.Spec PyProof.Rows L2
/-! ### x in a tuple of data -/
section
variable {X : Cx}
def rInDT (K : PySem.W.Frag) : R2 := fun x y Hh Qq => ∃ dx dxs, Dp K Hh x dx ∧ Dp K Hh y (.tuple dxs) ∧ SeqAt.shaped dx = true ∧ SeqAt.shaped (.tuple dxs) = true ∧ Qq (.bl (dxs.any fun z => PyData.eqv z dx)) Hh
theorem op_inDT (hu : X.A.units + 65 < cLine) : OpR X (compareOp .In) (rInDT X.K) := by
  intro pns s σs Hh x y v u Qq Iv rlx rly h
  obtain ⟨dx, dxs, hdx, hdy, sx, sy, qq⟩ := h
  obtain ⟨as, rd1⟩ := Dp.reads Iv dx x v hdx rlx
  obtain ⟨bs, rd2⟩ := Dp.reads Iv (.tuple dxs) y u hdy rly
  exact SeqAt.in_tuple_reads rd2 rd1 (SeqAt.canLay_of_shaped sy) (SeqAt.canLay_of_shaped sx) (room_in_shaped sx hu) ⟨.bl _, Hh, Iv, rfl, qq⟩
end
end Rg
namespace K
open PySem L2 Rg
open Evl (pss_cut)
def top (i : Nat) : Stmt := PySem.Challenge.pw_ringbars_k10_bars_put_together.main.body.getD i (.Pass ⟨0, 0, 0, 0⟩)
abbrev sWall : Stmt := top 0
abbrev sFixed : Stmt := top 2
abbrev sIsInteger : Stmt := top 4
abbrev sIsWithin : Stmt := top 5
abbrev sIsList : Stmt := top 6
abbrev sIsNumbers : Stmt := top 7
abbrev sFirstTwice : Stmt := top 8
abbrev sTwiceAt : Stmt := top 9
abbrev sBadRingInit : Stmt := inClass (top 12) 0
abbrev sBadLotInit : Stmt := inClass (top 13) 0
abbrev sBadNumberInit : Stmt := inClass (top 14) 0
abbrev sMissingInit : Stmt := inClass (top 15) 0
abbrev sTwiceInit : Stmt := inClass (top 17) 0
abbrev sTooManyInit : Stmt := inClass (top 18) 0
abbrev sBadTextInit : Stmt := inClass (top 19) 0
abbrev sSortBy : Stmt := top 21
abbrev sWantNumber : Stmt := top 23
abbrev sWantBar : Stmt := top 24
abbrev sWantLot : Stmt := top 25
abbrev sItemsOf : Stmt := top 28
abbrev sIntegerOf : Stmt := top 29
abbrev sItemAt : Stmt := top 30
abbrev sNumberAt : Stmt := top 31
abbrev sRingInit : Stmt := inClass (top 36) 0
abbrev sRingLen : Stmt := inClass (top 36) 1
abbrev sRingEq : Stmt := inClass (top 36) 2
abbrev sRingStr : Stmt := inClass (top 36) 3
abbrev sRingLengthOf : Stmt := inClass (top 36) 4
abbrev sRingSortOf : Stmt := inClass (top 36) 5
abbrev sRingWithLength : Stmt := inClass (top 36) 6
abbrev sRingBegunAt : Stmt := inClass (top 36) 7
abbrev sRingBackwards : Stmt := inClass (top 36) 8
abbrev sRingInOrder : Stmt := inClass (top 36) 9
abbrev sRingAsOne : Stmt := inClass (top 36) 10
abbrev sRingInTwo : Stmt := inClass (top 36) 11
abbrev sRingRead : Stmt := inClass (top 36) 12
abbrev sAreLengths : Stmt := top 37
abbrev sHasLevel : Stmt := top 38
abbrev sReadRing : Stmt := top 39
abbrev sWantRing : Stmt := top 40
abbrev sLotsOf : Stmt := top 42
abbrev sShortLots : Stmt := top 43
abbrev sLevelLots : Stmt := top 44
abbrev sLeastLong : Stmt := top 45
abbrev sGreatestShort : Stmt := top 46
abbrev sInOrder : Stmt := top 47
abbrev sLotsBySort : Stmt := top 48
abbrev sLotsLess : Stmt := top 49
abbrev sLwPen : Stmt := top 51
abbrev sLwDraw : Stmt := top 52
abbrev sLwPick : Stmt := top 53
abbrev sLwMixed : Stmt := top 54
abbrev sLwLengths : Stmt := top 55
abbrev sLwLots : Stmt := top 56
abbrev sLwSort : Stmt := top 57
abbrev sLwTogetherRight : Stmt := top 58
abbrev sLwTwoRight : Stmt := top 59
abbrev sLwLotsAnew : Stmt := top 60
abbrev sLwAnewRight : Stmt := top 61
abbrev sLaw : Stmt := top 62

/-- all but what stands at p is as it was -/
def But (p : Addr) (H H' : Hp) : Prop := ∀ b o, b ≠ p → H b = some o → H' b = some o
theorem But.refl (p : Addr) (H : Hp) : But p H H := fun _ _ _ h => h
theorem But.trans {p : Addr} {H H1 H2 : Hp} (a : But p H H1) (b : But p H1 H2) : But p H H2 := fun c o n h => b c o n (a c o n h)
theorem But.new {p q : Addr} {H H' : Hp} {o : HO} (a : But p H H') (n : H' q = none) : But p H (upd H' q o) := fun c u hc h => by
  have e := a c u hc h
  rw [upd_ne (ne_of_none e n)]
  exact e
theorem But.at {p : Addr} {H H' : Hp} {o : HO} (a : But p H H') : But p H (upd H' p o) := fun c u hc h => by
  rw [upd_ne hc]
  exact a c u hc h
theorem But.seq {K : PySem.W.Frag} {p a : Addr} {H H' : Hp} {xs : List V} (e : But p H H') (n : a ≠ p) (h : SqL K H a xs) : SqL K H' a xs := by
  rcases h with (h | ⟨o, h⟩) | h
  · exact .inl (.inl (e _ _ n h))
  · exact .inl (.inr ⟨o, e _ _ n h⟩)
  · exact .inr h
/-- the pen: its cells, how many were begun (at most n), what a great one has left -/
structure PenAt (K : PySem.W.Frag) (H : Hp) (p : Addr) (e : Addr × List Int) (n : Nat) : Prop where
  ex : ∃ (at' rest : Int), H p = some (.lst [.ref e.1, .int at', .int rest]) ∧ 0 ≤ at' ∧ at' ≤ n ∧ 0 ≤ rest
  sq : SqL K H e.1 (e.2.map V.int)
  np : e.1 ≠ p
  ln : e.2.length ≤ 62
theorem But.of {p : Addr} {H H' : Hp} (e : Same H H') : But p H H' := fun b o _ h => e b o h
theorem But.mut {p q : Addr} {H H' : Hp} {o : HO} (a : But p H H') (n : H q = none) : But p H (upd H' q o) := fun c u hc h => by
  have e := a c u hc h
  rw [upd_ne (ne_of_none h n)]
  exact e
theorem But.free {p q : Addr} {H H' : Hp} (a : But p H H') (hq : q ≠ p) (n : H' q = none) : H q = none := by
  cases e : H q with
  | none => rfl
  | some o =>
    rw [a q o hq e] at n
    cases n
theorem But.tup {K : PySem.W.Frag} {p a : Addr} {H H' : Hp} {xs : List V} (e : But p H H') (n : a ≠ p) (h : SqT K H a xs) : SqT K H' a xs := by
  rcases h with (h | ⟨o, h⟩) | h
  · exact .inl (.inl (e _ _ n h))
  · exact .inl (.inr ⟨o, e _ _ n h⟩)
  · exact .inr h
theorem _root_.L2.Same.new {q : Addr} {H H' : Hp} {o : HO} (a : Same H H') (n : H' q = none) : Same H (upd H' q o) := fun c u h => by
  have e := a c u h
  rw [upd_ne (ne_of_none e n)]
  exact e
theorem _root_.L2.Same.mut {q : Addr} {H H' : Hp} {o : HO} (a : Same H H') (n : H q = none) : Same H (upd H' q o) := fun c u h => by
  have e := a c u h
  rw [upd_ne (ne_of_none h n)]
  exact e
theorem _root_.L2.Same.tup {K : PySem.W.Frag} {a : Addr} {H H' : Hp} {xs : List V} (e : Same H H') (h : SqT K H a xs) : SqT K H' a xs := by
  rcases h with (h | ⟨o, h⟩) | h
  · exact .inl (.inl (e _ _ h))
  · exact .inl (.inr ⟨o, e _ _ h⟩)
  · exact .inr h
section
variable {K : PySem.W.Frag} {H H' : Hp} {p q : Addr} {e : Addr × List Int} {n m : Nat} {o : HO}
theorem PenAt.mono (h : PenAt K H p e n) (le : n ≤ m) : PenAt K H p e m := by
  obtain ⟨a, r, h1, h5, h6, h7⟩ := h.ex
  exact ⟨⟨a, r, h1, h5, by omega, h7⟩, h.sq, h.np, h.ln⟩
/-- the pen stands while all that is tracked stands -/
theorem PenAt.same (h : PenAt K H p e n) (s : Same H H') : PenAt K H' p e n := by
  obtain ⟨a, r, h1, h5, h6, h7⟩ := h.ex
  exact ⟨⟨a, r, s _ _ h1, h5, h6, h7⟩, s.seq h.sq, h.np, h.ln⟩
theorem PenAt.some (h : PenAt K H p e n) : ∃ xs, H p = some (.lst xs) := by
  obtain ⟨a, r, h1, _⟩ := h.ex
  exact ⟨_, h1⟩
theorem PenAt.ne (h : PenAt K H p e n) (z : H q = none) : q ≠ p := by
  obtain ⟨xs, h1⟩ := h.some
  exact (ne_of_none h1 z).symm
/-- the pen stands while a new thing is laid -/
theorem PenAt.put (h : PenAt K H p e n) (z : H q = none) : PenAt K (upd H q o) p e n := h.same (Same.new (Same.refl H) z)
/-- .. while a thing is written that was not there ahead -/
theorem PenAt.mut (h : PenAt K H p e m) (h2 : PenAt K H' p e n) (b : But p H H') (z : H q = none) : PenAt K (upd H' q o) p e n := by
  obtain ⟨a, r, h1, h5, h6, h7⟩ := h2.ex
  exact ⟨⟨a, r, by rw [upd_ne (h.ne z).symm]; exact h1, h5, h6, h7⟩, (b.mut z).seq h.np h.sq, h.np, h.ln⟩
end
/-- the built-ins that the text names -/
structure Bi (mg : Str → Option Value) : Prop where
  int : mg "int" = none
  len : mg "len" = none
  abs : mg "abs" = none
  list : mg "list" = none
  tuple : mg "tuple" = none
  bool : mg "bool" = none
  range : mg "range" = none
  sum : mg "sum" = none
  max : mg "max" = none
  all : mg "all" = none
  any : mg "any" = none
  sorted : mg "sorted" = none
  enumerate : mg "enumerate" = none
  isinstance : mg "isinstance" = none
section
variable {K : PySem.W.Frag}
theorem eqv_nil (l : List Int) : PyData.eqv (.list (l.map PyData.int)) (.list []) = l.isEmpty := by
  cases l <;> simp [PyData.eqv, PyData.eqvAll] <;> rfl
theorem dp_ints {H : Hp} : ∀ l : List Int, DpAll K H (l.map V.int) (l.map PyData.int)
  | [] => .nil
  | i :: l => .cons (.int i) (dp_ints l)
theorem lay_ints : ∀ l : List Int, PyData.canLayAll0 (l.map PyData.int) = true
  | [] => by simp [PyData.canLayAll0]
  | i :: l => by simp [PyData.canLayAll0, PyData.canLay0, lay_ints l]
theorem deep_ints : ∀ l : List Int, PyData.depthAll (l.map PyData.int) = 0
  | [] => by simp [PyData.depthAll]
  | i :: l => by simp [PyData.depthAll, PyData.depth, deep_ints l]
theorem shaped_ints (l : List Int) : SeqAt.shaped (.list (l.map PyData.int)) = true := by
  simp [SeqAt.shaped, PyData.canLay0, PyData.depth, lay_ints l, deep_ints l]
end
end K
namespace K
open PySem L2 Rg
open Evl (pss_cut)
def spDraw (K : PySem.W.Frag) : Sp := fun vs H Q _ => ∃ (p : Addr) (e : Addr × List Int) (many : Int) (n : Nat), vs = [.ref p, .int many] ∧ 1 ≤ many ∧ many ≤ 1000000 ∧ n < 1000000 ∧ PenAt K H p e n ∧
  ∀ (r : Int) (H' : Hp), 0 ≤ r → r < many → But p H H' → PenAt K H' p e (n + 1) → Q (.int r) H'
section
variable {P : Program} {w : World} {K : PySem.W.Frag} {mg : Str → Option Value} {base : Heap}
abbrev nDraw : List Str := ["_law_pen_here", "_law_many", "_law_digit", "_law_at", "_law_cell", "_law_great", "_law_mixed_here"]
theorem scDraw : FnScope nDraw ["_law_pen_here", "_law_many"] (defScope sLwDraw) := ⟨rfl, rfl, rfl, by decide +kernel, rfl, by decide +kernel, by decide +kernel⟩
theorem ok_draw {f : Addr} {fd : FuncData} (F : Fun K "_law_draw" "_law_draw" sLwDraw f fd) (T : Bi mg) : FnOk P w K mg base CX0 2 f fd ["_law_pen_here", "_law_many"] (spDraw K) := by
  refine F.ok scDraw (fun vs H Q E h => ?_) (fun cdv A outer s H vs Q E hr h => ?_)
  · obtain ⟨p, e, many, n, rfl, _⟩ := h
    rfl
  · have nd := scDraw.nd
    refine ⟨_, pss_cons (ps_if (pt_cmpR op_gt (pe_ix ix_list (pv 0) pe_int (fun _ _ => rfl)) pe_int (nomark _))
        (pss_cons (ps_set (i := 2) nd rfl (Or.inl rfl) (pe_op op_mod (pe_callTy call_int1 (by rfl) T.int (by decide +kernel) (pa_cons (pe_ix ix_list (pv 0) pe_int (fun _ _ => rfl)) pa_nil)) (pv 1)))
        (pss_cons (ps_asg (pe_op op_fdiv (pe_callTy call_int1 (by rfl) T.int (by decide +kernel) (pa_cons (pe_ix ix_list (pv 0) pe_int (fun _ _ => rfl)) pa_nil)) (pv 1)) (pg_sub (pv 0) pe_int set_list))
        (pss_one (ps_ret (pv 2))))) pss_nil)
      (pss_cons (ps_set (i := 3) nd rfl (Or.inl rfl) (pe_ix ix_list (pv 0) pe_int (fun _ _ => rfl)))
      (pss_cons (ps_asg (pe_op op_add (pv 3) pe_int) (pg_sub (pv 0) pe_int set_list))
      (pss_cons (ps_set (i := 4) nd rfl (Or.inl rfl) (pe_op op_add (pe_op op_mul pe_int (pv 3)) pe_int))
      (pss_cut (ps_if (pt_cmpR (op_neD hr.units) (pe_ix ix_list (pv 0) pe_int (fun _ _ => rfl)) (pe_lst pa_nil) (nomark _))
        (pss_one (ps_set (i := 4) nd rfl (Or.inl rfl) (pe_ix ix_list (pe_ix ix_list (pv 0) pe_int (fun _ _ => rfl)) (pe_op op_mod (pe_callTy call_int1 (by rfl) T.int (by decide +kernel) (pa_cons (pv 3) pa_nil)) (pe_callB call_len_seq (by rfl) T.len PySem.boot_len (pa_cons (pe_ix ix_list (pv 0) pe_int (fun _ _ => rfl)) pa_nil))) (fun _ _ => rfl)))) pss_nil)
      (pss_cut (ps_if (PW.pt (pw_and (pt_cmpR op_lt (pv 3) (pe_callB call_len_seq (by rfl) T.len PySem.boot_len (pa_cons (pe_ix ix_list (pv 0) pe_int (fun _ _ => rfl)) pa_nil)) (nomark _))
          (pw_and1 (pt_cmpR op_ge (pe_callB call_abs (by rfl) T.abs (by decide +kernel) (pa_cons (pv 4) pa_nil)) (pe_op op_pow pe_int pe_int) (nomark _)))))
        (pss_cons (ps_set (i := 5) nd rfl (Or.inl rfl) (pe_op op_add (pe_op op_mul pe_int (pe_op op_sub (pe_callB call_abs (by rfl) T.abs (by decide +kernel) (pa_cons (pv 4) pa_nil)) (pe_op op_pow pe_int pe_int))) (pe_callTy call_int1 (by rfl) T.int (by decide +kernel) (pa_cons (pe_cmpR op_lt (pv 4) pe_int (nomark _)) pa_nil))))
        (pss_cons (ps_asg (pe_op op_fdiv (pe_callTy call_int1 (by rfl) T.int (by decide +kernel) (pa_cons (pv 5) pa_nil)) (pv 1)) (pg_sub (pv 0) pe_int set_list))
        (pss_one (ps_ret (pe_op op_mod (pe_callTy call_int1 (by rfl) T.int (by decide +kernel) (pa_cons (pv 5) pa_nil)) (pv 1)))))) pss_nil)
      (pss_cut (ps_set (i := 6) nd rfl (Or.inl rfl) (pe_op op_mod (pe_callTy call_int1 (by rfl) T.int (by decide +kernel) (pa_cons (pe_op op_pow (pe_op op_add (pe_op op_add (pe_op op_mod (pe_callTy call_int1 (by rfl) T.int (by decide +kernel) (pa_cons (pv 4) pa_nil)) pe_int) (pe_op op_mul pe_int (pv 3))) pe_int) pe_int) pa_nil)) pe_int))
      (pss_cons (ps_set (i := 6) nd rfl (Or.inl rfl) (pe_op op_mod (pe_callTy call_int1 (by rfl) T.int (by decide +kernel) (pa_cons (pe_op op_pow (pe_op op_add (pe_op op_add (pe_op op_mul (pv 6) (pe_op op_add (pe_op op_mul pe_int (pv 3)) pe_int)) (pe_op op_mul (pe_op op_mul pe_int (pv 3)) (pv 3))) pe_int) pe_int) pa_nil)) pe_int))
      (pss_one (ps_ret (pe_op op_mod (pe_callTy call_int1 (by rfl) T.int (by decide +kernel) (pa_cons (pe_op op_fdiv (pv 6) pe_int) pa_nil)) (pv 1))))))))))), ?_⟩
    obtain ⟨p, ⟨c, cells⟩, many, n, rfl, m1, m2, hn, ⟨⟨at0, rest, hp, a0, a1, r0⟩, hc, hcp, hcl⟩, k⟩ := h
    dsimp only at hp hc hcp hcl
    have mp : (0 : Int) < many := by omega
    have md : (0 : Int) < many ∧ many < 1073741824 := ⟨mp, by omega⟩
    refine ⟨_, rfl, p, _, _, _, rfl, rfl, SqL.of hp, atI_nat (j := 2) rfl, _, _, rfl, rfl, _, rfl, ?_⟩
    refine ite2 (fun hg => ?_) (fun hg => ?_)
    · have g0 : rest > 0 := of_decide_eq_true hg
      refine ⟨_, rfl, p, _, _, _, rfl, rfl, SqL.of hp, atI_nat (j := 2) rfl, .inl ⟨_, rfl, _, rfl, _, _, rfl, rfl, mp, ?_⟩⟩
      refine ⟨_, rfl, p, _, _, _, rfl, rfl, SqL.of hp, atI_nat (j := 2) rfl, .inl ⟨_, rfl, _, rfl, _, _, rfl, rfl, md, _, rfl, p, _, _, 2, rfl, rfl, hp, rfl, ?_⟩⟩
      refine ⟨_, rfl, ?_⟩
      have b1 : But p H (upd H p (.lst [.ref c, .int at0, .int (rest / many)])) := (But.refl p H).at
      exact k _ _ (Int.emod_nonneg _ (by omega)) (Int.emod_lt_of_pos _ mp) b1 ⟨⟨at0, rest / many, upd_same, a0, by omega, Int.ediv_nonneg r0 (by omega)⟩, b1.seq hcp hc, hcp, hcl⟩
    · refine ⟨_, rfl, p, _, _, _, rfl, rfl, SqL.of hp, atI_nat (j := 1) rfl, ?_⟩
      refine ⟨_, rfl, _, _, rfl, rfl, _, rfl, p, _, _, 1, rfl, rfl, hp, rfl, ?_⟩
      have h1 : upd H p (.lst [.ref c, .int (at0 + 1), .int rest]) p = some (.lst [.ref c, .int (at0 + 1), .int rest]) := upd_same
      have b1 : But p H (upd H p (.lst [.ref c, .int (at0 + 1), .int rest])) := (But.refl p H).at
      refine ⟨_, rfl, _, _, rfl, rfl, .inl ⟨by decide, by decide⟩, _, _, rfl, rfl, ?_⟩
      refine ⟨fun σ' H' => ∃ cell : Int, σ' = [some (.ref p), some (.int many), none, some (.int at0), some (.int cell), none, none] ∧ But p H H' ∧ H' p = some (.lst [.ref c, .int (at0 + 1), .int rest]), ?_, ?_⟩
      · refine ⟨_, rfl, p, _, _, _, rfl, rfl, SqL.of h1, atI_nat (j := 0) rfl, (by decide), fun q hq => ?_⟩
        have hqp : p ≠ q := ne_of_none h1 hq
        have b2 : But p H (upd (upd H p (.lst [.ref c, .int (at0 + 1), .int rest])) q (.lst [])) := b1.new hq
        have h2 : upd (upd H p (.lst [.ref c, .int (at0 + 1), .int rest])) q (.lst []) p = some (.lst [.ref c, .int (at0 + 1), .int rest]) := by rw [upd_ne hqp]; exact h1
        refine ⟨_, _, .lst (b2.seq hcp hc) (dp_ints cells), .lst (SqL.of upd_same) .nil, shaped_ints _, rfl, _, rfl, ?_⟩
        rw [eqv_nil]
        cases e : cells.isEmpty with
        | true =>
          refine iteF ?_
          exact ⟨_, rfl, b2, h2⟩
        | false =>
          have hl : 0 < cells.length := by
            cases cells with
            | nil => cases e
            | cons z zs => simp
          refine iteT ?_
          have hlt : (at0 % (cells.length : Int)).toNat < cells.length := by
            have := Int.emod_lt_of_pos at0 (show (0 : Int) < cells.length by omega)
            have := Int.emod_nonneg at0 (show (cells.length : Int) ≠ 0 by omega)
            omega
          have hix : (cells.map V.int)[(at0 % (cells.length : Int)).toNat]? = some (V.int (cells[(at0 % (cells.length : Int)).toNat])) := by
            rw [List.getElem?_map, List.getElem?_eq_getElem hlt]
            rfl
          refine ⟨_, rfl, p, _, _, _, rfl, rfl, SqL.of h2, atI_nat (j := 0) rfl, _, rfl, .inl ⟨_, rfl, _, rfl, p, _, _, _, rfl, rfl, SqL.of h2, atI_nat (j := 0) rfl, c, _, rfl, .inl (b2.seq hcp hc), ?_⟩⟩
          rw [List.length_map]
          refine ⟨_, _, rfl, rfl, (by omega), c, _, _, _, rfl, rfl, b2.seq hcp hc, at_of (j := (at0 % (cells.length : Int)).toNat) (by
            have := Int.emod_nonneg at0 (show (cells.length : Int) ≠ 0 by omega)
            omega) hix, ?_⟩
          exact ⟨_, rfl, b2, h2⟩
      · rintro σ' H' ⟨cell, rfl, b2, h2⟩
        have pw : CPow 10 18 := ⟨by decide, by decide, by decide⟩
        refine ⟨fun σ' H'' => σ' = [some (.ref p), some (.int many), none, some (.int at0), some (.int cell), none, none] ∧ But p H H'' ∧ H'' p = some (.lst [.ref c, .int (at0 + 1), .int rest]), ?_, ?_⟩
        · refine ⟨_, rfl, _, rfl, p, _, _, _, rfl, rfl, SqL.of h2, atI_nat (j := 0) rfl, c, _, rfl, .inl (b2.seq hcp hc), _, _, rfl, rfl, _, rfl, ?_⟩
          refine ite2 (fun _ => ?_) (fun _ => iteF ?_)
          · refine ⟨_, rfl, _, rfl, _, _, rfl, rfl, pw, _, _, rfl, rfl, _, rfl, ?_⟩
            refine ite2 (fun hge => ?_) (fun _ => ?_)
            · have ge := of_decide_eq_true hge
              have ge2 : (10 : Int) ^ (18 : Int).toNat ≤ if cell < 0 then -cell else cell := ge
              have gr0 : 0 ≤ (2 * ((if cell < 0 then -cell else cell) - (10 : Int) ^ (18 : Int).toNat) + (if decide (cell < 0) = true then 1 else 0) : Int) := by
                split <;> omega
              refine ⟨_, rfl, _, rfl, _, _, rfl, rfl, pw, _, _, rfl, rfl, _, _, rfl, rfl, .inl ⟨by decide, by decide⟩, _, rfl, _, _, rfl, rfl, .inr ⟨_, rfl, _, _, rfl, rfl, ?_⟩⟩
              refine ⟨_, rfl, .inl ⟨_, rfl, _, rfl, _, _, rfl, rfl, md, _, rfl, p, _, _, 2, rfl, rfl, h2, rfl, ?_⟩⟩
              refine ⟨_, rfl, .inl ⟨_, rfl, _, rfl, _, _, rfl, rfl, mp, ?_⟩⟩
              exact k _ _ (Int.emod_nonneg _ (by omega)) (Int.emod_lt_of_pos _ mp) b2.at ⟨⟨at0 + 1, _, upd_same, by omega, by omega, Int.ediv_nonneg gr0 (by omega)⟩, (b2.at).seq hcp hc, hcp, hcl⟩
            · exact ⟨rfl, b2, h2⟩
          · exact ⟨rfl, b2, h2⟩
        · rintro σ'' H'' ⟨rfl, b3, h3⟩
          refine ⟨fun σ' H4 => ∃ x : Int, 0 ≤ x ∧ x < 2147483629 ∧ σ' = [some (.ref p), some (.int many), none, some (.int at0), some (.int cell), none, some (.int x)] ∧ H4 = H'', ?_, ?_⟩
          · have q0 := Int.emod_nonneg cell (show (2147483543 : Int) ≠ 0 by decide)
            have q1 := Int.emod_lt_of_pos cell (show (0 : Int) < 2147483543 by decide)
            have pw5 : CPow (cell % 2147483543 + 59333 * at0 + 2539) 5 := ⟨by decide, by decide, by omega⟩
            refine ⟨_, rfl, .inl ⟨_, rfl, _, _, rfl, rfl, (by show (0 : Int) < 2147483543; decide), _, rfl, _, _, rfl, rfl, .inl ⟨by decide, by decide⟩, _, _, rfl, rfl, _, _, rfl, rfl, _, _, rfl, rfl, pw5, .inl ⟨_, rfl, _, _, rfl, rfl, (by show (0 : Int) < 2147483629; decide), ?_⟩⟩⟩
            exact ⟨_, Int.emod_nonneg _ (by decide), Int.emod_lt_of_pos _ (by decide), rfl, rfl⟩
          · rintro σ' H4 ⟨x, x0, x1, rfl, rfl⟩
            have e1 : x * (2 * at0 + 2137) ≤ 2147483629 * 2002137 := Int.mul_le_mul (by omega) (by omega) (by omega) (by decide)
            have e2 : 0 ≤ x * (2 * at0 + 2137) := Int.mul_nonneg x0 (by omega)
            have e3 : 57037 * at0 * at0 ≤ 57037000000 * 1000000 := Int.mul_le_mul (by omega) (by omega) a0 (by decide)
            have e4 : 0 ≤ 57037 * at0 * at0 := Int.mul_nonneg (by omega) a0
            have pw3 : CPow (x * (2 * at0 + 2137) + 57037 * at0 * at0 + 2539) 3 := ⟨by decide, by decide, by omega⟩
            refine ⟨_, rfl, _, rfl, _, _, rfl, rfl, .inl ⟨by decide, by decide⟩, _, _, rfl, rfl, _, _, rfl, rfl, .inl ⟨by omega, by omega⟩, _, rfl, _, _, rfl, rfl, .inl ⟨by decide, by decide⟩, _, rfl, _, _, rfl, rfl, .inr ⟨by omega, by omega⟩, _, _, rfl, rfl, _, _, rfl, rfl, _, _, rfl, rfl, pw3, .inl ⟨_, rfl, _, _, rfl, rfl, (by show (0 : Int) < 2147483647; decide), ?_⟩⟩
            refine ⟨_, rfl, _, _, rfl, rfl, ⟨by decide, by decide⟩, .inl ⟨_, rfl, _, rfl, _, _, rfl, rfl, mp, ?_⟩⟩
            exact k _ _ (Int.emod_nonneg _ (by omega)) (Int.emod_lt_of_pos _ mp) b3 ⟨⟨at0 + 1, rest, h3, by omega, by omega, r0⟩, b3.seq hcp hc, hcp, hcl⟩
end
end K
namespace K
open PySem L2 Rg
open Evl (pss_cut)
theorem int_at {l : List Int} {i : Nat} {v : V} (h : (l.map V.int)[i]? = some v) : ∃ z, l[i]? = some z ∧ v = .int z := by
  rw [List.getElem?_map] at h
  cases e : l[i]? with
  | none => rw [e] at h; cases h
  | some z => rw [e] at h; exact ⟨z, rfl, (Option.some.inj h).symm⟩
theorem take_snoc {α : Type} {l : List α} {i : Nat} {z : α} (h : l[i]? = some z) : l.take i ++ [z] = l.take (i + 1) := by
  rw [List.take_succ, h]; rfl
theorem sz {n : Nat} (h : n ≤ 100000) : n ≤ sizeLine := Nat.le_trans h (by decide)
theorem szl {n : Nat} (h : n < 100000) : n < sizeLine := Nat.lt_of_lt_of_le h (by decide)
theorem cutV_to (xs : List V) (k : Nat) : cutV xs none (some (k : Int)) = xs.take k := by
  unfold cutV
  rw [HT.sIx_none, HT.sIx_nat, List.drop_zero, Nat.sub_zero]
  rcases Nat.le_total k xs.length with h | h
  · rw [Nat.min_eq_left h]
  · rw [Nat.min_eq_right h, List.take_length, List.take_of_length_le h]
section
variable {P : Program} {w : World} {K : PySem.W.Frag} {mg : Str → Option Value} {base : Heap}
/-! ### the pen -/
def spPen (K : PySem.W.Frag) : Sp := fun vs H Q _ => ∃ (a : Addr) (ns : List Int), vs = [.ref a] ∧ SqL K H a (ns.map V.int) ∧ ns.length ≤ 63 ∧
  ∀ (p : Addr) (e : Addr × List Int) (H' : Hp), Same H H' → H p = none → PenAt K H' p e 0 → Q (.ref p) H'
abbrev nPen : List Str := ["_law_script", "_law_cell"]
theorem scPen : FnScope nPen ["_law_script"] (defScope sLwPen) := ⟨rfl, rfl, rfl, by decide +kernel, rfl, by decide +kernel, by decide +kernel⟩
theorem ok_pen {f : Addr} {fd : FuncData} (F : Fun K "_law_pen" "_law_pen" sLwPen f fd) (T : Bi mg) : FnOk P w K mg base CX0 2 f fd ["_law_script"] (spPen K) := by
  refine F.ok scPen (fun vs H Q E h => ?_) (fun cdv A outer s H vs Q E hr h => ?_)
  · obtain ⟨a, ns, rfl, _⟩ := h
    rfl
  · have nd := scPen.nd
    refine ⟨_, pss_one (ps_ret (pe_lst (pa_cons (pe_lc (own := [("_law_cell", 1)]) (g := gName 1) (tt := tYes) rfl nd (pi_list (pe_slice sl_list (pv 0) po_none (po_some pe_int)))
      (blkOk_by (N := nPen) (sc := defScope sLwPen) (by decide +kernel)) (fun _ _ _ _ _ => pg_name (i := 1) nd rfl (Or.inl rfl)) (fun _ _ _ _ _ => pts_nil)
      (fun _ _ _ _ _ => pe_callTy call_int1 (by rfl) T.int (by decide +kernel) (pa_cons (pv 1) pa_nil))) (pa_cons pe_int (pa_cons pe_int pa_nil))))), ?_⟩
    obtain ⟨a, ns, rfl, hS, hl, k⟩ := h
    refine ⟨_, rfl, _, rfl, a, _, rfl, hS, fun q hq => ?_⟩
    have e0 : cutV (ns.map V.int) none (some 60) = (ns.take 60).map V.int := by
      rw [show (60 : Int) = ((60 : Nat) : Int) from rfl, cutV_to, List.map_take]
    rw [e0]
    refine ⟨q, rfl, ⟨_, SqL.of upd_same⟩, fun D hD => ?_⟩
    have hqD : q ≠ D := ne_of_none upd_same hD
    have sD : Same (upd H q (.lst ((ns.take 60).map V.int))) (upd (upd H q (.lst ((ns.take 60).map V.int))) D (.lst [])) := (Same.refl _).new hD
    refine lc_list (K := K) (a := q) (xs := (ns.take 60).map V.int) (fun i H' => Same (upd H q (.lst ((ns.take 60).map V.int))) H' ∧ H' D = some (.lst (((ns.take 60).take i).map V.int)))
      ⟨sD, upd_same⟩ (fun i H' _ p => p.1.seq (SqL.of upd_same)) ?_ ?_
    · rintro i x H' hi ⟨s1, h1⟩
      obtain ⟨z, hz, rfl⟩ := int_at hi
      refine ⟨rfl, _, rfl, .inl ⟨_, rfl, _, h1, szl (by rw [List.length_map, List.length_take, List.length_take]; omega), s1.mut hD, ?_⟩⟩
      rw [← take_snoc hz, List.map_append]
      exact upd_same
    · rintro H' ⟨s1, h1⟩
      rw [List.length_map, List.take_length] at h1
      refine ⟨(by show 3 ≤ sizeLine; decide), fun p hp => ?_⟩
      have nD : H D = none := by
        rw [upd_ne hqD.symm] at hD
        exact hD
      have s2 : Same H H' := fun b o e => s1 b o (by rw [upd_ne (ne_of_none e hq)]; exact e)
      refine k p (D, ns.take 60) _ (s2.new hp) (s2.free hp) ⟨⟨0, 0, upd_same, by decide, by decide, by decide⟩, SqL.of (by rw [upd_ne (ne_of_none h1 hp)]; exact h1), ne_of_none h1 hp, by rw [List.length_take]; omega⟩
end
end K
namespace K
open PySem L2 Rg
open Evl (pss_cut)
section
variable {P : Program} {w : World} {K : PySem.W.Frag} {mg : Str → Option Value} {base : Heap}
/-! ### one of some things -/
def spPick (K : PySem.W.Frag) : Sp := fun vs H Q _ => ∃ (p l : Addr) (e : Addr × List Int) (xs : List V) (n : Nat), vs = [.ref p, .ref l] ∧ SqL K H l xs ∧ l ≠ p ∧ 1 ≤ xs.length ∧ xs.length ≤ 1000 ∧ n < 1000000 ∧ PenAt K H p e n ∧
  ∀ (i : Nat) (v : V) (H' : Hp), xs[i]? = some v → But p H H' → PenAt K H' p e (n + 1) → Q v H'
abbrev nPick : List Str := ["_law_pen_here", "_law_some"]
theorem scPick : FnScope nPick ["_law_pen_here", "_law_some"] (defScope sLwPick) := ⟨rfl, rfl, rfl, by decide +kernel, rfl, by decide +kernel, by decide +kernel⟩
/-- the draw as a def called by its name -/
structure DrawAt (P : Program) (w : World) (K : PySem.W.Frag) (mg : Str → Option Value) (base : Heap) (f : Addr) (fd : FuncData) : Prop where
  ok : FnOk P w K mg base CX0 2 f fd ["_law_pen_here", "_law_many"] (spDraw K)
  g : mg "_law_draw" = some (.ref f)
  kp : PySem.W.keepIn K (.ref f) = true
  b : Binds K fd ["_law_pen_here", "_law_many"] []
theorem ok_pick {f fD : Addr} {fd fdD : FuncData} (F : Fun K "_law_pick" "_law_pick" sLwPick f fd) (T : Bi mg) (D : DrawAt P w K mg base fD fdD) : FnOk P w K mg base CX0 3 f fd ["_law_pen_here", "_law_some"] (spPick K) := by
  refine F.ok scPick (fun vs H Q E h => ?_) (fun cdv A outer s H vs Q E hr h => ?_)
  · obtain ⟨p, l, e, xs, n, rfl, _⟩ := h
    rfl
  · have nd := scPick.nd
    refine ⟨_, pss_one (ps_ret (pe_ix ix_list (pv 1) (pe_call D.ok hr rfl D.g D.kp D.b .nil pass0 (pa_cons (pv 0) (pa_cons (pe_callB call_len_seq (by rfl) T.len PySem.boot_len (pa_cons (pv 1) pa_nil)) pa_nil))) (fun _ _ => rfl))), ?_⟩
    obtain ⟨p, l, e, xs, n, rfl, hl, hlp, l1, l2, hn, pen, k⟩ := h
    refine ⟨_, rfl, _, rfl, _, rfl, l, xs, rfl, .inl hl, p, e, _, n, rfl, by omega, by omega, hn, pen, fun r H' r0 r1 b pen' => ?_⟩
    have hr : r.toNat < xs.length := by omega
    exact ⟨l, xs, r, _, rfl, rfl, b.seq hlp hl, at_of (j := r.toNat) (by omega) (List.getElem?_eq_getElem hr), k _ _ _ (List.getElem?_eq_getElem hr) b pen'⟩
/-! ### things in a drawn order -/
def spMixed (K : PySem.W.Frag) : Sp := fun vs H Q _ => ∃ (p l : Addr) (e : Addr × List Int) (xs : List V) (n : Nat), vs = [.ref p, .ref l] ∧ SqL K H l xs ∧ l ≠ p ∧ xs.length ≤ 30 ∧ n < 900000 ∧ PenAt K H p e n ∧
  ∀ (q : Addr) (ys : List V) (H' : Hp), ys.Perm xs → H q = none → But p H H' → H' q = some (.lst ys) → PenAt K H' p e (n + xs.length) → Q (.ref q) H'
abbrev nMixed : List Str := ["_law_pen_here", "_law_items", "_law_left", "_law_found", "_law_turn"]
theorem scMixed : FnScope nMixed ["_law_pen_here", "_law_items"] (defScope sLwMixed) := ⟨rfl, rfl, rfl, by decide +kernel, rfl, by decide +kernel, by decide +kernel⟩
theorem perm_take {l d : List V} {i : Nat} {x : V} (h : l[i]? = some x) : (d ++ [x] ++ l.eraseIdx i).Perm (d ++ l) := by
  obtain ⟨hi, rfl⟩ := List.getElem?_eq_some_iff.mp h
  rw [List.append_assoc]
  refine List.Perm.append_left d ?_
  rw [List.eraseIdx_eq_take_drop_succ]
  have e : l = l.take i ++ l[i] :: l.drop (i + 1) := by
    rw [List.getElem_cons_drop, List.take_append_drop]
  calc [l[i]] ++ (l.take i ++ l.drop (i + 1)) = l[i] :: (l.take i ++ l.drop (i + 1)) := rfl
    _ |>.Perm (l.take i ++ l[i] :: l.drop (i + 1)) := List.perm_middle.symm
    _ |>.Perm l := by rw [← e]
theorem ok_mixed {f fD : Addr} {fd fdD : FuncData} (F : Fun K "_law_mixed" "_law_mixed" sLwMixed f fd) (T : Bi mg) (D : DrawAt P w K mg base fD fdD) : FnOk P w K mg base CX0 3 f fd ["_law_pen_here", "_law_items"] (spMixed K) := by
  refine F.ok scMixed (fun vs H Q E h => ?_) (fun cdv A outer s H vs Q E hr h => ?_)
  · obtain ⟨p, l, e, xs, n, rfl, _⟩ := h
    rfl
  · have nd := scMixed.nd
    refine ⟨_, pss_cons (ps_par (i := 2) (j := 3) (by rfl) nd rfl rfl (by decide) rfl rfl (pa_cons (pe_callTy call_list_of (by rfl) T.list (by decide +kernel) (pa_cons (pv 1) pa_nil)) (pa_cons (pe_lst pa_nil) pa_nil)) (by rfl))
      (pss_cons (ps_for PassesOwn.never rfl (pi_range1 (by rfl) T.range (pa_cons (pe_callB call_len_seq (by rfl) T.len PySem.boot_len (pa_cons (pv 1) pa_nil)) pa_nil)) (pg_name (i := 4) nd rfl (Or.inl rfl))
        (pss_one (ps_expr (pe_bm PySem.F.plainAttrs_list PySem.F.slot_list_append PySem.F.type_list_append mt_append (pv 3)
          (pa_cons (pe_bm PySem.F.plainAttrs_list PySem.F.slot_list_pop PySem.F.type_list_pop mt_popAt (pv 2)
            (pa_cons (pe_call D.ok hr rfl D.g D.kp D.b .nil pass0 (pa_cons (pv 0) (pa_cons (pe_callB call_len_seq (by rfl) T.len PySem.boot_len (pa_cons (pv 2) pa_nil)) pa_nil))) pa_nil)) pa_nil)))))
      (pss_one (ps_ret (pv 3)))), ?_⟩
    obtain ⟨p, l, e, xs, n, rfl, hl, hlp, hxl, hn, pen, k⟩ := h
    refine ⟨_, rfl, l, xs, rfl, .inl hl, fun a ha => ⟨by show 0 ≤ sizeLine; decide, fun g hg => ?_⟩⟩
    have hga : g ≠ a := (ne_of_none upd_same hg).symm
    have hg0 : H g = none := by
      rw [upd_ne hga] at hg
      exact hg
    have s1 : Same H (upd H a (.lst xs)) := (Same.refl H).new ha
    have s2 : Same H (upd (upd H a (.lst xs)) g (.lst [])) := s1.new hg
    refine ⟨_, _, rfl, _, rfl, l, xs, rfl, .inl (s2.seq hl), _, rfl, by omega, by omega, ?_⟩
    refine for_range (lo := 0) (n := ((xs.length : Nat) : Int).toNat) (fun i σ H' => ∃ (rest done : List V) (t : Option V), σ = [some (.ref p), some (.ref l), some (.ref a), some (.ref g), t] ∧ But p H H' ∧ H' a = some (.lst rest) ∧ H' g = some (.lst done) ∧
      (done ++ rest).Perm xs ∧ done.length = i ∧ PenAt K H' p e (n + i)) ⟨xs, [], none, rfl, But.of s2, by rw [upd_ne hga.symm, upd_same], upd_same, List.Perm.refl _, rfl, pen.same s2⟩ ?_ ?_
    · rintro i σ H' hi ⟨rest, done, t, rfl, b, h1, h2, pm, dl, pen'⟩
      have hi' : i < xs.length := by omega
      have hlen := pm.length_eq
      rw [List.length_append] at hlen
      have hap : a ≠ p := pen.ne ha
      have hgp : g ≠ p := pen.ne hg0
      have r1 : 1 ≤ rest.length := by omega
      refine ⟨_, rfl, .inl ⟨rfl, _, SqL.of h2⟩, _, rfl, .inl ⟨rfl, _, SqL.of h1⟩, _, rfl, _, rfl, a, rest, rfl, .inl (SqL.of h1), p, e, _, n + i, rfl, by omega, by omega, by omega, pen', fun r H2 r0 rl b2 pen2 => ?_⟩
      have hrl : r.toNat < rest.length := by omega
      have e1 : H2 a = some (.lst rest) := b2 a _ hap h1
      have e2 : H2 g = some (.lst done) := b2 g _ hgp h2
      refine ⟨a, rest, r, r.toNat, rest[r.toNat], rfl, rfl, e1, by omega, by omega, seqIndex_of r0 rl, List.getElem?_eq_getElem hrl, g, done, _, rfl, rfl, by rw [upd_ne hga]; exact e2, szl (by omega), ?_⟩
      have b3 : But p H (upd (upd H2 a (.lst (rest.eraseIdx r.toNat))) g (.lst (done ++ [rest[r.toNat]]))) := ((b.trans b2).mut ha).mut hg0
      refine ⟨rest.eraseIdx r.toNat, done ++ [rest[r.toNat]], _, rfl, b3, by rw [upd_ne hga.symm, upd_same], upd_same, (perm_take (List.getElem?_eq_getElem hrl)).trans pm, by rw [List.length_append, dl]; rfl, ?_⟩
      exact pen.mut (pen.mut pen2 (b.trans b2) ha) ((b.trans b2).mut ha) hg0
    · rintro σ H' ⟨rest, done, t, rfl, b, h1, h2, pm, dl, pen'⟩
      have hlen := pm.length_eq
      rw [List.length_append] at hlen
      have er : rest = [] := List.eq_nil_of_length_eq_zero (by omega)
      subst er
      rw [List.append_nil] at pm
      refine ⟨_, rfl, k g done H' pm hg0 b h2 (by simpa using pen')⟩
end
end K
namespace K
open PySem L2 Rg
open Evl (pss_cut)
/-- each from 1 to m -/
def Bd (m : Int) (ls : List Int) : Prop := ∀ x ∈ ls, 1 ≤ x ∧ x ≤ m
theorem Bd.snoc {m x : Int} {ls : List Int} (h : Bd m ls) (h1 : 1 ≤ x) (h2 : x ≤ m) : Bd m (ls ++ [x]) := fun y hy => by
  rcases List.mem_append.mp hy with z | z
  · exact h y z
  · rw [List.mem_singleton.mp z]
    exact ⟨h1, h2⟩
theorem Bd.le {m k : Int} {ls : List Int} (h : Bd m ls) (hk : m ≤ k) : Bd k ls := fun x hx => ⟨(h x hx).1, by have := (h x hx).2; omega⟩
theorem Bd.set {m x : Int} {ls : List Int} {i : Nat} (h : Bd m ls) (h1 : 1 ≤ x) (h2 : x ≤ m) : Bd m (ls.set i x) := fun y hy => by
  rcases List.mem_or_eq_of_mem_set hy with z | z
  · exact h y z
  · rw [z]; exact ⟨h1, h2⟩
theorem Bd.sum {m : Int} : ∀ {ls : List Int}, Bd m ls → (ls.length : Int) ≤ ls.sum ∧ ls.sum ≤ m * ls.length
  | [], _ => by simp
  | x :: ls, h => by
    have ih := Bd.sum (m := m) (ls := ls) fun y hy => h y (List.mem_cons_of_mem _ hy)
    have hx := h x (List.mem_cons_self ..)
    rw [List.sum_cons, List.length_cons]
    have e : m * ((ls.length + 1 : Nat) : Int) = m * ls.length + m := by push_cast; rw [Int.mul_add, Int.mul_one]
    rw [e]
    push_cast
    omega
theorem ixN_at {n : Nat} {r : Int} (h0 : 0 ≤ r) (h1 : r < n) : ixN n r = some r.toNat := by
  unfold ixN
  rw [if_pos h0, if_pos h1]
theorem int_get {ls : List Int} {i : Nat} (h : i < ls.length) : (ls.map V.int)[i]? = some (V.int ls[i]) := by
  rw [List.getElem?_map, List.getElem?_eq_getElem h]; rfl
theorem set_map (ls : List Int) (i : Nat) (x : Int) : (ls.map V.int).set i (V.int x) = (ls.set i x).map V.int := by
  rw [List.map_set]
theorem erase_sum : ∀ {ls : List Int} {i : Nat} (h : i < ls.length), (ls.eraseIdx i).sum = ls.sum - ls[i]
  | x :: ls, 0, h => by simp [List.sum_cons]; omega
  | x :: ls, i + 1, h => by
    have h' : i < ls.length := by simpa using h
    have ih := erase_sum h'
    rw [List.eraseIdx_cons_succ, List.sum_cons, List.sum_cons, ih, List.getElem_cons_succ]
    omega
theorem abs_sum {m : Int} (hm : 0 ≤ m) : ∀ {ls : List Int}, (∀ x ∈ ls, -m ≤ x ∧ x ≤ m) → -(m * ls.length) ≤ ls.sum ∧ ls.sum ≤ m * ls.length
  | [], _ => by simp
  | x :: ls, h => by
    have ih := abs_sum hm (ls := ls) fun y hy => h y (List.mem_cons_of_mem _ hy)
    have hx := h x (List.mem_cons_self ..)
    have e : m * ((ls.length + 1 : Nat) : Int) = m * ls.length + m := by push_cast; rw [Int.mul_add, Int.mul_one]
    rw [List.sum_cons, List.length_cons, e]
    omega
section
variable {P : Program} {w : World} {K : PySem.W.Frag} {mg : Str → Option Value} {base : Heap}
def spLengths (K : PySem.W.Frag) : Sp := fun vs H Q _ => ∃ (p : Addr) (e : Addr × List Int) (n : Nat), vs = [.ref p] ∧ n < 800000 ∧ PenAt K H p e n ∧
  ∀ (q : Addr) (ls : List Int) (H' : Hp), 3 ≤ ls.length → ls.length ≤ 8 → Bd 1000000 ls → H q = none → But p H H' → H' q = some (.lst (ls.map V.int)) → PenAt K H' p e (n + 30) → Q (.ref q) H'
abbrev nLengths : List Str := ["_law_pen_here", "_law_many", "_law_way", "_law_most", "_law_found", "_law_at", "_law_rest", "_law_signed", "_law_bar", "_law_length"]
theorem scLengths : FnScope nLengths ["_law_pen_here"] (defScope sLwLengths) := ⟨rfl, rfl, rfl, by decide +kernel, rfl, by decide +kernel, by decide +kernel⟩
theorem ok_lengths {f fD : Addr} {fd fdD : FuncData} (F : Fun K "_law_lengths" "_law_lengths" sLwLengths f fd) (T : Bi mg) (D : DrawAt P w K mg base fD fdD) : FnOk P w K mg base CX0 3 f fd ["_law_pen_here"] (spLengths K) := by
  refine F.ok scLengths (fun vs H Q E h => ?_) (fun cdv A outer s H vs Q E hr h => ?_)
  · obtain ⟨p, e, n, rfl, _⟩ := h
    rfl
  · have nd := scLengths.nd
    refine ⟨_, pss_cons (ps_par (i := 1) (j := 2) (by rfl) nd rfl rfl (by decide) rfl rfl (pa_cons (pe_op op_add pe_int (pe_call D.ok hr rfl D.g D.kp D.b .nil pass0 (pa_cons (pv 0) (pa_cons pe_int pa_nil)))) (pa_cons (pe_call D.ok hr rfl D.g D.kp D.b .nil pass0 (pa_cons (pv 0) (pa_cons pe_int pa_nil))) pa_nil)) (by rfl))
      (pss_cut (ps_set (i := 3) nd rfl (Or.inr rfl) (pe_ix ix_list (pe_lst (pa_cons pe_int (pa_cons pe_int (pa_cons pe_int (pa_cons pe_int (pa_cons pe_int (pa_cons pe_int (pa_cons pe_int pa_nil)))))))) (pv 2) (fun _ _ => rfl)))
      (pss_cons (ps_setLc (i := 4) (own := [("_law_bar", 8)]) (g := gName 8) rfl nd rfl rfl (sw_true rfl rfl rfl (by decide +kernel)) (pi_range1 (by rfl) T.range (pa_cons (pv 1) pa_nil)) (blkOk_by (N := nLengths) (sc := defScope sLwLengths) (by decide +kernel))
        (fun _ _ _ _ _ => pg_name (i := 8) nd rfl (Or.inl rfl)) (fun _ _ _ _ _ => pts_nil) (fun _ _ _ _ _ => pe_op op_add pe_int (pe_call D.ok hr rfl D.g D.kp D.b .nil pass0 (pa_cons (pv 0) (pa_cons (pv 3) pa_nil)))))
      (pss_cons (ps_set (i := 5) nd rfl (Or.inr rfl) (pe_call D.ok hr rfl D.g D.kp D.b .nil pass0 (pa_cons (pv 0) (pa_cons (pv 1) pa_nil))))
      (pss_cons (ps_set (i := 6) nd rfl (Or.inl rfl) (pe_op op_sub (pe_callB (cr_sum rfl) (by rfl) T.sum (by decide +kernel) (pa_cons (pv 4) pa_nil)) (pe_ix ix_list (pv 4) (pv 5) (fun _ _ => rfl))))
      (pss_cut (ps_if (pt_cmpR op_eq (pv 2) pe_int (nomark _)) (pss_one (ps_asg (pe_op op_add (pv 6) (pe_call D.ok hr rfl D.g D.kp D.b .nil pass0 (pa_cons (pv 0) (pa_cons pe_int pa_nil)))) (pg_sub (pv 4) (pv 5) set_list))) pss_nil)
      (pss_cut (ps_if (pt_cmpR op_eq (pv 2) pe_int (nomark _))
        (pss_cons (ps_set (i := 7) nd rfl (Or.inl rfl) (pe_callB (cr_sum rfl) (by rfl) T.sum (by decide +kernel) (pa_cons (pe_lc (own := [("_law_bar", 8), ("_law_length", 9)]) (g := gTup K 2 (gCons (gName 8) (gCons (gName 9) gNil))) rfl nd (pi_enum (by rfl) T.enumerate (pa_cons (pv 4) pa_nil)) (blkOk_by (N := nLengths) (sc := defScope sLwLengths) (by decide +kernel))
          (fun _ _ _ _ _ => pg_tup rfl (pgs_cons (pg_name (i := 8) nd rfl (Or.inl rfl)) (pgs_cons (pg_name (i := 9) nd rfl (Or.inl rfl)) pgs_nil))) (fun _ _ _ _ _ => pts_one (pt_cmpR op_ne (pv 8) (pv 5) (nomark _)))
          (fun _ _ _ _ _ => pe_op op_mul (pv 9) (pe_op op_sub pe_int (pe_op op_mul pe_int (pe_call D.ok hr rfl D.g D.kp D.b .nil pass0 (pa_cons (pv 0) (pa_cons pe_int pa_nil))))))) pa_nil)))
        (pss_one (ps_asg (pe_callB (call_max2 rfl) (by rfl) T.max (by decide +kernel) (pa_cons pe_int (pa_cons (pe_callB call_abs (by rfl) T.abs (by decide +kernel) (pa_cons (pv 7) pa_nil)) pa_nil))) (pg_sub (pv 4) (pv 5) set_list)))) pss_nil)
      (pss_one (ps_ret (pv 4))))))))), ?_⟩
    obtain ⟨p, e, n, rfl, hn, pen, k⟩ := h
    refine ⟨_, rfl, p, e, 6, n, rfl, by decide, by decide, by omega, pen, fun r1 H1 r1a r1b b1 pen1 => ?_⟩
    refine ⟨_, _, rfl, rfl, _, rfl, p, e, 7, n + 1, rfl, by decide, by decide, by omega, pen1, fun r2 H2 r2a r2b b2 pen2 => ⟨_, _, rfl, ?_⟩⟩
    have b12 := b1.trans b2
    refine ⟨fun σ' H' => ∃ most : Int, 1 ≤ most ∧ most ≤ 1000000 ∧ (r2 = 4 → most = 4) ∧ (r2 = 5 → most = 9) ∧ σ' = [some (.ref p), some (.int (3 + r1)), some (.int r2), some (.int most), none, none, none, none, none, none] ∧ But p H H' ∧ PenAt K H' p e (n + 2), ?_, ?_⟩
    · refine ⟨(by show 7 ≤ sizeLine; decide), fun q hq => ?_⟩
      have hb := (b12.new hq : But p H (upd H2 q (.lst [.int 9, .int 9, .int 3, .int 1000000, .int 4, .int 9, .int 2])))
      have hp := (pen2.put hq : PenAt K (upd H2 q (.lst [.int 9, .int 9, .int 3, .int 1000000, .int 4, .int 9, .int 2])) p e (n + 1 + 1))
      have c7 : r2 = 0 ∨ r2 = 1 ∨ r2 = 2 ∨ r2 = 3 ∨ r2 = 4 ∨ r2 = 5 ∨ r2 = 6 := by omega
      rcases c7 with c | c | c | c | c | c | c <;> subst c <;> refine ⟨_, rfl, q, _, _, _, rfl, rfl, SqL.of upd_same, rfl, ?_⟩ <;> exact ⟨_, by decide, by decide, by decide, by decide, rfl, hb, hp⟩
    · rintro σ' H3 ⟨most, m1, m2, m4, m5, rfl, b3, pen3⟩
      have hmany : (3 + r1).toNat ≤ 8 := by omega
      have hmn : (((3 + r1).toNat : Nat) : Int) = 3 + r1 := by omega
      -- found = [1 + draw(pen, most) for bar in range(many)]
      refine ⟨_, rfl, _, rfl, by omega, by omega, fun D hD => ?_⟩
      have hDp : D ≠ p := pen3.ne hD
      have hD0 : H D = none := b3.free hDp hD
      refine lc_range (lo := 0) (n := (3 + r1).toNat) (fun i H' => ∃ ls : List Int, ls.length = i ∧ Bd most ls ∧ H' D = some (.lst (ls.map V.int)) ∧ But p H H' ∧ PenAt K H' p e (n + 2 + i)) ⟨[], rfl, fun x hx => (by cases hx), upd_same, b3.mut hD0, pen.mut pen3 b3 hD0⟩ ?_ ?_
      · rintro i H' hi ⟨ls, ll, bd, hd, b, pen'⟩
        refine ⟨rfl, _, rfl, _, rfl, p, e, most, n + 2 + i, rfl, m1, m2, by omega, pen', fun r H4 q0 q1 b4 pen4 => ⟨_, _, rfl, rfl, _, b4 D _ hDp hd, szl (by rw [List.length_map]; omega), ls ++ [1 + r], by rw [List.length_append, ll]; rfl, bd.snoc (by omega) (by omega), ?_, (b.trans b4).mut hD0, pen.mut pen4 (b.trans b4) hD0⟩⟩
        rw [List.map_append]
        exact upd_same
      · rintro H4 ⟨ls, ll, bd, hd, b4, pen4⟩
        have l3 : 3 ≤ ls.length := by omega
        have l8 : ls.length ≤ 8 := by omega
        -- at = draw(pen, many)
        refine ⟨_, rfl, _, rfl, p, e, 3 + r1, _, rfl, by omega, by omega, by omega, pen4, fun r5 H5 r5a r5b b5 pen5 => ?_⟩
        have hd5 := b5 D _ hDp hd
        have b45 := b4.trans b5
        have h5 : r5.toNat < ls.length := by omega
        have h5' : r5 < (ls.length : Int) := by omega
        have hsum := bd.sum
        have hat := bd _ (List.getElem_mem h5)
        have hsum2 := Bd.sum (m := most) (ls := ls.eraseIdx r5.toNat) fun x hx => bd x (List.mem_of_mem_eraseIdx hx)
        have hser : (ls.eraseIdx r5.toNat).sum = ls.sum - ls[r5.toNat] := by
          exact erase_sum h5
        -- rest = sum(found) - found[at]
        refine ⟨_, rfl, D, ls, rfl, SqL.of hd5, _, rfl, _, rfl, D, _, r5, _, rfl, rfl, SqL.of hd5, at_of (j := r5.toNat) (by omega) (int_get h5), _, _, rfl, rfl, ?_⟩
        refine ⟨fun σ' H' => ∃ (ls' : List Int), ls'.length = ls.length ∧ Bd 1000000 ls' ∧ (r2 = 5 → Bd 9 ls') ∧ σ' = [some (.ref p), some (.int (3 + r1)), some (.int r2), some (.int most), some (.ref D), some (.int r5), some (.int (ls.sum - ls[r5.toNat])), none, none, none] ∧ But p H H' ∧ H' D = some (.lst (ls'.map V.int)) ∧ PenAt K H' p e (n + 12), ?_, ?_⟩
        · refine ⟨_, rfl, rfl, _, rfl, ?_⟩
          refine ite2 (fun c => ?_) (fun c => ?_)
          · have c4 : r2 = 4 := by simpa using c
            have e4 := m4 c4
            subst e4
            refine ⟨_, rfl, _, rfl, p, e, 3, _, rfl, by decide, by decide, by omega, pen5, fun r6 H6 r6a r6b b6 pen6 => ⟨_, _, rfl, rfl, _, rfl, _, rfl, D, _, r5, r5.toNat, rfl, rfl, b6 D _ hDp hd5, ixN_at r5a (by rw [List.length_map]; exact h5'), ?_⟩⟩
            rw [set_map]
            have le : (ls.eraseIdx r5.toNat).length = ls.length - 1 := by rw [List.length_eraseIdx_of_lt h5]
            refine ⟨ls.set r5.toNat (ls.sum - ls[r5.toNat] + r6), by rw [List.length_set], (bd.le (by decide)).set (by omega) (by omega), fun z => by omega, rfl, (b45.trans b6).mut hD0, upd_same, (pen.mut pen6 (b45.trans b6) hD0).mono (by omega)⟩
          · exact ⟨ls, rfl, bd.le m2, fun z => by rw [m5 z] at bd; exact bd, rfl, b45, hd5, pen5.mono (by omega)⟩
        · rintro σ' H6 ⟨ls6, ll6, bd6, bd65, rfl, b6, hd6, pen6⟩
          refine ⟨fun σ' H' => ∃ (ls' : List Int) (u7 : Option V), ls'.length = ls.length ∧ Bd 1000000 ls' ∧ σ' = [some (.ref p), some (.int (3 + r1)), some (.int r2), some (.int most), some (.ref D), some (.int r5), some (.int (ls.sum - ls[r5.toNat])), u7, none, none] ∧ But p H H' ∧ H' D = some (.lst (ls'.map V.int)) ∧ PenAt K H' p e (n + 30), ?_, ?_⟩
          · refine ⟨_, rfl, rfl, _, rfl, ?_⟩
            refine ite2 (fun c => ?_) (fun c => ?_)
            · have c5 : r2 = 5 := by simpa using c
              have b9 := bd65 c5
              -- signed = sum([length * (1 - 2 * draw(pen, 2)) for bar, length in enumerate(found) if bar != at])
              refine ⟨_, rfl, D, _, rfl, SqL.of hd6, fun G hG => ?_⟩
              have hGp : G ≠ p := pen6.ne hG
              have hG0 : H G = none := b6.free hGp hG
              have hDG : D ≠ G := ne_of_none hd6 hG
              refine lc_it walk_enum (fun i H' => ∃ ms : List Int, ms.length ≤ i ∧ (∀ x ∈ ms, -9 ≤ x ∧ x ≤ 9) ∧ H' G = some (.lst (ms.map V.int)) ∧ H' D = some (.lst (ls6.map V.int)) ∧ But p H H' ∧ PenAt K H' p e (n + 12 + i))
                ⟨[], Nat.le_refl _, fun x hx => (by cases hx), upd_same, by rw [upd_ne hDG]; exact hd6, b6.mut hG0, pen.mut pen6 b6 hG0⟩ (fun i H' _ ⟨_, _, _, _, h, _⟩ => SqL.of h) ?_ ?_
              · rintro i x H7 H8 hi ⟨ms, ml, mb, hg, hd7, b7, pen7⟩ ⟨U, x1, x2, rfl, hU, rfl, e1, e2⟩
                obtain rfl := (Option.some.inj e1).symm
                obtain ⟨z, hz, rfl⟩ := int_at e2
                rw [List.length_map] at hi
                have hUp : U ≠ p := pen7.ne hU
                have hU0 : H U = none := b7.free hUp hU
                have hGU : G ≠ U := ne_of_none hg hU
                have hDU : D ≠ U := ne_of_none hd7 hU
                have b8 : But p H (upd H7 U (.tup [.int (i : Nat), .int z])) := b7.mut hU0
                have pen8 : PenAt K (upd H7 U (.tup [.int (i : Nat), .int z])) p e (n + 12 + i) := pen.mut pen7 b7 hU0
                have hg8 : upd H7 U (.tup [.int (i : Nat), .int z]) G = some (.lst (ms.map V.int)) := by rw [upd_ne hGU]; exact hg
                have hd8 : upd H7 U (.tup [.int (i : Nat), .int z]) D = some (.lst (ls6.map V.int)) := by rw [upd_ne hDU]; exact hd7
                refine ⟨U, _, rfl, .inl (.inl upd_same), rfl, _, _, rfl, _, _, rfl, rfl, rfl, _, rfl, _, rfl, rfl, _, rfl, ?_⟩
                refine ite2 (fun c => ?_) (fun c => ?_)
                · refine ⟨_, rfl, _, rfl, p, e, 2, n + 12 + i, rfl, by decide, by decide, by omega, pen8, fun r H9 q0 q1 b9' pen9 => ⟨_, _, rfl, rfl, .inl ⟨by decide, by decide⟩, _, _, rfl, rfl, ?_⟩⟩
                  have hz9 := b9 z (List.mem_of_getElem? hz)
                  refine ⟨_, _, rfl, rfl, .inl ⟨by omega, by omega⟩, _, b9' G _ hGp hg8, szl (by rw [List.length_map]; omega), ms ++ [z * (1 - 2 * r)], by rw [List.length_append]; simp; omega, ?_, ?_, by rw [upd_ne hDG]; exact b9' D _ hDp hd8, (b8.trans b9').mut hG0, pen.mut pen9 (b8.trans b9') hG0⟩
                  · intro y hy
                    rcases List.mem_append.mp hy with q | q
                    · exact mb y q
                    · rw [List.mem_singleton.mp q]
                      have hr : r = 0 ∨ r = 1 := by omega
                      rcases hr with rfl | rfl <;> omega
                  · rw [List.map_append]
                    exact upd_same
                · exact ⟨ms, by omega, mb, hg8, hd8, b8, pen8.mono (by omega)⟩
              · rintro H7 ⟨ms, ml, mb, hg, hd7, b7, pen7⟩
                rw [List.length_map] at ml
                have hs := abs_sum (by decide) mb
                refine ⟨G, ms, rfl, SqL.of hg, ?_⟩
                -- found[at] = max(1, abs(signed))
                refine ⟨_, rfl, _, rfl, _, _, rfl, _, rfl, _, rfl, D, _, r5, r5.toNat, rfl, rfl, hd7, ixN_at r5a (by rw [List.length_map]; omega), ?_⟩
                rw [set_map]
                refine ⟨_, _, by rw [List.length_set]; exact ll6, bd6.set ?_ ?_, rfl, b7.mut hD0, upd_same, (pen.mut pen7 b7 hD0).mono (by rw [List.length_map]; omega)⟩
                · split <;> split <;> omega
                · split <;> split <;> omega
            · exact ⟨ls6, none, ll6, bd6, rfl, b6, hd6, pen6.mono (by omega)⟩
          · rintro σ' H8 ⟨ls8, u7, ll8, bd8, rfl, b8, hd8, pen8⟩
            exact ⟨_, rfl, k D ls8 H8 (by omega) (by omega) bd8 hD0 b8 hd8 pen8⟩
end
end K
namespace K
open PySem L2 Rg
open Evl (pss_cut)
/-- the kinds that are asked for -/
def kinds : List String := ["NoneType", "bool", "int", "str", "list", "tuple", "dict"]
theorem kit_int : ∀ k ∈ kinds, kitB k "int" = some (decide (k = "int" ∨ k = "bool")) := by decide +kernel
theorem kit_bool : ∀ k ∈ kinds, kitB k "bool" = some (decide (k = "bool")) := by decide +kernel
theorem kit_list : ∀ k ∈ kinds, kitB k "list" = some (decide (k = "list")) := by decide +kernel
theorem kit_tuple : ∀ k ∈ kinds, kitB k "tuple" = some (decide (k = "tuple")) := by decide +kernel
/-- v is of the kind k -/
def Knd (K : PySem.W.Frag) (H : Hp) (v : V) (k : String) : Prop := TyX K H v (.type k) ∧ k ∈ kinds
section
variable {P : Program} {w : World} {K : PySem.W.Frag} {mg : Str → Option Value} {base : Heap}
theorem Knd.int {H : Hp} {i : Int} : Knd K H (.int i) "int" := ⟨.base (.int i), by decide⟩
theorem tyx_same {H H' : Hp} {v : V} {t : Value} (h : TyX K H v t) (s : Same H H') : TyX K H' v t := by
  cases h with
  | base h =>
    refine .base ?_
    cases h with
    | non => exact .non
    | bl x => exact .bl x
    | int x => exact .int x
    | str x => exact .str x
    | flt x => exact .flt x
    | lst e => exact .lst (s _ _ e)
    | frz e => exact .frz (s _ _ e)
    | tup e => exact .tup (s _ _ e)
    | dK e => exact .dK (s _ _ e)
    | dT e => exact .dT (s _ _ e)
    | ins e cl ha hn htk hm => exact .ins (s _ _ e) cl ha hn htk hm
  | byt b => exact .byt b
  | set e => exact .set (s _ _ e)
  | kList e c => exact .kList e c
  | kTuple e c => exact .kTuple e c
  | kDict e c => exact .kDict e c
  | fTuple e => exact .fTuple (s _ _ e)
  | fDict e => exact .fDict (s _ _ e)
theorem Knd.same {H H' : Hp} {v : V} {k : String} (h : Knd K H v k) (s : Same H H') : Knd K H' v k := ⟨tyx_same h.1 s, h.2⟩
/-! ### is_integer -/
def spIsInt (K : PySem.W.Frag) : Sp := fun vs H Q _ => ∃ (v : V) (k : String), vs = [v] ∧ Knd K H v k ∧ Q (.bl (decide (k = "int"))) H
theorem scIsInt : FnScope ["value"] ["value"] (defScope sIsInteger) := ⟨rfl, rfl, rfl, by decide +kernel, rfl, by decide +kernel, by decide +kernel⟩
theorem ok_isInt {f : Addr} {fd : FuncData} (F : Fun K "is_integer" "is_integer" sIsInteger f fd) (T : Bi mg) : FnOk P w K mg base CX0 1 f fd ["value"] (spIsInt K) := by
  refine F.ok scIsInt (fun vs H Q E h => ?_) (fun cdv A outer s H vs Q E hr h => ?_)
  · obtain ⟨v, k, rfl, _⟩ := h
    rfl
  · refine ⟨_, pss_one (ps_ret (pe_and (pe_callB call_isi (by rfl) T.isinstance (by decide +kernel) (pa_cons (pv 0) (pa_cons (pe_bltn (v := .ty "int") (u := .type "int") (by rfl) T.int (by decide +kernel) rfl) pa_nil)))
      (pe_one (pe_not (pe_callB call_isi (by rfl) T.isinstance (by decide +kernel) (pa_cons (pv 0) (pa_cons (pe_bltn (v := .ty "bool") (u := .type "bool") (by rfl) T.bool (by decide +kernel) rfl) pa_nil))))))), ?_⟩
    obtain ⟨v, k, rfl, ⟨ty, hk⟩, q⟩ := h
    refine ⟨_, rfl, v, .ty "int", _, _, _, rfl, .ty _, ty, kit_ty (kit_int k hk), _, rfl, ?_⟩
    refine ite2 (fun c => ?_) (fun c => ?_)
    · refine ⟨_, rfl, v, .ty "bool", _, _, _, rfl, .ty _, ty, kit_ty (kit_bool k hk), _, rfl, ?_⟩
      have c' : k = "int" ∨ k = "bool" := of_decide_eq_true c
      have e : (!decide (k = "bool")) = decide (k = "int") := by
        rcases c' with rfl | rfl <;> decide
      rw [e]
      exact q
    · have c' : ¬ (k = "int" ∨ k = "bool") := fun z => c (decide_eq_true z)
      have e : decide (k = "int") = false := decide_eq_false fun z => c' (.inl z)
      rw [e] at q
      exact q
/-! ### is_list -/
def spIsList (K : PySem.W.Frag) : Sp := fun vs H Q _ => ∃ (v : V) (k : String), vs = [v] ∧ Knd K H v k ∧ ∀ H', Same H H' → Q (.bl (decide (k = "list" ∨ k = "tuple"))) H'
theorem scIsList : FnScope ["value"] ["value"] (defScope sIsList) := ⟨rfl, rfl, rfl, by decide +kernel, rfl, by decide +kernel, by decide +kernel⟩
theorem ok_isList {f : Addr} {fd : FuncData} (F : Fun K "is_list" "is_list" sIsList f fd) (T : Bi mg) : FnOk P w K mg base CX0 1 f fd ["value"] (spIsList K) := by
  refine F.ok scIsList (fun vs H Q E h => ?_) (fun cdv A outer s H vs Q E hr h => ?_)
  · obtain ⟨v, k, rfl, _⟩ := h
    rfl
  · refine ⟨_, pss_one (ps_ret (pe_callB call_isiT (by rfl) T.isinstance (by decide +kernel) (pa_cons (pv 0) (pa_cons (pe_tup (pa_cons (pe_bltn (v := .ty "list") (u := .type "list") (by rfl) T.list (by decide +kernel) rfl) (pa_cons (pe_bltn (v := .ty "tuple") (u := .type "tuple") (by rfl) T.tuple (by decide +kernel) rfl) pa_nil))) pa_nil)))), ?_⟩
    obtain ⟨v, k, rfl, ⟨ty, hk⟩, q⟩ := h
    refine ⟨_, rfl, (by show 2 ≤ sizeLine; decide), fun p hp => ?_⟩
    have s1 : Same H (upd H p (.tup [.ty "list", .ty "tuple"])) := (Same.refl H).new hp
    refine ⟨v, p, [.ty "list", .ty "tuple"], _, _, decide (k = "list" ∨ k = "tuple"), rfl, upd_same, .cons (.ty _) (.cons (.ty _) .nil), tyx_same ty s1, kitAny_cons (kit_ty (kit_list k hk)) (fun e => kitAny_cons (b := decide (k = "tuple")) (r := decide (k = "list" ∨ k = "tuple")) (kit_ty (kit_tuple k hk)) (fun e' => ?_) fun e' => ?_) fun e => ?_, q _ s1⟩
    · have h1 : ¬ k = "list" := of_decide_eq_false e
      have h2 : ¬ k = "tuple" := of_decide_eq_false e'
      rw [kitAny_nil, decide_eq_false (fun z => z.elim h1 h2)]
    · exact decide_eq_true (.inr (of_decide_eq_true e'))
    · exact decide_eq_true (.inl (of_decide_eq_true e))
end
end K
namespace K
open PySem L2 Rg
open Evl (pss_cut)
theorem iteDT {c A B : Prop} [Decidable c] (hc : c) (h : A) : if decide c = true then A else B := by
  rw [if_pos (decide_eq_true hc)]; exact h
theorem iteDF {c A B : Prop} [Decidable c] (hc : ¬ c) (h : B) : if decide c = true then A else B := by
  rw [if_neg (by rw [decide_eq_false hc]; exact Bool.false_ne_true)]; exact h
theorem iteBT {c : Bool} {A B : Prop} (hc : c = true) (h : A) : if c = true then A else B := by
  rw [if_pos hc]; exact h
theorem iteBF {c : Bool} {A B : Prop} (hc : c = false) (h : B) : if c = true then A else B := by
  rw [if_neg (by rw [hc]; exact Bool.false_ne_true)]; exact h
theorem sm {n : Nat} (h : n ≤ 10000) : n < sizeLine := Nat.lt_of_le_of_lt h (by decide)
/-- a def of the text, by its name -/
structure DefAt (P : Program) (w : World) (K : PySem.W.Frag) (mg : Str → Option Value) (base : Heap) (CX : CXT) (k : Nat) (x : Str) (ps : List Str) (sp : Sp) (f : Addr) (fd : FuncData) : Prop where
  ok : FnOk P w K mg base CX k f fd ps sp
  g : mg x = some (.ref f)
  kp : PySem.W.keepIn K (.ref f) = true
  b : Binds K fd ps []
section
variable {P : Program} {w : World} {K : PySem.W.Frag} {mg : Str → Option Value} {base : Heap}
/-- two promises of one def -/
theorem fn_or {CX : CXT} {k : Nat} {f : Addr} {fd : FuncData} {ps : List Str} {sp sp' : Sp} (F : FnOk P w K mg base CX k f fd ps sp) (G : FnOk P w K mg base CX k f fd ps sp') : FnOk P w K mg base CX k f fd ps (fun vs H Q E => sp vs H Q E ∨ sp' vs H Q E) :=
  ⟨fun vs H Q E h => h.elim (F.len vs H Q E) (G.len vs H Q E), fun A outer s H args us vs Q E hr e0 hb hv h => h.elim (F.run A outer s H args us vs Q E hr e0 hb hv) (G.run A outer s H args us vs Q E hr e0 hb hv)⟩
/-! ### is_within, of ints -/
def spWithin : Sp := fun vs H Q _ => ∃ (v lo hi : Int), vs = [.int v, .int lo, .int hi] ∧ Q (.bl (decide (lo ≤ v) && decide (v ≤ hi))) H
theorem scWithin : FnScope ["value", "least", "most"] ["value", "least", "most"] (defScope sIsWithin) := ⟨rfl, rfl, rfl, by decide +kernel, rfl, by decide +kernel, by decide +kernel⟩
theorem ok_within {f fI : Addr} {fd fdI : FuncData} (F : Fun K "is_within" "is_within" sIsWithin f fd) (G : DefAt P w K mg base CX0 1 "is_integer" ["value"] (spIsInt K) fI fdI) : FnOk P w K mg base CX0 2 f fd ["value", "least", "most"] spWithin := by
  refine F.ok scWithin (fun vs H Q E h => ?_) (fun cdv A outer s H vs Q E hr h => ?_)
  · obtain ⟨v, lo, hi, rfl, _⟩ := h
    rfl
  · refine ⟨_, pss_cons (ps_if (pt_not (pt_val (pe_call G.ok hr rfl G.g G.kp G.b .nil pass0 (pa_cons (pv 0) pa_nil)))) (pss_one (ps_ret pe_bl)) pss_nil)
      (pss_one (ps_ret (pe_and (pe_or (pe_cmpR op_isN (pv 1) pe_non (nomark _)) (pe_one (pe_cmpR op_ge (pv 0) (pv 1) (nomark _)))) (pe_one (pe_or (pe_cmpR op_isN (pv 2) pe_non (nomark _)) (pe_one (pe_cmpR op_le (pv 0) (pv 2) (nomark _)))))))), ?_⟩
    obtain ⟨v, lo, hi, rfl, q⟩ := h
    refine ⟨_, rfl, V.int v, "int", rfl, Knd.int, _, rfl, iteNS rfl ?_⟩
    refine ⟨_, rfl, rfl, _, rfl, iteDF (fun z => nomatch z) ⟨_, rfl, _, rfl, _, _, rfl, rfl, _, rfl, ?_⟩⟩
    refine ite2 (fun c => ?_) (fun c => ?_)
    · have c' : lo ≤ v := of_decide_eq_true c
      refine ⟨_, rfl, rfl, _, rfl, iteDF (fun z => nomatch z) ⟨_, rfl, _, rfl, _, _, rfl, rfl, ?_⟩⟩
      rw [decide_eq_true c', Bool.true_and] at q
      exact q
    · have c' : ¬ lo ≤ v := fun z => c (decide_eq_true z)
      rw [decide_eq_false c', Bool.false_and] at q
      exact q
/-! ### is_numbers -/
abbrev nNums : List Str := ["value", "one"]
theorem scNums : FnScope nNums ["value"] (defScope sIsNumbers) := ⟨rfl, rfl, rfl, by decide +kernel, rfl, by decide +kernel, by decide +kernel⟩
/-- of what is no list or tuple | of a list | of a tuple -/
def spNumsO (K : PySem.W.Frag) : Sp := fun vs H Q _ => ∃ (v : V) (k : String), vs = [v] ∧ Knd K H v k ∧ k ≠ "list" ∧ k ≠ "tuple" ∧ ∀ H', Same H H' → Q (.bl false) H'
def spNumsL (K : PySem.W.Frag) : Sp := fun vs H Q _ => ∃ (a : Addr) (xs : List V) (kf : V → String), vs = [.ref a] ∧ Knd K H (.ref a) "list" ∧ SqL K H a xs ∧ xs.length ≤ 1000 ∧ (∀ x ∈ xs, Knd K H x (kf x)) ∧ ∀ H', Same H H' → Q (.bl (xs.all fun x => decide (kf x = "int"))) H'
def spNumsT (K : PySem.W.Frag) : Sp := fun vs H Q _ => ∃ (a : Addr) (xs : List V) (kf : V → String), vs = [.ref a] ∧ Knd K H (.ref a) "tuple" ∧ SqT K H a xs ∧ xs.length ≤ 1000 ∧ (∀ x ∈ xs, Knd K H x (kf x)) ∧ ∀ H', Same H H' → Q (.bl (xs.all fun x => decide (kf x = "int"))) H'
theorem all_map_bl (xs : List V) (g : V → Bool) : ((xs.map g).all id) = xs.all g := by
  rw [List.all_map]; rfl
theorem ok_numsO {f fI fL : Addr} {fd fdI fdL : FuncData} (F : Fun K "is_numbers" "is_numbers" sIsNumbers f fd) (T : Bi mg) (G : DefAt P w K mg base CX0 1 "is_integer" ["value"] (spIsInt K) fI fdI) (L : DefAt P w K mg base CX0 1 "is_list" ["value"] (spIsList K) fL fdL) : FnOk P w K mg base CX0 2 f fd ["value"] (spNumsO K) := by
  refine F.ok scNums (fun vs H Q E h => ?_) (fun cdv A outer s H vs Q E hr h => ?_)
  · obtain ⟨v, k, rfl, _⟩ := h
    rfl
  · refine ⟨_, pss_one (ps_ret (pe_and (pe_call L.ok hr rfl L.g L.kp L.b .nil pass0 (pa_cons (pv 0) pa_nil)) (pe_one (pe_callB (cr_all rfl) (by rfl) T.all (by decide +kernel) (pa_cons (pe_lc (own := [("one", 1)]) (g := gName 1) (tt := tYes) rfl scNums.nd (pi_list (pv 0))
      (blkOk_by (N := nNums) (sc := defScope sIsNumbers) (by decide +kernel)) (fun _ _ _ _ _ => pg_name (i := 1) scNums.nd rfl (Or.inl rfl)) (fun _ _ _ _ _ => pts_nil) (fun _ _ _ _ _ => pe_call G.ok hr rfl G.g G.kp G.b .nil pass0 (pa_cons (pv 1) pa_nil))) pa_nil))))), ?_⟩
    obtain ⟨v, k, rfl, hk, k1, k2, q⟩ := h
    exact ⟨_, rfl, v, k, rfl, hk, fun H' s1 => ⟨_, rfl, iteDF (fun z => z.elim k1 k2) (q H' s1)⟩⟩
theorem ok_numsL {f fI fL : Addr} {fd fdI fdL : FuncData} (F : Fun K "is_numbers" "is_numbers" sIsNumbers f fd) (T : Bi mg) (G : DefAt P w K mg base CX0 1 "is_integer" ["value"] (spIsInt K) fI fdI) (L : DefAt P w K mg base CX0 1 "is_list" ["value"] (spIsList K) fL fdL) : FnOk P w K mg base CX0 2 f fd ["value"] (spNumsL K) := by
  refine F.ok scNums (fun vs H Q E h => ?_) (fun cdv A outer s H vs Q E hr h => ?_)
  · obtain ⟨v, k, kf, rfl, _⟩ := h
    rfl
  · refine ⟨_, pss_one (ps_ret (pe_and (pe_call L.ok hr rfl L.g L.kp L.b .nil pass0 (pa_cons (pv 0) pa_nil)) (pe_one (pe_callB (cr_all rfl) (by rfl) T.all (by decide +kernel) (pa_cons (pe_lc (own := [("one", 1)]) (g := gName 1) (tt := tYes) rfl scNums.nd (pi_list (pv 0))
      (blkOk_by (N := nNums) (sc := defScope sIsNumbers) (by decide +kernel)) (fun _ _ _ _ _ => pg_name (i := 1) scNums.nd rfl (Or.inl rfl)) (fun _ _ _ _ _ => pts_nil) (fun _ _ _ _ _ => pe_call G.ok hr rfl G.g G.kp G.b .nil pass0 (pa_cons (pv 1) pa_nil))) pa_nil))))), ?_⟩
    obtain ⟨a, xs, kf, rfl, hk, hs, hl, hx, q⟩ := h
    refine ⟨_, rfl, _, "list", rfl, hk, fun H1 s1 => ⟨_, rfl, iteDT (.inl rfl) ?_⟩⟩
    refine ⟨_, rfl, a, rfl, ⟨_, s1.seq hs⟩, fun D hD => ?_⟩
    have hD0 := s1.free hD
    refine lc_list (K := K) (a := a) (xs := xs) (fun i H' => Same H H' ∧ H' D = some (.lst ((xs.take i).map fun x => V.bl (decide (kf x = "int"))))) ⟨s1.new hD, upd_same⟩ (fun i H' _ p => p.1.seq hs) ?_ ?_
    · rintro i x H' hi ⟨s2, h2⟩
      refine ⟨rfl, _, rfl, x, kf x, rfl, (hx x (List.mem_of_getElem? hi)).same s2, _, h2, (by rw [List.length_map, List.length_take]; exact sm (by omega)), s2.mut hD0, ?_⟩
      rw [upd_same, List.take_succ, hi, List.map_append]
      rfl
    · rintro H' ⟨s2, h2⟩
      rw [List.take_length] at h2
      refine ⟨D, xs.map fun x => decide (kf x = "int"), rfl, SqL.of (by rw [List.map_map]; exact h2), ?_⟩
      rw [all_map_bl]
      exact q H' s2
theorem ok_numsT {f fI fL : Addr} {fd fdI fdL : FuncData} (F : Fun K "is_numbers" "is_numbers" sIsNumbers f fd) (T : Bi mg) (G : DefAt P w K mg base CX0 1 "is_integer" ["value"] (spIsInt K) fI fdI) (L : DefAt P w K mg base CX0 1 "is_list" ["value"] (spIsList K) fL fdL) : FnOk P w K mg base CX0 2 f fd ["value"] (spNumsT K) := by
  refine F.ok scNums (fun vs H Q E h => ?_) (fun cdv A outer s H vs Q E hr h => ?_)
  · obtain ⟨v, k, kf, rfl, _⟩ := h
    rfl
  · refine ⟨_, pss_one (ps_ret (pe_and (pe_call L.ok hr rfl L.g L.kp L.b .nil pass0 (pa_cons (pv 0) pa_nil)) (pe_one (pe_callB (cr_all rfl) (by rfl) T.all (by decide +kernel) (pa_cons (pe_lc (own := [("one", 1)]) (g := gName 1) (tt := tYes) rfl scNums.nd (pi_tup (pv 0))
      (blkOk_by (N := nNums) (sc := defScope sIsNumbers) (by decide +kernel)) (fun _ _ _ _ _ => pg_name (i := 1) scNums.nd rfl (Or.inl rfl)) (fun _ _ _ _ _ => pts_nil) (fun _ _ _ _ _ => pe_call G.ok hr rfl G.g G.kp G.b .nil pass0 (pa_cons (pv 1) pa_nil))) pa_nil))))), ?_⟩
    obtain ⟨a, xs, kf, rfl, hk, hs, hl, hx, q⟩ := h
    refine ⟨_, rfl, _, "tuple", rfl, hk, fun H1 s1 => ⟨_, rfl, iteDT (.inr rfl) ?_⟩⟩
    refine ⟨_, rfl, a, rfl, ⟨_, s1.tup hs⟩, fun D hD => ?_⟩
    have hD0 := s1.free hD
    refine lc_tup (K := K) (a := a) (xs := xs) (fun i H' => Same H H' ∧ H' D = some (.lst ((xs.take i).map fun x => V.bl (decide (kf x = "int"))))) ⟨s1.new hD, upd_same⟩ (fun i H' _ p => p.1.tup hs) ?_ ?_
    · rintro i x H' hi ⟨s2, h2⟩
      refine ⟨rfl, _, rfl, x, kf x, rfl, (hx x (List.mem_of_getElem? hi)).same s2, _, h2, (by rw [List.length_map, List.length_take]; exact sm (by omega)), s2.mut hD0, ?_⟩
      rw [upd_same, List.take_succ, hi, List.map_append]
      rfl
    · rintro H' ⟨s2, h2⟩
      rw [List.take_length] at h2
      refine ⟨D, xs.map fun x => decide (kf x = "int"), rfl, SqL.of (by rw [List.map_map]; exact h2), ?_⟩
      rw [all_map_bl]
      exact q H' s2
end
end K
namespace K
open PySem L2 Rg
open Evl (pss_cut)
/-- the first that stands twice, behind those seen -/
def ft : List Int → List Int → Option Int
  | _, [] => none
  | seen, x :: xs => if x ∈ seen then some x else ft (seen ++ [x]) xs
def oV : Option Int → V
  | none => .non
  | some x => .int x
def seenK (l : List Int) : List (Key × V) := l.map fun k => (Sum.inl k, V.bl true)
theorem seen_val (l : List Int) (n : Int) : valV (seenK l) (Sum.inl n : Key) = if n ∈ l then some (.bl true) else none := by
  induction l with
  | nil => rfl
  | cons x l ih =>
    by_cases e : x = n
    · rw [if_pos (by rw [e]; exact List.mem_cons_self ..)]
      exact valV_pos (p := ((Sum.inl x : Key), V.bl true)) (by rw [e])
    · have h1 : valV (seenK (x :: l)) (Sum.inl n : Key) = valV (seenK l) (Sum.inl n) := valV_neg (p := ((Sum.inl x : Key), V.bl true)) (fun z => e (Sum.inl.inj z))
      rw [h1, ih]
      by_cases f : n ∈ l
      · rw [if_pos f, if_pos (List.mem_cons_of_mem _ f)]
      · rw [if_neg f, if_neg fun z => (List.mem_cons.mp z).elim (fun q => e q.symm) f]
theorem seen_len (l : List Int) : (seenK l).length = l.length := List.length_map ..
theorem seen_put {l : List Int} {n : Int} (h : n ∉ l) : putK (seenK l) (Sum.inl n : Key) (.bl true) = seenK (l ++ [n]) := by
  rw [putK_new _ (by rw [seen_val, if_neg h])]
  simp [seenK]
theorem ft_step {ns : List Int} {i : Nat} {z : Int} (h : ns[i]? = some z) : ft (ns.take i) (ns.drop i) = if z ∈ ns.take i then some z else ft (ns.take (i + 1)) (ns.drop (i + 1)) := by
  obtain ⟨hi, rfl⟩ := List.getElem?_eq_some_iff.mp h
  rw [List.drop_eq_getElem_cons hi, ← take_snoc h]
  rfl
section
variable {P : Program} {w : World} {K : PySem.W.Frag} {mg : Str → Option Value} {base : Heap}
/-! ### fixed, of an int -/
def spFixed : Sp := fun vs H Q _ => ∃ i : Int, vs = [.int i] ∧ ∀ H', Same H H' → Q (.int i) H'
theorem scFixed : FnScope ["value"] ["value"] (defScope sFixed) := ⟨rfl, rfl, rfl, by decide +kernel, rfl, by decide +kernel, by decide +kernel⟩
theorem ok_fixed {f : Addr} {fd : FuncData} (F : Fun K "fixed" "fixed" sFixed f fd) (T : Bi mg) : FnOk P w K mg base CX0 1 f fd ["value"] spFixed := by
  refine F.ok scFixed (fun vs H Q E h => ?_) (fun cdv A outer s H vs Q E hr h => ?_)
  · obtain ⟨v, rfl, _⟩ := h
    rfl
  · refine ⟨_, pss_cons (ps_if (pt_val (pe_callB call_isiT (by rfl) T.isinstance (by decide +kernel) (pa_cons (pv 0) (pa_cons (pe_tup (pa_cons (pe_bltn (v := .ty "list") (u := .type "list") (by rfl) T.list (by decide +kernel) rfl) (pa_cons (pe_bltn (v := .ty "tuple") (u := .type "tuple") (by rfl) T.tuple (by decide +kernel) rfl) pa_nil))) pa_nil)))) (pss_one ps_never) pss_nil)
      (pss_one (ps_ret (pv 0))), ?_⟩
    obtain ⟨i, rfl, q⟩ := h
    refine ⟨_, rfl, (by show 2 ≤ sizeLine; decide), fun p hp => ?_⟩
    have s1 : Same H (upd H p (.tup [.ty "list", .ty "tuple"])) := (Same.refl H).new hp
    refine ⟨.int i, p, [.ty "list", .ty "tuple"], .type "int", _, false, rfl, upd_same, .cons (.ty _) (.cons (.ty _) .nil), .base (.int i), kitAny_cons (kit_ty (kit_list "int" (by decide))) (fun e => kitAny_cons (b := false) (r := false) (kit_ty (kit_tuple "int" (by decide))) (fun _ => kitAny_nil) fun e' => nomatch e') (fun e => nomatch e), _, rfl, iteF ?_⟩
    exact ⟨_, rfl, q _ s1⟩
/-! ### twice_at, first_twice, of ints: a list | a tuple -/
def tatQ (ns : List Int) (H : Hp) (Q : VK) : Prop := ∀ H', Same H H' → (ft [] ns = none → Q .non H') ∧ ∀ (i : Nat) (z : Int), ns[i]? = some z → ft [] ns = some z → Q (.int (i : Nat)) H'
def spTaL (K : PySem.W.Frag) : Sp := fun vs H Q _ => ∃ (a : Addr) (ns : List Int), vs = [.ref a] ∧ SqL K H a (ns.map V.int) ∧ ns.length ≤ 1000 ∧ tatQ ns H Q
def spTaT (K : PySem.W.Frag) : Sp := fun vs H Q _ => ∃ (a : Addr) (ns : List Int), vs = [.ref a] ∧ SqT K H a (ns.map V.int) ∧ ns.length ≤ 1000 ∧ tatQ ns H Q
abbrev nTa : List Str := ["values", "seen", "at", "value", "key"]
theorem scTa : FnScope nTa ["values"] (defScope sTwiceAt) := ⟨rfl, rfl, rfl, by decide +kernel, rfl, by decide +kernel, by decide +kernel⟩
theorem ok_taL {f fX : Addr} {fd fdX : FuncData} (F : Fun K "twice_at" "twice_at" sTwiceAt f fd) (T : Bi mg) (G : DefAt P w K mg base CX0 1 "fixed" ["value"] spFixed fX fdX) : FnOk P w K mg base CX0 2 f fd ["values"] (spTaL K) := by
  refine F.ok scTa (fun vs H Q E h => ?_) (fun cdv A outer s H vs Q E hr h => ?_)
  · obtain ⟨a, ns, rfl, _⟩ := h
    rfl
  · have hu := hu_of hr
    have nd := scTa.nd
    refine ⟨_, pss_cons (ps_set (i := 1) nd rfl (Or.inl rfl) pe_dnewK)
      (pss_cons (ps_for PassesOwn.never rfl (pi_enum (by rfl) T.enumerate (pa_cons (pv 0) pa_nil)) (pg_tup rfl (pgs_cons (pg_name (i := 2) nd rfl (Or.inl rfl)) (pgs_cons (pg_name (i := 3) nd rfl (Or.inl rfl)) pgs_nil)))
        (pss_cons (ps_set (i := 4) nd rfl (Or.inl rfl) (pe_call G.ok hr rfl G.g G.kp G.b .nil pass0 (pa_cons (pv 3) pa_nil)))
        (pss_cons (ps_if (pt_cmp (pc_din hu (pv 4) (pv 1))) (pss_one (ps_ret (pv 2))) pss_nil)
        (pss_one (ps_dput hu (pv 1) (pv 4) pe_bl rfl)))))
      (pss_one (ps_ret pe_non))), ?_⟩
    obtain ⟨a, ns, rfl, hs, hl, q⟩ := h
    intro d hd
    refine ⟨_, rfl, a, _, rfl, ((Same.refl H).new hd).seq hs, ?_⟩
    refine for_it walk_enum (fun i σ H' => ∃ (z1 v k : Option V), σ = [some (.ref a), some (.ref d), z1, v, k] ∧ Same H H' ∧ H' d = some (.dK (seenK (ns.take i))) ∧ ft [] ns = ft (ns.take i) (ns.drop i))
      ⟨none, none, none, rfl, (Same.refl H).new hd, upd_same, rfl⟩ (fun i σ H' _ ⟨_, _, _, _, s, _⟩ => s.seq hs) ?_ ?_
    · rintro i x σ H1 H2 hi ⟨z1, v, k, rfl, s1, h1, e1⟩ ⟨U, x1, x2, rfl, hU, rfl, ex1, ex2⟩
      obtain rfl := (Option.some.inj ex1).symm
      obtain ⟨z, hz, rfl⟩ := int_at ex2
      rw [List.length_map] at hi
      rw [ft_step hz] at e1
      have s2 : Same H1 (upd H1 U (.tup [.int (i : Nat), .int z])) := (Same.refl H1).new hU
      refine ⟨U, _, rfl, .inl (.inl upd_same), rfl, _, _, rfl, _, _, rfl, rfl, ?_⟩
      refine ⟨_, rfl, z, rfl, fun H3 s3 => ?_⟩
      have h3 := s3 _ _ (s2 _ _ h1)
      have s13 := s1.trans (s2.trans s3)
      refine ⟨_, rfl, _, rfl, d, _, rfl, DGet.k (k := Sum.inl z) h3, _, rfl, ?_⟩
      rw [seen_val]
      by_cases c : z ∈ ns.take i
      · rw [if_pos c] at e1 ⊢
        refine iteT ?_
        exact ⟨_, rfl, (q H3 s13).2 i z hz e1⟩
      · rw [if_neg c] at e1 ⊢
        refine iteF ?_
        refine ⟨_, rfl, _, rfl, d, _, rfl, DPut.k (k := Sum.inl z) h3 (by rw [seen_len, List.length_take]; exact sm (by omega)), ?_⟩
        rw [seen_put c, take_snoc hz]
        exact ⟨_, _, _, rfl, s13.mut hd, upd_same, e1⟩
    · rintro σ H' ⟨z1, v, k, rfl, s1, h1, e1⟩
      rw [List.length_map, List.drop_length] at e1
      exact (q H' s1).1 e1
theorem ok_taT {f fX : Addr} {fd fdX : FuncData} (F : Fun K "twice_at" "twice_at" sTwiceAt f fd) (T : Bi mg) (G : DefAt P w K mg base CX0 1 "fixed" ["value"] spFixed fX fdX) : FnOk P w K mg base CX0 2 f fd ["values"] (spTaT K) := by
  refine F.ok scTa (fun vs H Q E h => ?_) (fun cdv A outer s H vs Q E hr h => ?_)
  · obtain ⟨a, ns, rfl, _⟩ := h
    rfl
  · have hu := hu_of hr
    have nd := scTa.nd
    refine ⟨_, pss_cons (ps_set (i := 1) nd rfl (Or.inl rfl) pe_dnewK)
      (pss_cons (ps_for PassesOwn.never rfl (pi_enumT (by rfl) T.enumerate (pa_cons (pv 0) pa_nil)) (pg_tup rfl (pgs_cons (pg_name (i := 2) nd rfl (Or.inl rfl)) (pgs_cons (pg_name (i := 3) nd rfl (Or.inl rfl)) pgs_nil)))
        (pss_cons (ps_set (i := 4) nd rfl (Or.inl rfl) (pe_call G.ok hr rfl G.g G.kp G.b .nil pass0 (pa_cons (pv 3) pa_nil)))
        (pss_cons (ps_if (pt_cmp (pc_din hu (pv 4) (pv 1))) (pss_one (ps_ret (pv 2))) pss_nil)
        (pss_one (ps_dput hu (pv 1) (pv 4) pe_bl rfl)))))
      (pss_one (ps_ret pe_non))), ?_⟩
    obtain ⟨a, ns, rfl, hs, hl, q⟩ := h
    intro d hd
    refine ⟨_, rfl, a, _, rfl, ((Same.refl H).new hd).tup hs, ?_⟩
    refine for_it walk_enumT (fun i σ H' => ∃ (z1 v k : Option V), σ = [some (.ref a), some (.ref d), z1, v, k] ∧ Same H H' ∧ H' d = some (.dK (seenK (ns.take i))) ∧ ft [] ns = ft (ns.take i) (ns.drop i))
      ⟨none, none, none, rfl, (Same.refl H).new hd, upd_same, rfl⟩ (fun i σ H' _ ⟨_, _, _, _, s, _⟩ => s.tup hs) ?_ ?_
    · rintro i x σ H1 H2 hi ⟨z1, v, k, rfl, s1, h1, e1⟩ ⟨U, x1, x2, rfl, hU, rfl, ex1, ex2⟩
      obtain rfl := (Option.some.inj ex1).symm
      obtain ⟨z, hz, rfl⟩ := int_at ex2
      rw [List.length_map] at hi
      rw [ft_step hz] at e1
      have s2 : Same H1 (upd H1 U (.tup [.int (i : Nat), .int z])) := (Same.refl H1).new hU
      refine ⟨U, _, rfl, .inl (.inl upd_same), rfl, _, _, rfl, _, _, rfl, rfl, ?_⟩
      refine ⟨_, rfl, z, rfl, fun H3 s3 => ?_⟩
      have h3 := s3 _ _ (s2 _ _ h1)
      have s13 := s1.trans (s2.trans s3)
      refine ⟨_, rfl, _, rfl, d, _, rfl, DGet.k (k := Sum.inl z) h3, _, rfl, ?_⟩
      rw [seen_val]
      by_cases c : z ∈ ns.take i
      · rw [if_pos c] at e1 ⊢
        refine iteT ?_
        exact ⟨_, rfl, (q H3 s13).2 i z hz e1⟩
      · rw [if_neg c] at e1 ⊢
        refine iteF ?_
        refine ⟨_, rfl, _, rfl, d, _, rfl, DPut.k (k := Sum.inl z) h3 (by rw [seen_len, List.length_take]; exact sm (by omega)), ?_⟩
        rw [seen_put c, take_snoc hz]
        exact ⟨_, _, _, rfl, s13.mut hd, upd_same, e1⟩
    · rintro σ H' ⟨z1, v, k, rfl, s1, h1, e1⟩
      rw [List.length_map, List.drop_length] at e1
      exact (q H' s1).1 e1
def spTwL (K : PySem.W.Frag) : Sp := fun vs H Q _ => ∃ (a : Addr) (ns : List Int), vs = [.ref a] ∧ SqL K H a (ns.map V.int) ∧ ns.length ≤ 1000 ∧ ∀ H', Same H H' → Q (oV (ft [] ns)) H'
def spTwT (K : PySem.W.Frag) : Sp := fun vs H Q _ => ∃ (a : Addr) (ns : List Int), vs = [.ref a] ∧ SqT K H a (ns.map V.int) ∧ ns.length ≤ 1000 ∧ ∀ H', Same H H' → Q (oV (ft [] ns)) H'
theorem ft_mem : ∀ (xs seen : List Int) (z : Int), ft seen xs = some z → z ∈ xs
  | [], seen, z, h => by cases h
  | x :: xs, seen, z, h => by
    unfold ft at h
    by_cases c : x ∈ seen
    · rw [if_pos c] at h
      rw [Option.some.inj h]
      exact List.mem_cons_self ..
    · rw [if_neg c] at h
      exact List.mem_cons_of_mem _ (ft_mem xs _ z h)
abbrev nTw : List Str := ["values", "at"]
theorem scTw : FnScope nTw ["values"] (defScope sFirstTwice) := ⟨rfl, rfl, rfl, by decide +kernel, rfl, by decide +kernel, by decide +kernel⟩
theorem ok_twL {f fX fA : Addr} {fd fdX fdA : FuncData} (F : Fun K "first_twice" "first_twice" sFirstTwice f fd) (G : DefAt P w K mg base CX0 1 "fixed" ["value"] spFixed fX fdX) (A' : DefAt P w K mg base CX0 2 "twice_at" ["values"] (spTaL K) fA fdA) : FnOk P w K mg base CX0 3 f fd ["values"] (spTwL K) := by
  refine F.ok scTw (fun vs H Q E h => ?_) (fun cdv A outer s H vs Q E hr h => ?_)
  · obtain ⟨a, ns, rfl, _⟩ := h
    rfl
  · have nd := scTw.nd
    refine ⟨_, pss_cons (ps_set (i := 1) nd rfl (Or.inl rfl) (pe_call A'.ok hr rfl A'.g A'.kp A'.b .nil pass0 (pa_cons (pv 0) pa_nil)))
      (pss_one (ps_ret (pe_ifExp (pt_cmpR op_isN (pv 1) pe_non (nomark _)) pe_non (pe_call G.ok (hr.mono (by decide)) rfl G.g G.kp G.b .nil pass0 (pa_cons (pe_ix (r := rIxL K) ix_list (pv 0) (pv 1) (fun _ _ => rfl)) pa_nil))))), ?_⟩
    obtain ⟨a, ns, rfl, hs, hl, q⟩ := h
    refine ⟨_, rfl, a, ns, rfl, hs, hl, fun H1 s1 => ⟨fun e => ?_, fun i z hz e => ?_⟩⟩
    · have qq := q H1 s1
      rw [e] at qq
      exact ⟨_, rfl, rfl, _, rfl, iteT qq⟩
    · refine ⟨_, rfl, rfl, _, rfl, iteF ?_⟩
      refine ⟨_, rfl, _, rfl, a, _, _, _, rfl, rfl, s1.seq hs, atI_nat (by rw [List.getElem?_map, hz]; rfl), z, rfl, fun H2 s2 => ?_⟩
      have qq := q H2 (s1.trans s2)
      rw [e] at qq
      exact qq
theorem ok_twT {f fX fA : Addr} {fd fdX fdA : FuncData} (F : Fun K "first_twice" "first_twice" sFirstTwice f fd) (G : DefAt P w K mg base CX0 1 "fixed" ["value"] spFixed fX fdX) (A' : DefAt P w K mg base CX0 2 "twice_at" ["values"] (spTaT K) fA fdA) : FnOk P w K mg base CX0 3 f fd ["values"] (spTwT K) := by
  refine F.ok scTw (fun vs H Q E h => ?_) (fun cdv A outer s H vs Q E hr h => ?_)
  · obtain ⟨a, ns, rfl, _⟩ := h
    rfl
  · have nd := scTw.nd
    refine ⟨_, pss_cons (ps_set (i := 1) nd rfl (Or.inl rfl) (pe_call A'.ok hr rfl A'.g A'.kp A'.b .nil pass0 (pa_cons (pv 0) pa_nil)))
      (pss_one (ps_ret (pe_ifExp (pt_cmpR op_isN (pv 1) pe_non (nomark _)) pe_non (pe_call G.ok (hr.mono (by decide)) rfl G.g G.kp G.b .nil pass0 (pa_cons (pe_ix (r := rIxT K) ix_tup (pv 0) (pv 1) (fun _ _ => rfl)) pa_nil))))), ?_⟩
    obtain ⟨a, ns, rfl, hs, hl, q⟩ := h
    refine ⟨_, rfl, a, ns, rfl, hs, hl, fun H1 s1 => ⟨fun e => ?_, fun i z hz e => ?_⟩⟩
    · have qq := q H1 s1
      rw [e] at qq
      exact ⟨_, rfl, rfl, _, rfl, iteT qq⟩
    · refine ⟨_, rfl, rfl, _, rfl, iteF ?_⟩
      refine ⟨_, rfl, _, rfl, a, _, _, _, rfl, rfl, s1.tup hs, atI_nat (by rw [List.getElem?_map, hz]; rfl), z, rfl, fun H2 s2 => ?_⟩
      have qq := q H2 (s1.trans s2)
      rw [e] at qq
      exact qq
end
end K
namespace K
open PySem L2 Rg
open Evl (pss_cut)
section
variable {P : Program} {w : World} {K : PySem.W.Frag} {mg : Str → Option Value} {base : Heap}
/-! ### errors with one field -/
def spIni (K : PySem.W.Frag) (f : Str) : Sp := fun vs H Q _ => ∃ (a C : Addr) (v : V), vs = [.ref a, v] ∧ OexC K C ∧ PySem.W.findIn K (.ref C) f = some none ∧ H a = some (exo a C none) ∧
  ∀ d, H d = none → d ≠ a → Q .non (upd (upd H d (exd d [(f, v)])) a (exo a C (some d)))
theorem scBadLot : FnScope ["self", "part"] ["self", "part"] (defScope sBadLotInit) := ⟨rfl, rfl, rfl, by decide +kernel, rfl, by decide +kernel, by decide +kernel⟩
theorem scMissing : FnScope ["self", "value"] ["self", "value"] (defScope sMissingInit) := ⟨rfl, rfl, rfl, by decide +kernel, rfl, by decide +kernel, by decide +kernel⟩
theorem scTwice : FnScope ["self", "value"] ["self", "value"] (defScope sTwiceInit) := ⟨rfl, rfl, rfl, by decide +kernel, rfl, by decide +kernel, by decide +kernel⟩
theorem ok_badLotI {f : Addr} {fd : FuncData} (F : Fun K "__init__" "BadLot.__init__" sBadLotInit f fd) : FnOk P w K mg base CX0 1 f fd ["self", "part"] (spIni K "part") := by
  refine F.ok scBadLot (fun vs H Q E h => ?_) (fun cdv A outer s H vs Q E hr h => ?_)
  · obtain ⟨a, C, v, rfl, _⟩ := h
    rfl
  · refine ⟨_, pss_one (ps_ost (pv 0) (pv 1)), ?_⟩
    obtain ⟨a, C, v, rfl, o, n, ha, k⟩ := h
    exact ⟨_, rfl, _, rfl, a, C, rfl, o, n, .inl ⟨ha, fun d h1 h2 => k d h1 h2⟩⟩
theorem ok_missingI {f : Addr} {fd : FuncData} (F : Fun K "__init__" "Missing.__init__" sMissingInit f fd) : FnOk P w K mg base CX0 1 f fd ["self", "value"] (spIni K "value") := by
  refine F.ok scMissing (fun vs H Q E h => ?_) (fun cdv A outer s H vs Q E hr h => ?_)
  · obtain ⟨a, C, v, rfl, _⟩ := h
    rfl
  · refine ⟨_, pss_one (ps_ost (pv 0) (pv 1)), ?_⟩
    obtain ⟨a, C, v, rfl, o, n, ha, k⟩ := h
    exact ⟨_, rfl, _, rfl, a, C, rfl, o, n, .inl ⟨ha, fun d h1 h2 => k d h1 h2⟩⟩
theorem ok_twiceI {f : Addr} {fd : FuncData} (F : Fun K "__init__" "Twice.__init__" sTwiceInit f fd) : FnOk P w K mg base CX0 1 f fd ["self", "value"] (spIni K "value") := by
  refine F.ok scTwice (fun vs H Q E h => ?_) (fun cdv A outer s H vs Q E hr h => ?_)
  · obtain ⟨a, C, v, rfl, _⟩ := h
    rfl
  · refine ⟨_, pss_one (ps_ost (pv 0) (pv 1)), ?_⟩
    obtain ⟨a, C, v, rfl, o, n, ha, k⟩ := h
    exact ⟨_, rfl, _, rfl, a, C, rfl, o, n, .inl ⟨ha, fun d h1 h2 => k d h1 h2⟩⟩
/-- the class x of errors with the field f, at C, its __init__ at fI -/
structure ErrAt (P : Program) (w : World) (K : PySem.W.Frag) (mg : Str → Option Value) (base : Heap) (x f : Str) (C fI : Addr) (fdI : FuncData) : Prop where
  oex : OexC K C
  ic : PySem.W.findIn K (.ref C) "__init__" = some (some (.ref fI))
  ti : PySem.W.typeIn K (.ref fI) = some (.type "function")
  nf : PySem.W.findIn K (.ref C) f = some none
  g : mg x = some (.ref C)
  b : Binds K fdI ["self", f] []
  ok : FnOk P w K mg base CX0 1 fI fdI ["self", f] (spIni K f)
/-- an error of the class at C with the field f holding v leaves; what was tracked stands -/
def Errs (E : XK) (C : Addr) (f : Str) (v : V) (H : Hp) : Prop := ∀ (d : Addr) (H' : Hp), Same H H' → H d = none → H' d = some (.xd [(f, v)]) → E (.ref C) (some d) H'
theorem Errs.later {E : XK} {C : Addr} {f : Str} {v : V} {H H1 : Hp} (h : Errs E C f v H) (s : Same H H1) : Errs E C f v H1 := fun d H' s' n e => h d H' (s.trans s') (s.free n) e
/-- the making of such an error, as a raise asks it -/
theorem err_made {E : XK} {C : Addr} {f : Str} {v : V} {H : Hp} (o : OexC K C) (n : PySem.W.findIn K (.ref C) f = some none) (h : Errs E C f v H) :
    ([v] : List V).length ≤ 1000 ∧ ∀ a, H a = none → spIni K f (.ref a :: ([v] ++ [])) (upd H a (exo a C none))
      (fun u H2 => u = .non ∧ ∃ (d : Addr) (fs : List (Str × V)), H2 a = some (exo a C (some d)) ∧ H2 d = some (exd d fs) ∧ H d = none ∧ E (.ref C) (some d) (upd (del H2 a) d (.xd fs))) (fun _ _ _ => False) := by
  refine ⟨(by show 1 ≤ 1000; decide), fun a ha => ⟨a, C, v, rfl, o, n, upd_same, fun d hd hda => ⟨rfl, d, [(f, v)], upd_same, by rw [upd_ne hda, upd_same], ?_, ?_⟩⟩⟩
  · rw [upd_ne hda] at hd
    exact hd
  · rw [upd_ne hda] at hd
    refine h d _ (fun b u e => ?_) hd upd_same
    have hba : b ≠ a := ne_of_none e ha
    have hbd : b ≠ d := ne_of_none e hd
    rw [upd_ne hbd, del_ne hba, upd_ne hba, upd_ne hbd, upd_ne hba]
    exact e
/-! ### want_bar -/
def spWantBar (C : Addr) : Sp := fun vs H Q E => ∃ (v many : Int), vs = [.int v, .int many] ∧ ((0 ≤ v ∧ v < many ∧ ∀ H', Same H H' → Q .non H') ∨ (¬ (0 ≤ v ∧ v < many) ∧ Errs E C "value" (.int v) H))
theorem scWantBar : FnScope ["value", "many"] ["value", "many"] (defScope sWantBar) := ⟨rfl, rfl, rfl, by decide +kernel, rfl, by decide +kernel, by decide +kernel⟩
theorem ok_wantBar {f fW C fI : Addr} {fd fdW fdI : FuncData} (F : Fun K "want_bar" "want_bar" sWantBar f fd) (W : DefAt P w K mg base CX0 2 "is_within" ["value", "least", "most"] spWithin fW fdW) (B : ErrAt P w K mg base "NoBar" "value" C fI fdI) :
    FnOk P w K mg base (L2.CX P w) 3 f fd ["value", "many"] (spWantBar C) := by
  refine F.okX scWantBar (fun vs H Q E h => ?_) (fun cdv A outer s H vs Q E hr h => ?_)
  · obtain ⟨v, many, rfl, _⟩ := h
    rfl
  · refine ⟨_, pss_one (ps_if (pt_not (pt_val (pe_call W.ok hr rfl W.g W.kp W.b .nil pass0 (pa_cons (pv 0) (pa_cons pe_int (pa_cons (pe_op op_sub (pv 1) pe_int) pa_nil))))))
      (pss_one (ps_raise rfl (takes_of rfl rfl rfl rfl) (pmk_oex B.oex B.ic B.ti B.ok hr B.b .nil pass0 rfl B.g (pa_cons (pv 0) pa_nil)))) pss_nil), ?_⟩
    obtain ⟨v, many, rfl, h⟩ := h
    refine ⟨_, rfl, _, rfl, _, _, rfl, rfl, v, 0, many - 1, rfl, _, rfl, ?_⟩
    rcases h with ⟨h0, h1, q⟩ | ⟨hn, q⟩
    · refine iteBF ?_ (q H (Same.refl H))
      simp only [decide_eq_true h0, decide_eq_true (show v ≤ many - 1 by omega)]
      rfl
    · refine iteBT ?_ ?_
      · have e : (decide (0 ≤ v) && decide (v ≤ many - 1)) = false := by
          cases c : (decide (0 ≤ v) && decide (v ≤ many - 1)) with
          | false => rfl
          | true =>
            simp only [Bool.and_eq_true, decide_eq_true_eq] at c
            exact absurd ⟨c.1, by omega⟩ hn
        show (!(decide (0 ≤ v) && decide (v ≤ many - 1))) = true
        rw [e]
        rfl
      · exact ⟨_, rfl, err_made B.oex B.nf q⟩
end
end K
namespace K
open PySem L2 Rg
open Evl (pss_cut)
/-- what becomes of a lot that is passed -/
inductive Lr where
  | bad | bar (b : Int) | twice (b : Int) | ok (ns : List Int)
def isBar (many b : Int) : Bool := decide (0 ≤ b) && decide (b < many)
def res (many : Int) (ns : List Int) : Lr := match ns.find? (fun b => !isBar many b) with
  | some b => .bar b
  | none => match ft [] ns with
    | some b => .twice b
    | none => .ok ns
theorem isBar_iff {many b : Int} : isBar many b = true ↔ 0 ≤ b ∧ b < many := by
  unfold isBar
  rw [Bool.and_eq_true, decide_eq_true_eq, decide_eq_true_eq]
theorem res_bar {many b : Int} {ns : List Int} {i : Nat} (h : ∀ x ∈ ns.take i, isBar many x = true) (hb : ns[i]? = some b) (nb : ¬ isBar many b = true) : res many ns = .bar b := by
  have e : ns.find? (fun b => !isBar many b) = some b := by
    obtain ⟨hi, rfl⟩ := List.getElem?_eq_some_iff.mp hb
    have e1 : ns = ns.take i ++ ns[i] :: ns.drop (i + 1) := by rw [List.getElem_cons_drop, List.take_append_drop]
    have e2 : (ns.take i).find? (fun b => !isBar many b) = none := List.find?_eq_none.mpr fun x hx => by rw [h x hx]; decide
    have e3 : ns.find? (fun b => !isBar many b) = (ns.take i ++ ns[i] :: ns.drop (i + 1)).find? (fun b => !isBar many b) := congrArg _ e1
    rw [e3, List.find?_append, e2, List.find?_cons]
    have e4 : isBar many ns[i] = false := by
      cases q : isBar many ns[i] with
      | false => rfl
      | true => exact absurd q nb
    rw [e4]
    rfl
  unfold res
  rw [e]
theorem res_all {many : Int} {ns : List Int} (h : ∀ x ∈ ns, isBar many x = true) : res many ns = match ft [] ns with | some b => .twice b | none => .ok ns := by
  have e : ns.find? (fun b => !isBar many b) = none := List.find?_eq_none.mpr fun x hx => by rw [h x hx]; decide
  unfold res
  rw [e]
section
variable {P : Program} {w : World} {K : PySem.W.Frag} {mg : Str → Option Value} {base : Heap}
/-- where the three errors stand -/
structure Cs where
  l : Addr
  n : Addr
  t : Addr
def LotFin (E : XK) (c : Cs) (part : Str) (H : Hp) (r : Lr) (k : List Int → Prop) : Prop := match r with
  | .bad => Errs E c.l "part" (.str part) H
  | .bar b => Errs E c.n "value" (.int b) H
  | .twice b => Errs E c.t "value" (.int b) H
  | .ok ns => k ns
def spWLO (K : PySem.W.Frag) (c : Cs) : Sp := fun vs H Q E => ∃ (v : V) (k : String) (many : Int) (part : Str), vs = [v, .int many, .str part] ∧ Knd K H v k ∧ k ≠ "list" ∧ k ≠ "tuple" ∧ Errs E c.l "part" (.str part) H
def spWLL (K : PySem.W.Frag) (c : Cs) : Sp := fun vs H Q E => ∃ (a : Addr) (xs : List V) (kf : V → String) (many : Int) (part : Str), vs = [.ref a, .int many, .str part] ∧ Knd K H (.ref a) "list" ∧ SqL K H a xs ∧ xs.length ≤ 1000 ∧ (∀ x ∈ xs, Knd K H x (kf x)) ∧
  (((xs.all fun x => decide (kf x = "int")) = false ∧ Errs E c.l "part" (.str part) H) ∨
   ∃ ns, xs = ns.map V.int ∧ (xs.all fun x => decide (kf x = "int")) = true ∧ LotFin E c part H (res many ns) fun ns => ∀ (p : Addr) (ms : List Int) (H' : Hp), ms.Perm ns → Same H H' → H' p = some (.tup (ms.map V.int)) → Q (.ref p) H')
def spWLT (K : PySem.W.Frag) (c : Cs) : Sp := fun vs H Q E => ∃ (a : Addr) (ns : List Int) (many : Int) (part : Str), vs = [.ref a, .int many, .str part] ∧ Knd K H (.ref a) "tuple" ∧ SqT K H a (ns.map V.int) ∧ ns.length ≤ 1000 ∧
  LotFin E c part H (res many ns) fun ns => ∀ (p : Addr) (ms : List Int) (H' : Hp), ms.Perm ns → Same H H' → H' p = some (.tup (ms.map V.int)) → Q (.ref p) H'
abbrev nWL : List Str := ["value", "many", "part", "bar", "twice"]
theorem scWL : FnScope nWL ["value", "many", "part"] (defScope sWantLot) := ⟨rfl, rfl, rfl, by decide +kernel, rfl, by decide +kernel, by decide +kernel⟩
theorem ok_wlO {f fN fB fT : Addr} {c : Cs} {fL fTI : Addr} {fd fdN fdB fdT fdL fdTI : FuncData} (F : Fun K "want_lot" "want_lot" sWantLot f fd) (T : Bi mg) (N : DefAt P w K mg base CX0 2 "is_numbers" ["value"] (spNumsO K) fN fdN) (B : DefAt P w K mg base (L2.CX P w) 3 "want_bar" ["value", "many"] (spWantBar c.n) fB fdB)
    (Tw : DefAt P w K mg base CX0 3 "first_twice" ["values"] (spTwL K) fT fdT) (L : ErrAt P w K mg base "BadLot" "part" c.l fL fdL) (TI : ErrAt P w K mg base "Twice" "value" c.t fTI fdTI) : FnOk P w K mg base (L2.CX P w) 4 f fd ["value", "many", "part"] (spWLO K c) := by
  refine F.okX scWL (fun vs H Q E h => ?_) (fun cdv A outer s H vs Q E hr h => ?_)
  · obtain ⟨v, k, many, part, rfl, _⟩ := h
    rfl
  · have nd := scWL.nd
    have hr2 : Room 2 (A.deeper (PyProof.Rows.envOfC "want_lot" (defScope sWantLot) s.heap.objs.size f cdv)) := hr.mono (by decide)
    refine ⟨_, pss_cons (ps_if (pt_not (pt_val (pe_call N.ok hr2 rfl N.g N.kp N.b .nil pass0 (pa_cons (pv 0) pa_nil)))) (pss_one (ps_raise rfl (takes_of rfl rfl rfl rfl) (pmk_oex L.oex L.ic L.ti L.ok hr2 L.b .nil pass0 rfl L.g (pa_cons (pv 2) pa_nil)))) pss_nil) pss_never, ?_⟩
    obtain ⟨v, k, many, part, rfl, hk, k1, k2, q⟩ := h
    exact ⟨_, rfl, v, k, rfl, hk, k1, k2, fun H' s1 => ⟨_, rfl, iteT ⟨_, rfl, err_made L.oex L.nf (q.later s1)⟩⟩⟩
theorem ok_wlL {f fN fB fT : Addr} {c : Cs} {fL fTI : Addr} {fd fdN fdB fdT fdL fdTI : FuncData} (F : Fun K "want_lot" "want_lot" sWantLot f fd) (T : Bi mg) (N : DefAt P w K mg base CX0 2 "is_numbers" ["value"] (spNumsL K) fN fdN) (B : DefAt P w K mg base (L2.CX P w) 3 "want_bar" ["value", "many"] (spWantBar c.n) fB fdB)
    (Tw : DefAt P w K mg base CX0 3 "first_twice" ["values"] (spTwL K) fT fdT) (L : ErrAt P w K mg base "BadLot" "part" c.l fL fdL) (TI : ErrAt P w K mg base "Twice" "value" c.t fTI fdTI) : FnOk P w K mg base (L2.CX P w) 4 f fd ["value", "many", "part"] (spWLL K c) := by
  refine F.okX scWL (fun vs H Q E h => ?_) (fun cdv A outer s H vs Q E hr h => ?_)
  · obtain ⟨a, xs, kf, many, part, rfl, _⟩ := h
    rfl
  · have nd := scWL.nd
    have hr2 : Room 2 (A.deeper (PyProof.Rows.envOfC "want_lot" (defScope sWantLot) s.heap.objs.size f cdv)) := hr.mono (by decide)
    refine ⟨_, pss_cons (ps_if (pt_not (pt_val (pe_call N.ok hr2 rfl N.g N.kp N.b .nil pass0 (pa_cons (pv 0) pa_nil)))) (pss_one (ps_raise rfl (takes_of rfl rfl rfl rfl) (pmk_oex L.oex L.ic L.ti L.ok hr2 L.b .nil pass0 rfl L.g (pa_cons (pv 2) pa_nil)))) pss_nil)
      (pss_cons (ps_for (passes_of rfl) rfl (pi_list (pv 0)) (pg_name (i := 3) nd rfl (Or.inl rfl)) (pss_one (ps_expr (pe_call B.ok hr rfl B.g B.kp B.b .nil (passes_call (takes_of rfl rfl rfl rfl) (fun _ _ _ _ h => h)) (pa_cons (pv 3) (pa_cons (pv 1) pa_nil))))))
      (pss_cons (ps_set (i := 4) nd rfl (Or.inl rfl) (pe_call Tw.ok hr rfl Tw.g Tw.kp Tw.b .nil pass0 (pa_cons (pv 0) pa_nil)))
      (pss_cons (ps_if (pt_cmpR op_notN (pv 4) pe_non (nomark _)) (pss_one (ps_raise rfl (takes_of rfl rfl rfl rfl) (pmk_oex TI.oex TI.ic TI.ti TI.ok hr2 TI.b .nil pass0 rfl TI.g (pa_cons (pv 4) pa_nil)))) pss_nil)
      (pss_one (ps_ret (pe_callTy call_tuple_of (by rfl) T.tuple (by decide +kernel) (pa_cons (pe_callB cr_sortedI (by rfl) T.sorted (by decide +kernel) (pa_cons (pv 0) pa_nil)) pa_nil))))))), ?_⟩
    obtain ⟨a, xs, kf, many, part, rfl, hk, hs, hl, hx, q⟩ := h
    refine ⟨_, rfl, a, xs, kf, rfl, hk, hs, hl, hx, fun H1 s1 => ⟨_, rfl, ?_⟩⟩
    rcases q with ⟨e, q⟩ | ⟨ns, rfl, e, q⟩
    · rw [e]
      exact iteT ⟨_, rfl, err_made L.oex L.nf (q.later s1)⟩
    · rw [e]
      refine iteF ?_
      refine ⟨_, rfl, a, rfl, ⟨_, s1.seq hs⟩, for_list (K := K) (a := a) (xs := ns.map V.int) (fun i σ H' => ∃ (b : Option V), σ = [some (.ref a), some (.int many), some (.str part), b, none] ∧ Same H H' ∧ ∀ x ∈ ns.take i, isBar many x = true)
        ⟨none, rfl, s1, fun x hx => nomatch hx⟩ (fun i σ H' _ ⟨_, _, s, _⟩ => s.seq hs) ?_ ?_⟩
      · rintro i x σ H' hi ⟨b, rfl, s2, al⟩
        obtain ⟨z, hz, rfl⟩ := int_at hi
        refine ⟨_, rfl, _, rfl, z, many, rfl, ?_⟩
        by_cases c : isBar many z = true
        · obtain ⟨c1, c2⟩ := isBar_iff.mp c
          refine .inl ⟨c1, c2, fun H3 s3 => ⟨_, rfl, s2.trans s3, fun y hy => ?_⟩⟩
          rw [← take_snoc hz] at hy
          rcases List.mem_append.mp hy with m | m
          · exact al y m
          · rw [List.mem_singleton.mp m]
            exact c
        · refine .inr ⟨fun z => c (isBar_iff.mpr z), ?_⟩
          rw [res_bar al hz c] at q
          exact Errs.later q s2
      · rintro σ H' ⟨b, rfl, s2, al⟩
        rw [List.length_map, List.take_length] at al
        rw [res_all al] at q
        rw [List.length_map] at hl
        refine ⟨_, rfl, a, ns, rfl, s2.seq hs, hl, fun H3 s3 => ?_⟩
        have s23 := s2.trans s3
        cases e2 : ft [] ns with
        | some z =>
          rw [e2] at q
          exact ⟨_, rfl, rfl, _, rfl, iteT ⟨_, rfl, err_made TI.oex TI.nf (Errs.later q s23)⟩⟩
        | none =>
          rw [e2] at q
          refine ⟨_, rfl, rfl, _, rfl, iteF ?_⟩
          refine ⟨_, rfl, a, ns, rfl, s23.seq hs, fun ms p pm _ hp => ⟨p, _, rfl, .inl ⟨SqL.of upd_same, fun t ht => ?_⟩⟩⟩
          exact q t ms _ pm ((s23.new hp).new ht) upd_same
theorem ok_wlT {f fN fB fT : Addr} {c : Cs} {fL fTI : Addr} {fd fdN fdB fdT fdL fdTI : FuncData} (F : Fun K "want_lot" "want_lot" sWantLot f fd) (T : Bi mg) (N : DefAt P w K mg base CX0 2 "is_numbers" ["value"] (spNumsT K) fN fdN) (B : DefAt P w K mg base (L2.CX P w) 3 "want_bar" ["value", "many"] (spWantBar c.n) fB fdB)
    (Tw : DefAt P w K mg base CX0 3 "first_twice" ["values"] (spTwT K) fT fdT) (L : ErrAt P w K mg base "BadLot" "part" c.l fL fdL) (TI : ErrAt P w K mg base "Twice" "value" c.t fTI fdTI) : FnOk P w K mg base (L2.CX P w) 4 f fd ["value", "many", "part"] (spWLT K c) := by
  refine F.okX scWL (fun vs H Q E h => ?_) (fun cdv A outer s H vs Q E hr h => ?_)
  · obtain ⟨a, ns, many, part, rfl, _⟩ := h
    rfl
  · have nd := scWL.nd
    have hr2 : Room 2 (A.deeper (PyProof.Rows.envOfC "want_lot" (defScope sWantLot) s.heap.objs.size f cdv)) := hr.mono (by decide)
    refine ⟨_, pss_cons (ps_if (pt_not (pt_val (pe_call N.ok hr2 rfl N.g N.kp N.b .nil pass0 (pa_cons (pv 0) pa_nil)))) (pss_one (ps_raise rfl (takes_of rfl rfl rfl rfl) (pmk_oex L.oex L.ic L.ti L.ok hr2 L.b .nil pass0 rfl L.g (pa_cons (pv 2) pa_nil)))) pss_nil)
      (pss_cons (ps_for (passes_of rfl) rfl (pi_tup (pv 0)) (pg_name (i := 3) nd rfl (Or.inl rfl)) (pss_one (ps_expr (pe_call B.ok hr rfl B.g B.kp B.b .nil (passes_call (takes_of rfl rfl rfl rfl) (fun _ _ _ _ h => h)) (pa_cons (pv 3) (pa_cons (pv 1) pa_nil))))))
      (pss_cons (ps_set (i := 4) nd rfl (Or.inl rfl) (pe_call Tw.ok hr rfl Tw.g Tw.kp Tw.b .nil pass0 (pa_cons (pv 0) pa_nil)))
      (pss_cons (ps_if (pt_cmpR op_notN (pv 4) pe_non (nomark _)) (pss_one (ps_raise rfl (takes_of rfl rfl rfl rfl) (pmk_oex TI.oex TI.ic TI.ti TI.ok hr2 TI.b .nil pass0 rfl TI.g (pa_cons (pv 4) pa_nil)))) pss_nil)
      (pss_one (ps_ret (pe_callTy call_tuple_of (by rfl) T.tuple (by decide +kernel) (pa_cons (pe_callB cr_sortedT (by rfl) T.sorted (by decide +kernel) (pa_cons (pv 0) pa_nil)) pa_nil))))))), ?_⟩
    obtain ⟨a, ns, many, part, rfl, hk, hs, hl, q⟩ := h
    refine ⟨_, rfl, a, _, (fun _ => "int"), rfl, hk, hs, (by rw [List.length_map]; exact hl), (fun x hx => ?_), fun H1 s1 => ⟨_, rfl, ?_⟩⟩
    · obtain ⟨z, _, rfl⟩ := List.mem_map.mp hx
      exact Knd.int
    · have e : ((ns.map V.int).all fun x => decide (("int" : String) = "int")) = true := List.all_eq_true.mpr fun _ _ => rfl
      rw [e]
      refine iteF ?_
      refine ⟨_, rfl, a, rfl, ⟨_, s1.tup hs⟩, for_tup (K := K) (a := a) (xs := ns.map V.int) (fun i σ H' => ∃ (b : Option V), σ = [some (.ref a), some (.int many), some (.str part), b, none] ∧ Same H H' ∧ ∀ x ∈ ns.take i, isBar many x = true)
        ⟨none, rfl, s1, fun x hx => nomatch hx⟩ (fun i σ H' _ ⟨_, _, s, _⟩ => s.tup hs) ?_ ?_⟩
      · rintro i x σ H' hi ⟨b, rfl, s2, al⟩
        obtain ⟨z, hz, rfl⟩ := int_at hi
        refine ⟨_, rfl, _, rfl, z, many, rfl, ?_⟩
        by_cases c : isBar many z = true
        · obtain ⟨c1, c2⟩ := isBar_iff.mp c
          refine .inl ⟨c1, c2, fun H3 s3 => ⟨_, rfl, s2.trans s3, fun y hy => ?_⟩⟩
          rw [← take_snoc hz] at hy
          rcases List.mem_append.mp hy with m | m
          · exact al y m
          · rw [List.mem_singleton.mp m]
            exact c
        · refine .inr ⟨fun z => c (isBar_iff.mpr z), ?_⟩
          rw [res_bar al hz c] at q
          exact Errs.later q s2
      · rintro σ H' ⟨b, rfl, s2, al⟩
        rw [List.length_map, List.take_length] at al
        rw [res_all al] at q
        refine ⟨_, rfl, a, ns, rfl, s2.tup hs, hl, fun H3 s3 => ?_⟩
        have s23 := s2.trans s3
        cases e2 : ft [] ns with
        | some z =>
          rw [e2] at q
          exact ⟨_, rfl, rfl, _, rfl, iteT ⟨_, rfl, err_made TI.oex TI.nf (Errs.later q s23)⟩⟩
        | none =>
          rw [e2] at q
          refine ⟨_, rfl, rfl, _, rfl, iteF ?_⟩
          refine ⟨_, rfl, a, ns, rfl, s23.tup hs, fun ms p pm _ hp => ⟨p, _, rfl, .inl ⟨SqL.of upd_same, fun t ht => ?_⟩⟩⟩
          exact q t ms _ pm ((s23.new hp).new ht) upd_same
end
end K
namespace K
open PySem L2 Rg
open Evl (pss_cut)
/-! ### what a ring tells -/
def sumsOf (ls : List Int) : List Int := ls.foldl (fun s l => s ++ s.map (· + l)) [0]
def levelB (ls : List Int) : Bool := (sumsOf ls).any fun o => decide (2 * o = ls.sum)
def closesB (ls : List Int) : Bool := ls.all fun x => decide (2 * x ≤ ls.sum)
def lsum (ls ns : List Int) : Int := (ns.map fun b => ls.getD b.toNat 0).sum
def sortV (ls ns : List Int) : Str := if 2 * lsum ls ns = ls.sum then "level" else if 2 * lsum ls ns < ls.sum then "short" else "long"
theorem sums_take {ls : List Int} {i : Nat} {z : Int} (h : ls[i]? = some z) : sumsOf (ls.take (i + 1)) = sumsOf (ls.take i) ++ (sumsOf (ls.take i)).map (· + z) := by
  unfold sumsOf
  rw [← take_snoc h, List.foldl_append]
  rfl
theorem sums_len : ∀ (ls : List Int) (i : Nat), i ≤ ls.length → (sumsOf (ls.take i)).length = 2 ^ i
  | ls, 0, _ => rfl
  | ls, i + 1, h => by
    have hz : ls[i]? = some ls[i] := List.getElem?_eq_getElem h
    rw [sums_take hz, List.length_append, List.length_map, sums_len ls i (by omega), Nat.pow_succ]
    omega
theorem closes_max {ls : List Int} {m : Int} (hm : m ∈ ls) (hx : ∀ y ∈ ls, y ≤ m) : decide (2 * m ≤ ls.sum) = closesB ls := by
  unfold closesB
  by_cases c : 2 * m ≤ ls.sum
  · rw [decide_eq_true c]
    refine (List.all_eq_true.mpr fun y hy => decide_eq_true ?_).symm
    have := hx y hy
    omega
  · rw [decide_eq_false c]
    cases e : ls.all fun x => decide (2 * x ≤ ls.sum) with
    | false => rfl
    | true => exact absurd (of_decide_eq_true (List.all_eq_true.mp e m hm)) c
theorem dec_int (a b : Int) : decide (V.int a = V.int b) = decide (a = b) := by
  by_cases e : a = b
  · rw [e]; simp
  · rw [decide_eq_false e, decide_eq_false fun z => e (V.int.inj z)]
theorem all_any (l : List Int) (g : Int → Bool) : (l.map g).any id = l.any g := by
  rw [List.any_map]; rfl
/-- the attributes of a ring, in the order in which __init__ stores them -/
def rf (t : Addr) (ls : List Int) : List (Str × V) := putF "is_clear" (.bl (!levelB ls)) (putF "closes" (.bl (closesB ls)) (putF "total" (.int ls.sum) (putF "lengths" (.ref t) [])))
theorem n1 : ¬ (("lengths" : Str) = "total") := by decide +kernel
theorem n2 : ¬ (("lengths" : Str) = "closes") := by decide +kernel
theorem n3 : ¬ (("lengths" : Str) = "is_clear") := by decide +kernel
theorem n4 : ¬ (("total" : Str) = "closes") := by decide +kernel
theorem n5 : ¬ (("total" : Str) = "is_clear") := by decide +kernel
theorem n6 : ¬ (("closes" : Str) = "is_clear") := by decide +kernel
theorem rf_lengths (t : Addr) (ls : List Int) : (rf t ls).lookup ("lengths" : Str) = some (.ref t) := by
  unfold rf
  rw [lookup_putF, if_neg n3, lookup_putF, if_neg n2, lookup_putF, if_neg n1, lookup_putF, if_pos rfl]
theorem rf_total (t : Addr) (ls : List Int) : (rf t ls).lookup ("total" : Str) = some (.int ls.sum) := by
  unfold rf
  rw [lookup_putF, if_neg n5, lookup_putF, if_neg n4, lookup_putF, if_pos rfl]
theorem rf_closes (t : Addr) (ls : List Int) : (rf t ls).lookup ("closes" : Str) = some (.bl (closesB ls)) := by
  unfold rf
  rw [lookup_putF, if_neg n6, lookup_putF, if_pos rfl]
theorem rf_clear (t : Addr) (ls : List Int) : (rf t ls).lookup ("is_clear" : Str) = some (.bl (!levelB ls)) := by
  unfold rf
  rw [lookup_putF, if_pos rfl]
theorem rf_no (t : Addr) (ls : List Int) {m : Str} (h1 : ¬ m = "lengths") (h2 : ¬ m = "total") (h3 : ¬ m = "closes") (h4 : ¬ m = "is_clear") : (rf t ls).lookup m = none := by
  unfold rf
  rw [lookup_putF, if_neg h4, lookup_putF, if_neg h3, lookup_putF, if_neg h2, lookup_putF, if_neg h1]
  rfl
section
variable {P : Program} {w : World} {K : PySem.W.Frag} {mg : Str → Option Value} {base : Heap}
def RingAt (K : PySem.W.Frag) (C : Addr) (H : Hp) (r : Addr) (ls : List Int) : Prop := ∃ dx t, H r = some (.ins C dx (rf t ls)) ∧ SqT K H t (ls.map V.int) ∧ ∃ o : Obj, H t = some (.frz o (.tup (ls.map V.int))) ∧ o.dict = none
theorem RingAt.same {C : Addr} {H H' : Hp} {r : Addr} {ls : List Int} (h : RingAt K C H r ls) (s : Same H H') : RingAt K C H' r ls := by
  obtain ⟨dx, t, h1, h2, o, h3, h4⟩ := h
  exact ⟨dx, t, s _ _ h1, s.tup h2, o, s _ _ h3, h4⟩
/-- the class Ring as the top has made it -/
structure RingC (K : PySem.W.Frag) (mg : Str → Option Value) (C : Addr) : Prop where
  cl : Cls K C
  nL : NoAttr K C "lengths"
  nT : NoAttr K C "total"
  nC : NoAttr K C "closes"
  nI : NoAttr K C "is_clear"
  g : mg "Ring" = some (.ref C)
  ha : PySem.W.findIn K (.ref C) "__class__" = some (some (.builtin "object.__class__"))
  hn : PySem.W.specialIn K (.builtin "object.__class__") "__get__" = some (some (.builtin "getset_descriptor.__get__"))
  ht : PySem.W.takesIn K (.builtin "object.__class__") = some true
  hm : PySem.W.mroIn K C (.type "object") = some true
structure Nm (mg : Str → Option Value) : Prop where
  mostL : ∃ t, mg "MOST_LENGTH" = some (.int 1000000 t)
  leastB : ∃ t, mg "LEAST_BARS" = some (.int 3 t)
  mostB : ∃ t, mg "MOST_BARS" = some (.int 8 t)
/-! ### are_lengths -/
def spAreL (K : PySem.W.Frag) : Sp := fun vs H Q _ => ∃ (a : Addr) (ls : List Int), vs = [.ref a] ∧ Knd K H (.ref a) "list" ∧ SqL K H a (ls.map V.int) ∧ ls.length ≤ 1000 ∧ Bd 1000000 ls ∧ ∀ H', Same H H' → Q (.bl true) H'
abbrev nAreL : List Str := ["value", "one"]
theorem scAreL : FnScope nAreL ["value"] (defScope sAreLengths) := ⟨rfl, rfl, rfl, by decide +kernel, rfl, by decide +kernel, by decide +kernel⟩
theorem all_true {bs : List Bool} (h : ∀ b ∈ bs, b = true) : bs.all id = true := List.all_eq_true.mpr fun b hb => h b hb
theorem ok_areL {f fW fL : Addr} {fd fdW fdL : FuncData} (F : Fun K "are_lengths" "are_lengths" sAreLengths f fd) (T : Bi mg) (N : Nm mg) (W : DefAt P w K mg base CX0 2 "is_within" ["value", "least", "most"] spWithin fW fdW) (L : DefAt P w K mg base CX0 1 "is_list" ["value"] (spIsList K) fL fdL) : FnOk P w K mg base CX0 3 f fd ["value"] (spAreL K) := by
  refine F.ok scAreL (fun vs H Q E h => ?_) (fun cdv A outer s H vs Q E hr h => ?_)
  · obtain ⟨a, ls, rfl, _⟩ := h
    rfl
  · obtain ⟨tM, hM⟩ := N.mostL
    refine ⟨_, pss_one (ps_ret (pe_and (pe_call L.ok (hr.mono (by decide)) rfl L.g L.kp L.b .nil pass0 (pa_cons (pv 0) pa_nil)) (pe_one (pe_callB (cr_all rfl) (by rfl) T.all (by decide +kernel) (pa_cons (pe_lc (own := [("one", 1)]) (g := gName 1) (tt := tYes) rfl scAreL.nd (pi_list (pv 0))
      (blkOk_by (N := nAreL) (sc := defScope sAreLengths) (by decide +kernel)) (fun _ _ _ _ _ => pg_name (i := 1) scAreL.nd rfl (Or.inl rfl)) (fun _ _ _ _ _ => pts_nil) (fun _ _ _ _ _ => pe_call W.ok hr rfl W.g W.kp W.b .nil pass0 (pa_cons (pv 1) (pa_cons pe_int (pa_cons (pe_glob (v := .int 1000000) rfl hM ⟨_, rfl⟩) pa_nil))))) pa_nil))))), ?_⟩
    obtain ⟨a, ls, rfl, hk, hs, hl, hb, q⟩ := h
    refine ⟨_, rfl, _, "list", rfl, hk, fun H1 s1 => ⟨_, rfl, iteDT (.inl rfl) ?_⟩⟩
    refine ⟨_, rfl, a, rfl, ⟨_, s1.seq hs⟩, fun D hD => ?_⟩
    have hD0 := s1.free hD
    refine lc_list (K := K) (a := a) (xs := ls.map V.int) (fun i H' => Same H H' ∧ ∃ bs : List Bool, (∀ b ∈ bs, b = true) ∧ bs.length ≤ i ∧ H' D = some (.lst (bs.map V.bl))) ⟨s1.new hD, [], (fun b hb => nomatch hb), Nat.le_refl _, upd_same⟩ (fun i H' _ p => p.1.seq hs) ?_ ?_
    · rintro i x H' hi ⟨s2, bs, h1, h2, h3⟩
      obtain ⟨z, hz, rfl⟩ := int_at hi
      have hil : i < ls.length := (List.getElem?_eq_some_iff.mp hz).1
      have hzb := hb z (List.mem_of_getElem? hz)
      refine ⟨rfl, _, rfl, z, 1, 1000000, rfl, _, h3, (by rw [List.length_map]; exact sm (by omega)), s2.mut hD0, bs ++ [true], fun b hb => ?_, by rw [List.length_append, List.length_singleton]; omega, ?_⟩
      · rcases List.mem_append.mp hb with m | m
        · exact h1 b m
        · exact List.mem_singleton.mp m
      · rw [upd_same, List.map_append, decide_eq_true hzb.1, decide_eq_true hzb.2]
        rfl
    · rintro H' ⟨s2, bs, h1, h2, h3⟩
      refine ⟨D, bs, rfl, SqL.of h3, ?_⟩
      rw [all_true h1]
      exact q H' s2
/-! ### has_level -/
def spHasL (K : PySem.W.Frag) : Sp := fun vs H Q _ => ∃ (t : Addr) (ls : List Int), vs = [.ref t] ∧ SqT K H t (ls.map V.int) ∧ ls.length ≤ 8 ∧ ∀ H', Same H H' → Q (.bl (levelB ls)) H'
abbrev nHasL : List Str := ["lengths", "sums", "length", "one"]
theorem scHasL : FnScope nHasL ["lengths"] (defScope sHasLevel) := ⟨rfl, rfl, rfl, by decide +kernel, rfl, by decide +kernel, by decide +kernel⟩
theorem ok_hasL {f : Addr} {fd : FuncData} (F : Fun K "has_level" "has_level" sHasLevel f fd) (T : Bi mg) : FnOk P w K mg base CX0 2 f fd ["lengths"] (spHasL K) := by
  refine F.ok scHasL (fun vs H Q E h => ?_) (fun cdv A outer s H vs Q E hr h => ?_)
  · obtain ⟨a, ls, rfl, _⟩ := h
    rfl
  · have nd := scHasL.nd
    refine ⟨_, pss_cons (ps_set (i := 1) nd rfl (Or.inl rfl) (pe_lst (pa_cons pe_int pa_nil)))
      (pss_cons (ps_for PassesOwn.never rfl (pi_tup (pv 0)) (pg_name (i := 2) nd rfl (Or.inr rfl)) (pss_one (ps_set (i := 1) nd rfl (Or.inl rfl) (pe_op op_cat (pv 1) (pe_lc (own := [("one", 3)]) (g := gName 3) (tt := tYes) rfl nd (pi_list (pv 1))
        (blkOk_by (N := nHasL) (sc := defScope sHasLevel) (by decide +kernel)) (fun _ _ _ _ _ => pg_name (i := 3) nd rfl (Or.inl rfl)) (fun _ _ _ _ _ => pts_nil) (fun _ _ _ _ _ => pe_op op_add (pv 3) (pv 2)))))))
      (pss_one (ps_ret (pe_callB (cr_any rfl) (by rfl) T.any (by decide +kernel) (pa_cons (pe_lc (own := [("one", 3)]) (g := gName 3) (tt := tYes) rfl nd (pi_list (pv 1))
        (blkOk_by (N := nHasL) (sc := defScope sHasLevel) (by decide +kernel)) (fun _ _ _ _ _ => pg_name (i := 3) nd rfl (Or.inl rfl)) (fun _ _ _ _ _ => pts_nil) (fun _ _ _ _ _ => pe_cmpR op_eq (pe_op op_mul pe_int (pv 3)) (pe_callB (r := rSumT K) (cr_sumT (by rfl)) (by rfl) T.sum (by decide +kernel) (pa_cons (pv 0) pa_nil)) (nomark _))) pa_nil))))), ?_⟩
    obtain ⟨t, ls, rfl, hs, hl, q⟩ := h
    refine ⟨(by show 1 ≤ sizeLine; decide), fun l0 hl0 => ?_⟩
    have s0 : Same H (upd H l0 (.lst [.int 0])) := (Same.refl H).new hl0
    have pw : ∀ i, i ≤ ls.length → (sumsOf (ls.take i)).length ≤ 256 := fun i hi => by
      rw [sums_len ls i hi]
      exact Nat.pow_le_pow_right (by decide) (show i ≤ 8 by omega)
    refine ⟨_, rfl, t, rfl, ⟨_, s0.tup hs⟩, for_tup (K := K) (a := t) (xs := ls.map V.int) (fun i σ H' => ∃ (l : Addr) (z : Option V), σ = [some (.ref t), some (.ref l), z, none] ∧ Same H H' ∧ H' l = some (.lst ((sumsOf (ls.take i)).map V.int)))
      ⟨l0, none, rfl, s0, upd_same⟩ (fun i σ H' _ ⟨_, _, _, s, _⟩ => s.tup hs) ?_ ?_⟩
    · rintro i x σ H' hi ⟨l, z, rfl, s1, h1⟩
      obtain ⟨z, hz, rfl⟩ := int_at hi
      have hil : i < ls.length := (List.getElem?_eq_some_iff.mp hz).1
      have p1 := pw i (by omega)
      refine ⟨_, rfl, _, rfl, l, rfl, ⟨_, SqL.of h1⟩, fun D hD => ?_⟩
      have hlD : l ≠ D := ne_of_none h1 hD
      refine lc_list (K := K) (a := l) (xs := (sumsOf (ls.take i)).map V.int) (fun j H2 => Same H' H2 ∧ H2 D = some (.lst ((((sumsOf (ls.take i)).take j).map (· + z)).map V.int))) ⟨(Same.refl H').new hD, upd_same⟩ (fun j H2 _ p => p.1.seq (SqL.of h1)) ?_ ?_
      · rintro j y H2 hj ⟨s2, h2⟩
        obtain ⟨o, ho, rfl⟩ := int_at hj
        refine ⟨rfl, _, rfl, _, rfl, _, _, rfl, rfl, _, h2, (by rw [List.length_map, List.length_map, List.length_take]; exact sm (by omega)), s2.mut hD, ?_⟩
        rw [upd_same, ← take_snoc ho, List.map_append, List.map_append]
        rfl
      · rintro H2 ⟨s2, h2⟩
        rw [List.length_map, List.take_length] at h2
        refine ⟨l, D, _, _, rfl, rfl, s2 _ _ h1, h2, (by rw [List.length_map, List.length_map, List.length_map]; exact Nat.le_of_lt (sm (by omega))), fun p hp => ⟨p, _, rfl, (s1.trans s2).new hp, ?_⟩⟩
        rw [upd_same, sums_take hz, List.map_append]
    · rintro σ H' ⟨l, z, rfl, s1, h1⟩
      rw [List.length_map, List.take_length] at h1
      have p1 := pw ls.length (Nat.le_refl _)
      rw [List.take_length] at p1
      refine ⟨_, rfl, l, rfl, ⟨_, SqL.of h1⟩, fun D hD => ?_⟩
      refine lc_list (K := K) (a := l) (xs := (sumsOf ls).map V.int) (fun j H2 => Same H' H2 ∧ H2 D = some (.lst ((((sumsOf ls).take j).map fun o => decide (2 * o = ls.sum)).map V.bl))) ⟨(Same.refl H').new hD, upd_same⟩ (fun j H2 _ p => p.1.seq (SqL.of h1)) ?_ ?_
      · rintro j y H2 hj ⟨s2, h2⟩
        obtain ⟨o, ho, rfl⟩ := int_at hj
        refine ⟨rfl, _, rfl, _, _, rfl, rfl, .inl ⟨by decide, by decide⟩, _, rfl, t, ls, rfl, (s1.trans s2).tup hs, rfl, _, h2, (by rw [List.length_map, List.length_map, List.length_take]; exact sm (by omega)), s2.mut hD, ?_⟩
        rw [upd_same, ← take_snoc ho, List.map_append, List.map_append, dec_int]
        rfl
      · rintro H2 ⟨s2, h2⟩
        rw [List.length_map, List.take_length] at h2
        refine ⟨D, _, rfl, SqL.of h2, ?_⟩
        rw [all_any]
        exact q H2 (s1.trans s2)
/-! ### Ring.__init__ -/
def spRI (K : PySem.W.Frag) (C : Addr) : Sp := fun vs H Q _ => ∃ (r l dx : Addr) (ls : List Int), vs = [.ref r, .ref l] ∧ H r = some (.ins C dx []) ∧ Knd K H (.ref l) "list" ∧ SqL K H l (ls.map V.int) ∧ 3 ≤ ls.length ∧ ls.length ≤ 8 ∧ Bd 1000000 ls ∧
  ∀ H', RingAt K C H' r ls → (∀ b o, H b = some o → b ≠ r → H' b = some o) → Q .non H'
theorem scRI : FnScope ["self", "lengths"] ["self", "lengths"] (defScope sRingInit) := ⟨rfl, rfl, rfl, by decide +kernel, rfl, by decide +kernel, by decide +kernel⟩
theorem ok_ri {C f fA fH : Addr} {fd fdA fdH : FuncData} (F : Fun K "__init__" "Ring.__init__" sRingInit f fd) (T : Bi mg) (N : Nm mg) (R : RingC K mg C) (A' : DefAt P w K mg base CX0 3 "are_lengths" ["value"] (spAreL K) fA fdA) (L : DefAt P w K mg base CX0 2 "has_level" ["lengths"] (spHasL K) fH fdH) : FnOk P w K mg base CX0 4 f fd ["self", "lengths"] (spRI K C) := by
  refine F.ok scRI (fun vs H Q E h => ?_) (fun cdv A outer s H vs Q E hr h => ?_)
  · obtain ⟨r, l, dx, ls, rfl, _⟩ := h
    rfl
  · obtain ⟨t3, h3⟩ := N.leastB
    obtain ⟨t8, h8⟩ := N.mostB
    refine ⟨_, pss_cons (ps_if (pt_not (pt_val (pe_call A'.ok hr rfl A'.g A'.kp A'.b .nil pass0 (pa_cons (pv 1) pa_nil)))) (pss_one ps_never) pss_nil)
      (pss_cons (ps_if (pt_cmpR op_lt (pe_callB call_len_seq (by rfl) T.len PySem.boot_len (pa_cons (pv 1) pa_nil)) (pe_glob (v := .int 3) rfl h3 ⟨_, rfl⟩) (nomark _)) (pss_one ps_never) pss_nil)
      (pss_cons (ps_if (pt_cmpR op_gt (pe_callB call_len_seq (by rfl) T.len PySem.boot_len (pa_cons (pv 1) pa_nil)) (pe_glob (v := .int 8) rfl h8 ⟨_, rfl⟩) (nomark _)) (pss_one ps_never) pss_nil)
      (pss_cons (ps_fld (pv 0) (pe_callTy cr_tupF (by rfl) T.tuple (by decide +kernel) (pa_cons (pv 1) pa_nil)) rfl)
      (pss_cons (ps_fld (pv 0) (pe_callB (cr_sumT rfl) (by rfl) T.sum (by decide +kernel) (pa_cons (pe_fld (pv 0) rfl) pa_nil)) rfl)
      (pss_cons (ps_fld (pv 0) (pe_cmpR op_le (pe_op op_mul pe_int (pe_callB (cr_maxT rfl) (by rfl) T.max (by decide +kernel) (pa_cons (pe_fld (pv 0) rfl) pa_nil))) (pe_fld (pv 0) rfl) (nomark _)) rfl)
      (pss_one (ps_fld (pv 0) (pe_not (pe_call L.ok (hr.mono (by decide)) rfl L.g L.kp L.b .nil pass0 (pa_cons (pe_fld (pv 0) rfl) pa_nil))) rfl))))))), ?_⟩
    obtain ⟨r, l, dx, ls, rfl, hr0, hk, hs, l3, l8, hb, q⟩ := h
    refine ⟨_, rfl, l, ls, rfl, hk, hs, by omega, hb, fun H1 s1 => ⟨_, rfl, iteF ?_⟩⟩
    refine ⟨_, rfl, l, _, rfl, .inl (s1.seq hs), _, _, rfl, rfl, _, rfl, iteDF (by rw [List.length_map]; omega) ?_⟩
    refine ⟨_, rfl, l, _, rfl, .inl (s1.seq hs), _, _, rfl, rfl, _, rfl, iteDF (by rw [List.length_map]; omega) ?_⟩
    have hr1 := s1 _ _ hr0
    refine ⟨_, rfl, l, _, rfl, s1.seq hs, fun t o ht hd => ?_⟩
    have nrt : r ≠ t := ne_of_none hr1 ht
    have ht0 := s1.free ht
    have tup0 : ∀ u, upd (upd H1 t (.frz o (.tup (ls.map V.int)))) r u t = some (.frz o (.tup (ls.map V.int))) := fun u => by rw [upd_ne nrt.symm, upd_same]
    refine ⟨_, rfl, r, C, dx, [], rfl, (by rw [upd_ne nrt]; exact hr1), R.cl, R.nL, (by show 0 < 1000; decide), ?_⟩
    -- self.total
    refine ⟨_, rfl, r, C, dx, _, _, rfl, upd_same, R.cl, R.nL, (by rw [lookup_putF, if_pos rfl]), t, ls, rfl, .inl (.inr ⟨o, tup0 _⟩), _, rfl, r, C, dx, _, rfl, upd_same, R.cl, R.nT, (by show 1 < 1000; decide), ?_⟩
    rw [upd_upd]
    -- self.closes
    refine ⟨_, rfl, r, C, dx, _, _, rfl, upd_same, R.cl, R.nL, (by rw [lookup_putF, if_neg n1, lookup_putF, if_pos rfl]), t, ls, rfl, .inl (.inr ⟨o, tup0 _⟩), by omega, fun m hm hx => ?_⟩
    refine ⟨_, _, rfl, rfl, .inl ⟨by decide, by decide⟩, _, rfl, r, C, dx, _, _, rfl, upd_same, R.cl, R.nT, (by rw [lookup_putF, if_pos rfl]), _, _, rfl, rfl, _, rfl, r, C, dx, _, rfl, upd_same, R.cl, R.nC, ?_, ?_⟩
    · have e1 := length_putF "total" (V.int ls.sum) (putF "lengths" (V.ref t) [])
      have e2 := length_putF "lengths" (V.ref t) []
      simp only [List.length_nil] at e2
      omega
    dsimp only
    rw [upd_upd, closes_max hm hx]
    -- self.is_clear
    refine ⟨_, rfl, r, C, dx, _, _, rfl, upd_same, R.cl, R.nL, (by rw [lookup_putF, if_neg n2, lookup_putF, if_neg n1, lookup_putF, if_pos rfl]), t, ls, rfl, .inl (.inr ⟨o, tup0 _⟩), l8, fun H5 s5 => ⟨_, rfl, _, rfl, r, C, dx, _, rfl, s5 _ _ upd_same, R.cl, R.nI, ?_, ?_⟩⟩
    · have e1 := length_putF "total" (V.int ls.sum) (putF "lengths" (V.ref t) [])
      have e2 := length_putF "lengths" (V.ref t) []
      have e3 := length_putF "closes" (V.bl (closesB ls)) (putF "total" (V.int ls.sum) (putF "lengths" (V.ref t) []))
      simp only [List.length_nil] at e2
      omega
    · have tf := s5 _ _ (tup0 _)
      refine q _ ⟨dx, t, upd_same, .inl (.inr ⟨o, by rw [upd_ne nrt.symm]; exact tf⟩), o, by rw [upd_ne nrt.symm]; exact tf, hd⟩ fun b o e hbr => ?_
      rw [upd_ne hbr]
      refine s5 _ _ ?_
      rw [upd_ne hbr, upd_ne (ne_of_none (s1 _ _ e) ht)]
      exact s1 _ _ e
end
end K
namespace K
open PySem L2 Rg
open Evl (pss_cut)
theorem perm_sum {a b : List Int} (h : a.Perm b) : a.sum = b.sum := by
  induction h with
  | nil => rfl
  | cons x _ ih => rw [List.sum_cons, List.sum_cons, ih]
  | swap x y l => simp only [List.sum_cons]; omega
  | trans _ _ ih1 ih2 => exact ih1.trans ih2
theorem lsum_perm {ls a b : List Int} (h : a.Perm b) : lsum ls a = lsum ls b := perm_sum (h.map _)
section
variable {P : Program} {w : World} {K : PySem.W.Frag} {mg : Str → Option Value} {base : Heap}
/-- a value passed for a lot of a ring of many bars: what becomes of it, k of what it is if it is one -/
def LotV (K : PySem.W.Frag) (H : Hp) (E : XK) (c : Cs) (many : Int) (part : Str) (v : V) (k : List Int → Prop) : Prop :=
  (∃ kd, Knd K H v kd ∧ kd ≠ "list" ∧ kd ≠ "tuple" ∧ Errs E c.l "part" (.str part) H) ∨
  (∃ (a : Addr) (xs : List V) (kf : V → String), v = .ref a ∧ Knd K H (.ref a) "list" ∧ SqL K H a xs ∧ xs.length ≤ 1000 ∧ (∀ x ∈ xs, Knd K H x (kf x)) ∧
    (((xs.all fun x => decide (kf x = "int")) = false ∧ Errs E c.l "part" (.str part) H) ∨ ∃ ns, xs = ns.map V.int ∧ (xs.all fun x => decide (kf x = "int")) = true ∧ LotFin E c part H (res many ns) k)) ∨
  (∃ (a : Addr) (ns : List Int), v = .ref a ∧ Knd K H (.ref a) "tuple" ∧ SqT K H a (ns.map V.int) ∧ ns.length ≤ 1000 ∧ LotFin E c part H (res many ns) k)
theorem LotFin.imp {E : XK} {c : Cs} {part : Str} {H : Hp} {r : Lr} {k k' : List Int → Prop} (h : LotFin E c part H r k) (i : ∀ ns, k ns → k' ns) : LotFin E c part H r k' := by
  cases r with
  | bad => exact h
  | bar b => exact h
  | twice b => exact h
  | ok ns => exact i ns h
theorem LotV.imp {H : Hp} {E : XK} {c : Cs} {many : Int} {part : Str} {v : V} {k k' : List Int → Prop} (h : LotV K H E c many part v k) (i : ∀ ns, k ns → k' ns) : LotV K H E c many part v k' := by
  rcases h with h | ⟨a, xs, kf, e, h1, h2, h3, h4, h⟩ | ⟨a, ns, e, h1, h2, h3, h4⟩
  · exact .inl h
  · refine .inr (.inl ⟨a, xs, kf, e, h1, h2, h3, h4, ?_⟩)
    rcases h with h | ⟨ns, q1, q2, q3⟩
    · exact .inl h
    · exact .inr ⟨ns, q1, q2, q3.imp i⟩
  · exact .inr (.inr ⟨a, ns, e, h1, h2, h3, h4.imp i⟩)
def spWL (K : PySem.W.Frag) (c : Cs) : Sp := fun vs H Q E => ∃ (v : V) (many : Int) (part : Str), vs = [v, .int many, .str part] ∧ LotV K H E c many part v fun ns => ∀ (p : Addr) (ms : List Int) (H' : Hp), ms.Perm ns → Same H H' → H' p = some (.tup (ms.map V.int)) → Q (.ref p) H'
theorem ok_wl {CX : CXT} {k : Nat} {f : Addr} {fd : FuncData} {ps : List Str} {c : Cs} (F1 : FnOk P w K mg base CX k f fd ps (spWLO K c)) (F2 : FnOk P w K mg base CX k f fd ps (spWLL K c)) (F3 : FnOk P w K mg base CX k f fd ps (spWLT K c)) : FnOk P w K mg base CX k f fd ps (spWL K c) := by
  refine (fn_or F1 (fn_or F2 F3)).imp fun vs H Q E h => ?_
  obtain ⟨v, many, part, rfl, h⟩ := h
  rcases h with ⟨kd, h1, h2, h3, h4⟩ | ⟨a, xs, kf, rfl, h1, h2, h3, h4, h⟩ | ⟨a, ns, rfl, h1, h2, h3, h4⟩
  · exact .inl ⟨v, kd, many, part, rfl, h1, h2, h3, h4⟩
  · exact .inr (.inl ⟨a, xs, kf, many, part, rfl, h1, h2, h3, h4, h⟩)
  · exact .inr (.inr ⟨a, ns, many, part, rfl, h1, h2, h3, h4⟩)
/-- a ring, of whose tuple of lengths nothing is known but its items -/
def RingW (K : PySem.W.Frag) (C : Addr) (H : Hp) (r : Addr) (ls : List Int) : Prop := ∃ dx t, H r = some (.ins C dx (rf t ls)) ∧ SqT K H t (ls.map V.int)
theorem RingAt.weak {C : Addr} {H : Hp} {r : Addr} {ls : List Int} (h : RingAt K C H r ls) : RingW K C H r ls := let ⟨dx, t, h1, h2, _⟩ := h; ⟨dx, t, h1, h2⟩
/-! ### len(ring) -/
def spRLen (K : PySem.W.Frag) (C : Addr) : Sp := fun vs H Q _ => ∃ (r : Addr) (ls : List Int), vs = [.ref r] ∧ RingW K C H r ls ∧ Q (.int ls.length) H
theorem scRLen : FnScope ["self"] ["self"] (defScope sRingLen) := ⟨rfl, rfl, rfl, by decide +kernel, rfl, by decide +kernel, by decide +kernel⟩
theorem ok_rlen {C f : Addr} {fd : FuncData} (F : Fun K "__len__" "Ring.__len__" sRingLen f fd) (T : Bi mg) (R : RingC K mg C) : FnOk P w K mg base CX0 1 f fd ["self"] (spRLen K C) := by
  refine F.ok scRLen (fun vs H Q E h => ?_) (fun cdv A outer s H vs Q E hr h => ?_)
  · obtain ⟨r, ls, rfl, _⟩ := h
    rfl
  · refine ⟨_, pss_one (ps_ret (pe_callB call_len_seq (by rfl) T.len PySem.boot_len (pa_cons (pe_fld (pv 0) rfl) pa_nil))), ?_⟩
    obtain ⟨r, ls, rfl, ⟨dx, t, hr0, ht⟩, q⟩ := h
    refine ⟨_, rfl, r, C, dx, _, _, rfl, hr0, R.cl, R.nL, rf_lengths _ _, t, _, rfl, .inr ht, ?_⟩
    rw [List.length_map]
    exact q
/-! ### ring.length_of(lot), ring.sort_of(lot) -/
def spLenOf (K : PySem.W.Frag) (C : Addr) (c : Cs) : Sp := fun vs H Q E => ∃ (r : Addr) (v : V) (ls : List Int), vs = [.ref r, v] ∧ RingW K C H r ls ∧ ls.length ≤ 8 ∧ LotV K H E c ls.length "lot" v fun ns => ∀ H', Same H H' → Q (.int (lsum ls ns)) H'
abbrev nLenOf : List Str := ["self", "lot", "bars", "bar"]
theorem scLenOf : FnScope nLenOf ["self", "lot"] (defScope sRingLengthOf) := ⟨rfl, rfl, rfl, by decide +kernel, rfl, by decide +kernel, by decide +kernel⟩
theorem get_len {ls : List Int} {b : Int} (h0 : 0 ≤ b) (h1 : b < (ls.length : Int)) : atI (ls.map V.int) b = some (V.int (ls.getD b.toNat 0)) := by
  have hb : b.toNat < ls.length := by omega
  refine at_of (j := b.toNat) (by omega) ?_
  rw [int_get hb, List.getD_eq_getElem?_getD, List.getElem?_eq_getElem hb]
  rfl
theorem res_ok {many : Int} {ns ms : List Int} (h : res many ns = .ok ms) : ms = ns ∧ (∀ x ∈ ns, isBar many x = true) ∧ ft [] ns = none := by
  unfold res at h
  cases e : ns.find? (fun b => !isBar many b) with
  | some b => rw [e] at h; cases h
  | none =>
    rw [e] at h
    cases e2 : ft [] ns with
    | some b => rw [e2] at h; cases h
    | none =>
      rw [e2] at h
      cases h
      refine ⟨rfl, fun x hx => ?_, rfl⟩
      have := List.find?_eq_none.mp e x hx
      simpa using this
/-- a lot that is one, with what is known of it -/
theorem LotFin.fine {E : XK} {c : Cs} {part : Str} {H : Hp} {many : Int} {ns : List Int} {k k' : List Int → Prop} (h : LotFin E c part H (res many ns) k) (hl : ns.length ≤ 1000) (i : ∀ ms, ms.length ≤ 1000 → (∀ x ∈ ms, isBar many x = true) → k ms → k' ms) : LotFin E c part H (res many ns) k' := by
  cases e : res many ns with
  | bad => rw [e] at h; exact h
  | bar b => rw [e] at h; exact h
  | twice b => rw [e] at h; exact h
  | ok ms =>
    rw [e] at h
    obtain ⟨rfl, a, _⟩ := res_ok e
    exact i ms hl a h
theorem LotV.fine {H : Hp} {E : XK} {c : Cs} {many : Int} {part : Str} {v : V} {k k' : List Int → Prop} (h : LotV K H E c many part v k) (i : ∀ ms, ms.length ≤ 1000 → (∀ x ∈ ms, isBar many x = true) → k ms → k' ms) : LotV K H E c many part v k' := by
  rcases h with h | ⟨a, xs, kf, e, h1, h2, h3, h4, h⟩ | ⟨a, ns, e, h1, h2, h3, h4⟩
  · exact .inl h
  · refine .inr (.inl ⟨a, xs, kf, e, h1, h2, h3, h4, ?_⟩)
    rcases h with h | ⟨ns, q1, q2, q3⟩
    · exact .inl h
    · exact .inr ⟨ns, q1, q2, q3.fine (by rw [q1, List.length_map] at h3; exact h3) i⟩
  · exact .inr (.inr ⟨a, ns, e, h1, h2, h3, h4.fine h3 i⟩)
theorem ok_lenOf {C f fW : Addr} {c : Cs} {fd fdW : FuncData} (F : Fun K "length_of" "Ring.length_of" sRingLengthOf f fd) (T : Bi mg) (R : RingC K mg C) (W : DefAt P w K mg base (L2.CX P w) 4 "want_lot" ["value", "many", "part"] (spWL K c) fW fdW) : FnOk P w K mg base (L2.CX P w) 5 f fd ["self", "lot"] (spLenOf K C c) := by
  refine F.okX scLenOf (fun vs H Q E h => ?_) (fun cdv A outer s H vs Q E hr h => ?_)
  · obtain ⟨r, v, ls, rfl, _⟩ := h
    rfl
  · have nd := scLenOf.nd
    refine ⟨_, pss_cons (ps_set (i := 2) nd rfl (Or.inl rfl) (pe_call W.ok hr rfl W.g W.kp W.b .nil (passes_call (takes_of rfl rfl rfl rfl) (fun _ _ _ _ h => h)) (pa_cons (pv 1) (pa_cons (pe_callB call_len_seq (by rfl) T.len PySem.boot_len (pa_cons (pe_fld (pv 0) rfl) pa_nil)) (pa_cons pe_str pa_nil)))))
      (pss_one (ps_ret (pe_callB (cr_sum rfl) (by rfl) T.sum (by decide +kernel) (pa_cons (pe_lc (own := [("bar", 3)]) (g := gName 3) (tt := tYes) (te := tOp (rIxT K) (tFld K (tVar 0) "lengths") (tVar 3)) rfl nd (pi_tup (pv 2))
        (blkOk_by (N := nLenOf) (sc := defScope sRingLengthOf) (by decide +kernel)) (fun _ _ _ _ _ => pg_name (i := 3) nd rfl (Or.inl rfl)) (fun _ _ _ _ _ => pts_nil) (fun _ _ _ _ _ => pe_ix (r := rIxT K) ix_tup (pe_fld (pv 0) rfl) (pv 3) (fun _ _ => rfl))) pa_nil)))), ?_⟩
    obtain ⟨r, v, ls, rfl, ⟨dx, t, hr0, ht⟩, l8, q⟩ := h
    refine ⟨_, rfl, _, rfl, r, C, dx, _, _, rfl, hr0, R.cl, R.nL, rf_lengths _ _, t, _, rfl, .inr ht, v, ls.length, "lot", by rw [List.length_map]; rfl, q.fine fun ns hns al q => ?_⟩
    intro p ms H1 pm s1 hp
    have hms : ms.length ≤ 1000 := by rw [pm.length_eq]; exact hns
    refine ⟨_, rfl, p, rfl, ⟨_, .inl (.inl hp)⟩, fun D hD => ?_⟩
    have hD0 := s1.free hD
    refine lc_tup (K := K) (a := p) (xs := ms.map V.int) (fun i H' => Same H H' ∧ H' p = some (.tup (ms.map V.int)) ∧ H' D = some (.lst (((ms.take i).map fun b => ls.getD b.toNat 0).map V.int))) ⟨s1.new hD, by rw [upd_ne (ne_of_none hp hD)]; exact hp, upd_same⟩ (fun i H' _ q => .inl (.inl q.2.1)) ?_ ?_
    · rintro i x H' hi ⟨s2, h1, h2⟩
      obtain ⟨z, hz, rfl⟩ := int_at hi
      have hil : i < ms.length := (List.getElem?_eq_some_iff.mp hz).1
      have az := al z (pm.mem_iff.mp (List.mem_of_getElem? hz))
      refine ⟨rfl, _, rfl, r, C, dx, _, _, rfl, s2 _ _ hr0, R.cl, R.nL, rf_lengths _ _, _, rfl, t, _, z, _, rfl, rfl, s2.tup ht, get_len (isBar_iff.mp az).1 (isBar_iff.mp az).2, _, h2, (by rw [List.length_map, List.length_map, List.length_take]; exact sm (by omega)), s2.mut hD0, by rw [upd_ne (ne_of_none hp hD)]; exact h1, ?_⟩
      rw [upd_same, ← take_snoc hz, List.map_append, List.map_append]
      rfl
    · rintro H' ⟨s2, h1, h2⟩
      rw [List.length_map, List.take_length] at h2
      refine ⟨D, _, rfl, SqL.of h2, ?_⟩
      have q2 := q H' s2
      rw [← lsum_perm pm] at q2
      exact q2
def sbV (e : Int) : Str := if e = 0 then "level" else if e < 0 then "short" else "long"
def spSortBy : Sp := fun vs H Q _ => ∃ e : Int, vs = [.int e] ∧ Q (.str (sbV e)) H
theorem scSortBy : FnScope ["excess"] ["excess"] (defScope sSortBy) := ⟨rfl, rfl, rfl, by decide +kernel, rfl, by decide +kernel, by decide +kernel⟩
theorem ok_sortBy {f : Addr} {fd : FuncData} (F : Fun K "sort_by" "sort_by" sSortBy f fd) : FnOk P w K mg base CX0 1 f fd ["excess"] spSortBy := by
  refine F.ok scSortBy (fun vs H Q E h => ?_) (fun cdv A outer s H vs Q E hr h => ?_)
  · obtain ⟨e, rfl, _⟩ := h
    rfl
  · refine ⟨_, pss_cons (ps_if (pt_cmpR op_eq (pv 0) pe_int (nomark _)) (pss_one (ps_ret pe_str)) pss_nil)
      (pss_one (ps_ret (pe_ifExp (pt_cmpR op_lt (pv 0) pe_int (nomark _)) pe_str pe_str))), ?_⟩
    obtain ⟨e, rfl, q⟩ := h
    unfold sbV at q
    refine ⟨_, rfl, rfl, _, rfl, ?_⟩
    by_cases c : e = 0
    · rw [if_pos c] at q
      exact iteDT (congrArg V.int c) q
    · rw [if_neg c] at q
      refine iteDF (fun z => c (V.int.inj z)) ?_
      refine ⟨_, rfl, _, _, rfl, rfl, _, rfl, ?_⟩
      by_cases c2 : e < 0
      · rw [if_pos c2] at q
        exact iteDT c2 q
      · rw [if_neg c2] at q
        exact iteDF c2 q
theorem sbV_sort (ls ns : List Int) : sbV (2 * lsum ls ns - ls.sum) = sortV ls ns := by
  unfold sbV sortV
  by_cases c : 2 * lsum ls ns = ls.sum
  · rw [if_pos c, if_pos (by omega)]
  · rw [if_neg c, if_neg (by omega)]
    by_cases d : 2 * lsum ls ns < ls.sum
    · rw [if_pos d, if_pos (by omega)]
    · rw [if_neg d, if_neg (by omega)]
abbrev nSortOf : List Str := ["self", "lot"]
theorem scSortOf : FnScope nSortOf ["self", "lot"] (defScope sRingSortOf) := ⟨rfl, rfl, rfl, by decide +kernel, rfl, by decide +kernel, by decide +kernel⟩
def spSortOf (K : PySem.W.Frag) (C : Addr) (c : Cs) : Sp := fun vs H Q E => ∃ (r : Addr) (v : V) (ls : List Int), vs = [.ref r, v] ∧ RingW K C H r ls ∧ ls.length ≤ 8 ∧ LotV K H E c ls.length "lot" v fun ns => ∀ H', Same H H' → Q (.str (sortV ls ns)) H'
theorem ok_sortOf {C f fL fB : Addr} {c : Cs} {fd fdL fdB : FuncData} (F : Fun K "sort_of" "Ring.sort_of" sRingSortOf f fd) (R : RingC K mg C) (M : Meth K C "length_of" fL) (L : FnOk P w K mg base (L2.CX P w) 5 fL fdL ["self", "lot"] (spLenOf K C c)) (LB : Binds K fdL ["self", "lot"] []) (SB : DefAt P w K mg base CX0 1 "sort_by" ["excess"] spSortBy fB fdB) : FnOk P w K mg base (L2.CX P w) 6 f fd ["self", "lot"] (spSortOf K C c) := by
  refine F.okX scSortOf (fun vs H Q E h => ?_) (fun cdv A outer s H vs Q E hr h => ?_)
  · obtain ⟨r, v, ls, rfl, _⟩ := h
    rfl
  · have nd := scSortOf.nd
    refine ⟨_, pss_one (ps_ret (pe_call SB.ok (hr.mono (by decide)) rfl SB.g SB.kp SB.b .nil pass0 (pa_cons (pe_op op_sub (pe_op op_mul pe_int (pe_meth (pv 0) R.cl M L hr LB .nil (passes_call (takes_of rfl rfl rfl rfl) (fun _ _ _ _ h => h)) (pa_cons (pv 1) pa_nil))) (pe_fld (pv 0) rfl)) pa_nil))), ?_⟩
    obtain ⟨r, v, ls, rfl, ⟨dx, t, hr0, ht⟩, l8, q⟩ := h
    refine ⟨_, rfl, r, dx, _, rfl, hr0, rf_no _ _ (by decide +kernel) (by decide +kernel) (by decide +kernel) (by decide +kernel), _, rfl, r, v, ls, rfl, ⟨dx, t, hr0, ht⟩, l8, q.imp fun ns q => ?_⟩
    intro H1 s1
    have hr1 := s1 _ _ hr0
    refine ⟨_, _, rfl, rfl, .inl ⟨by decide, by decide⟩, _, rfl, r, C, dx, _, _, rfl, hr1, R.cl, R.nT, rf_total _ _, _, _, rfl, rfl, _, rfl, ?_⟩
    have q1 := q H1 s1
    rw [← sbV_sort] at q1
    exact q1
end
end K
namespace K
open PySem L2 Rg
open Evl (pss_cut)
section
variable {P : Program} {w : World} {K : PySem.W.Frag} {mg : Str → Option Value} {base : Heap}
theorem kit_self {K : PySem.W.Frag} {C : Addr} : PySem.W.kitOne K (.ref C) (.ref C) = some true := by
  unfold PySem.W.kitOne
  simp
/-- what is no ring: a value of a kind that is no Ring -/
def NoR (K : PySem.W.Frag) (C : Addr) (H : Hp) (v : V) : Prop := ∃ k : String, TyX K H v (.type k) ∧ PySem.W.kitOne K (.type k) (.ref C) = some false
theorem NoR.same {C : Addr} {H H' : Hp} {v : V} (h : NoR K C H v) (s : Same H H') : NoR K C H' v := let ⟨k, a, b⟩ := h; ⟨k, tyx_same a s, b⟩
def spWantR (K : PySem.W.Frag) (C cR : Addr) : Sp := fun vs H Q E => ∃ (v : V) (part : Str), vs = [v, .str part] ∧ ((∃ r ls, v = .ref r ∧ RingW K C H r ls ∧ Q .non H) ∨ (NoR K C H v ∧ Errs E cR "part" (.str part) H))
theorem scWantR : FnScope ["value", "part"] ["value", "part"] (defScope sWantRing) := ⟨rfl, rfl, rfl, by decide +kernel, rfl, by decide +kernel, by decide +kernel⟩
theorem ok_wantR {C cR f fI : Addr} {fd fdI : FuncData} (F : Fun K "want_ring" "want_ring" sWantRing f fd) (T : Bi mg) (R : RingC K mg C) (B : ErrAt P w K mg base "BadRing" "part" cR fI fdI) : FnOk P w K mg base (L2.CX P w) 3 f fd ["value", "part"] (spWantR K C cR) := by
  refine F.okX scWantR (fun vs H Q E h => ?_) (fun cdv A outer s H vs Q E hr h => ?_)
  · obtain ⟨v, part, rfl, _⟩ := h
    rfl
  · refine ⟨_, pss_one (ps_if (pt_not (pt_val (pe_callB call_isi (by rfl) T.isinstance (by decide +kernel) (pa_cons (pv 0) (pa_cons (pe_glob (v := .ref C) rfl R.g rfl) pa_nil)))))
      (pss_one (ps_raise rfl (takes_of rfl rfl rfl rfl) (pmk_oex B.oex B.ic B.ti B.ok hr B.b .nil pass0 rfl B.g (pa_cons (pv 1) pa_nil)))) pss_nil), ?_⟩
    obtain ⟨v, part, rfl, h⟩ := h
    rcases h with ⟨r, ls, rfl, ⟨dx, t, hr0, ht⟩, q⟩ | ⟨⟨k, ty, kit⟩, er⟩
    · refine ⟨_, rfl, .ref r, .ref C, _, _, _, rfl, .own C, .base (.ins hr0 R.cl R.ha R.hn R.ht R.hm), kit_self, ?_⟩
      exact ⟨_, rfl, iteF q⟩
    · refine ⟨_, rfl, v, .ref C, _, _, _, rfl, .own C, ty, kit, ?_⟩
      exact ⟨_, rfl, iteT ⟨_, rfl, err_made B.oex B.nf er⟩⟩
end
end K
namespace K
open PySem L2 Rg
open Evl (pss_cut)
/-! ### all lots -/
def lotsN : Nat → List (List Int)
  | 0 => [[]]
  | n + 1 => lotsN n ++ (lotsN n).map (· ++ [(n : Int)])
def barsN : Nat → List Int
  | 0 => []
  | n + 1 => barsN n ++ [(n : Int)]
theorem lotsN_succ (n : Nat) : lotsN (n + 1) = lotsN n ++ (lotsN n).map (· ++ [(n : Int)]) := rfl
theorem barsN_succ (n : Nat) : barsN (n + 1) = barsN n ++ [(n : Int)] := rfl
theorem barsN_length : ∀ n, (barsN n).length = n
  | 0 => rfl
  | n + 1 => by unfold barsN; rw [List.length_append, barsN_length n]; rfl
theorem lotsN_length : ∀ n, (lotsN n).length = 2 ^ n
  | 0 => rfl
  | n + 1 => by unfold lotsN; rw [List.length_append, List.length_map, lotsN_length n, Nat.pow_succ]; omega
theorem lotsN_len : ∀ n, ∀ l ∈ lotsN n, l.length ≤ n
  | 0, l, h => by rw [List.mem_singleton.mp h]; exact Nat.le_refl _
  | n + 1, l, h => by
    rcases List.mem_append.mp h with h | h
    · exact Nat.le_succ_of_le (lotsN_len n l h)
    · obtain ⟨a, ha, rfl⟩ := List.mem_map.mp h
      have := lotsN_len n a ha
      rw [List.length_append, List.length_singleton]
      omega
theorem lotsN_full : ∀ n, ∀ l ∈ lotsN n, l.length = n → l = barsN n
  | 0, l, h, _ => List.mem_singleton.mp h
  | n + 1, l, h, hl => by
    rcases List.mem_append.mp h with h | h
    · have := lotsN_len n l h
      omega
    · obtain ⟨a, ha, rfl⟩ := List.mem_map.mp h
      rw [List.length_append, List.length_singleton] at hl
      rw [lotsN_full n a ha (by omega)]
      rfl
theorem lotsN_in : ∀ n, ∀ l ∈ lotsN n, ∀ b ∈ l, 0 ≤ b ∧ b < n
  | 0, l, h, b, hb => by rw [List.mem_singleton.mp h] at hb; cases hb
  | n + 1, l, h, b, hb => by
    rcases List.mem_append.mp h with h | h
    · have := lotsN_in n l h b hb
      omega
    · obtain ⟨a, ha, rfl⟩ := List.mem_map.mp h
      rcases List.mem_append.mp hb with hb | hb
      · have := lotsN_in n a ha b hb
        omega
      · rw [List.mem_singleton.mp hb]
        omega
theorem lotsN_nodup : ∀ n, ∀ l ∈ lotsN n, l.Nodup
  | 0, l, h => by rw [List.mem_singleton.mp h]; exact List.nodup_nil
  | n + 1, l, h => by
    rcases List.mem_append.mp h with h | h
    · exact lotsN_nodup n l h
    · obtain ⟨a, ha, rfl⟩ := List.mem_map.mp h
      rw [List.nodup_append]
      refine ⟨lotsN_nodup n a ha, by simp, fun x hx y hy => ?_⟩
      have := lotsN_in n a ha x hx
      rw [List.mem_singleton.mp hy]
      omega
theorem lotsN_nil : ∀ n, [] ∈ lotsN n
  | 0 => List.mem_singleton.mpr rfl
  | n + 1 => List.mem_append_left _ (lotsN_nil n)
theorem barsN_mem : ∀ n, barsN n ∈ lotsN n
  | 0 => List.mem_singleton.mpr rfl
  | n + 1 => List.mem_append_right _ (List.mem_map.mpr ⟨_, barsN_mem n, rfl⟩)
/-- the sums of the lengths are those of all lots -/
theorem lots_sums {ls : List Int} : ∀ n, n ≤ ls.length → (lotsN n).map (lsum ls) = sumsOf (ls.take n)
  | 0, _ => rfl
  | n + 1, h => by
    have hz : ls[n]? = some ls[n] := List.getElem?_eq_getElem h
    have ih := lots_sums (ls := ls) n (by omega)
    rw [sums_take hz, ← ih, lotsN_succ, List.map_append, List.map_map, List.map_map]
    congr 1
    refine List.map_congr_left fun l _ => ?_
    show lsum ls (l ++ [(n : Int)]) = lsum ls l + ls[n]
    unfold lsum
    rw [List.map_append, List.sum_append, List.map_singleton, List.sum_singleton, List.getD_eq_getElem?_getD, Int.toNat_natCast, hz]
    rfl
theorem level_lots (ls : List Int) : levelB ls = (lotsN ls.length).any fun l => decide (2 * lsum ls l = ls.sum) := by
  have h := lots_sums (ls := ls) ls.length (Nat.le_refl _)
  rw [List.take_length] at h
  unfold levelB
  rw [← h, List.any_map]
  rfl
theorem sum_bars {ls : List Int} : ∀ n, n ≤ ls.length → lsum ls (barsN n) = (ls.take n).sum
  | 0, _ => rfl
  | n + 1, h => by
    have hz : ls[n]? = some ls[n] := List.getElem?_eq_getElem h
    rw [← take_snoc hz, List.sum_append, ← sum_bars n (by omega), barsN_succ]
    unfold lsum
    rw [List.map_append, List.sum_append, List.map_singleton, List.sum_singleton, List.sum_singleton, List.getD_eq_getElem?_getD, Int.toNat_natCast, hz]
    rfl
section
variable {P : Program} {w : World} {K : PySem.W.Frag} {mg : Str → Option Value} {base : Heap}
/-- lots in a heap: kf tells the bars of each -/
def LotsAt (H : Hp) (xs : List V) (kf : V → List Int) : Prop := ∀ x ∈ xs, ∃ a, x = .ref a ∧ H a = some (.tup ((kf x).map V.int))
theorem LotsAt.same {H H' : Hp} {xs : List V} {kf : V → List Int} (h : LotsAt H xs kf) (s : Same H H') : LotsAt H' xs kf := fun x hx => let ⟨a, e, q⟩ := h x hx; ⟨a, e, s _ _ q⟩
/-- refs to tuples of ints, what they hold -/
def TL (H : Hp) : List V → List (List Int) → Prop := Paired fun x ns => ∃ a, x = V.ref a ∧ H a = some (.tup (ns.map V.int))
def PL (H : Hp) : List V → List (List Int) → Prop := Paired fun x ns => ∃ t b, x = V.ref t ∧ H t = some (.tup [.int (ns.length : Nat), .ref b]) ∧ H b = some (.tup (ns.map V.int))
theorem par_imp {α β : Type} {R S : α → β → Prop} (i : ∀ a b, R a b → S a b) : ∀ {xs : List α} {ys : List β}, Paired R xs ys → Paired S xs ys
  | _, _, .nil => .nil
  | _, _, .cons h t => .cons (i _ _ h) (par_imp i t)
theorem par_app {α β : Type} {R : α → β → Prop} : ∀ {xs : List α} {ys : List β} {zs : List α} {ws : List β}, Paired R xs ys → Paired R zs ws → Paired R (xs ++ zs) (ys ++ ws)
  | _, _, _, _, .nil, q => q
  | _, _, _, _, .cons h t, q => .cons h (par_app t q)
theorem par_len {α β : Type} {R : α → β → Prop} : ∀ {xs : List α} {ys : List β}, Paired R xs ys → xs.length = ys.length
  | _, _, .nil => rfl
  | _, _, .cons _ t => congrArg (· + 1) (par_len t)
theorem par_get {α β : Type} {R : α → β → Prop} : ∀ {xs : List α} {ys : List β}, Paired R xs ys → ∀ {i : Nat} {x : α}, xs[i]? = some x → ∃ y, ys[i]? = some y ∧ R x y
  | _, _, .cons h t, 0, x, e => ⟨_, rfl, by cases e; exact h⟩
  | _, _, .cons h t, i + 1, x, e => par_get t (by simpa using e)
theorem par_mem {α β : Type} {R : α → β → Prop} : ∀ {xs : List α} {ys : List β}, Paired R xs ys → ∀ {x : α}, x ∈ xs → ∃ y ∈ ys, R x y
  | _, _, .cons h t, x, e => by
    rcases List.mem_cons.mp e with rfl | e
    · exact ⟨_, List.mem_cons_self .., h⟩
    · obtain ⟨y, hy, r⟩ := par_mem t e
      exact ⟨y, List.mem_cons_of_mem _ hy, r⟩
theorem par_mem2 {α β : Type} {R : α → β → Prop} : ∀ {xs : List α} {ys : List β}, Paired R xs ys → ∀ {y : β}, y ∈ ys → ∃ x ∈ xs, R x y
  | _, _, .cons h t, y, e => by
    rcases List.mem_cons.mp e with rfl | e
    · exact ⟨_, List.mem_cons_self .., h⟩
    · obtain ⟨x, hx, r⟩ := par_mem2 t e
      exact ⟨x, List.mem_cons_of_mem _ hx, r⟩
theorem par_map {α β : Type} {R : α → β → Prop} {f : α → β} (i : ∀ a b, R a b → f a = b) : ∀ {xs : List α} {ys : List β}, Paired R xs ys → xs.map f = ys
  | _, _, .nil => rfl
  | _, _, .cons h t => by rw [List.map_cons, i _ _ h, par_map i t]
theorem TL.same {H H' : Hp} {xs : List V} {nss : List (List Int)} (h : TL H xs nss) (s : Same H H') : TL H' xs nss := par_imp (fun _ _ ⟨a, e, q⟩ => ⟨a, e, s _ _ q⟩) h
theorem PL.same {H H' : Hp} {xs : List V} {nss : List (List Int)} (h : PL H xs nss) (s : Same H H') : PL H' xs nss := par_imp (fun _ _ ⟨t, b, e, q, r⟩ => ⟨t, b, e, s _ _ q, s _ _ r⟩) h
def vint : V → Int
  | .int z => z
  | _ => 0
theorem vints : ∀ ns : List Int, (ns.map V.int).map vint = ns
  | [] => rfl
  | n :: ns => by rw [List.map_cons, List.map_cons, vints ns]; rfl
def cont (H : Hp) (x : V) : List Int := match x with
  | .ref a => (match H a with
    | some (.tup ys) => ys.map vint
    | _ => [])
  | _ => []
theorem cont_at {H : Hp} {a : Addr} {ns : List Int} (h : H a = some (.tup (ns.map V.int))) : cont H (.ref a) = ns := by
  show (match H a with
    | some (.tup ys) => ys.map vint
    | _ => []) = ns
  rw [h]
  exact vints ns
def lotOf (H : Hp) (x : V) : V := match x with
  | .ref a => (match H a with
    | some (.tup [_, b]) => b
    | _ => .non)
  | _ => .non
theorem lotOf_at {H : Hp} {a : Addr} {x y : V} (h : H a = some (.tup [x, y])) : lotOf H (.ref a) = y := by
  show (match H a with
    | some (.tup [_, b]) => b
    | _ => .non) = y
  rw [h]
/-- what a pair is sorted by -/
def keyOf (H : Hp) (x : V) : Int × List Int := (((cont H (lotOf H x)).length : Nat), cont H (lotOf H x))
theorem keyOf_at {H : Hp} {x : V} {ns : List Int} (h : ∃ t b, x = V.ref t ∧ H t = some (.tup [.int (ns.length : Nat), .ref b]) ∧ H b = some (.tup (ns.map V.int))) : keyOf H x = (((ns.length : Nat) : Int), ns) := by
  obtain ⟨t, b, rfl, h1, h2⟩ := h
  unfold keyOf
  rw [lotOf_at h1, cont_at h2]
theorem sorted_first {ys : List V} {k : V → List Int} (h : ys.Pairwise fun u v => HT.lexLt (((k v).length : Int) :: k v) (((k u).length : Int) :: k u) = false) (h0 : ∃ y ∈ ys, k y = []) : ∀ y, ys[0]? = some y → k y = [] := by
  intro y hy
  cases ys with
  | nil => cases hy
  | cons z zs =>
    obtain rfl : z = y := Option.some.inj hy
    obtain ⟨u, hu, e⟩ := h0
    rcases List.mem_cons.mp hu with rfl | hu
    · exact e
    · have q := (List.pairwise_cons.mp h).1 u hu
      rw [e, HT.lexLt_cons] at q
      by_cases c : (([] : List Int).length : Int) = ((k z).length : Int)
      · exact List.eq_nil_of_length_eq_zero (by simp at c; omega)
      · rw [if_neg c] at q
        have := of_decide_eq_false q
        rw [List.length_nil] at this
        exact List.eq_nil_of_length_eq_zero (by omega)
theorem sorted_last {n : Nat} {ys : List V} {k : V → List Int} (h : ys.Pairwise fun u v => HT.lexLt (((k v).length : Int) :: k v) (((k u).length : Int) :: k u) = false) (hn : ∀ y ∈ ys, (k y).length ≤ n) (h0 : ∃ y ∈ ys, (k y).length = n) : ∀ y, ys[ys.length - 1]? = some y → (k y).length = n := by
  intro y hy
  obtain ⟨u, hu, e⟩ := h0
  obtain ⟨i, hi, eu⟩ := List.mem_iff_getElem.mp hu
  obtain ⟨hj, ey⟩ := List.getElem?_eq_some_iff.mp hy
  by_cases c : i = ys.length - 1
  · subst c
    rw [← ey, eu, e]
  · have q := (List.pairwise_iff_getElem.mp h) i (ys.length - 1) hi hj (by omega)
    rw [eu, ey, HT.lexLt_cons] at q
    have b := hn y (List.mem_of_getElem? hy)
    by_cases d : ((k y).length : Int) = ((k u).length : Int)
    · omega
    · rw [if_neg d] at q
      have := of_decide_eq_false q
      omega
def rLenS (K : PySem.W.Frag) : List V → Hp → VK → Prop := fun xs H Q => ∃ p ys, xs = [.ref p] ∧ (SqL K H p ys ∨ SqT K H p ys) ∧ Q (.int ys.length) H
def spLots (K : PySem.W.Frag) : Sp := fun vs H Q _ => ∃ n : Nat, vs = [.int n] ∧ 1 ≤ n ∧ n ≤ 8 ∧
  ∀ (p : Addr) (xs : List V) (kf : V → List Int) (H' : Hp), Same H H' → H' p = some (.lst xs) → LotsAt H' xs kf → (xs.map kf).Perm (lotsN n) → (xs.Pairwise fun u v => HT.lexLt (((kf v).length : Int) :: kf v) (((kf u).length : Int) :: kf u) = false) → Q (.ref p) H'
abbrev nLots : List Str := ["_law_many", "_law_found", "_law_bar", "_law_lot", "_law_size"]
theorem scLots : FnScope nLots ["_law_many"] (defScope sLwLots) := ⟨rfl, rfl, rfl, by decide +kernel, rfl, by decide +kernel, by decide +kernel⟩
theorem ok_lots {f : Addr} {fd : FuncData} (F : Fun K "_law_lots" "_law_lots" sLwLots f fd) (T : Bi mg) : FnOk P w K mg base CX0 2 f fd ["_law_many"] (spLots K) := by
  refine F.ok scLots (fun vs H Q E h => ?_) (fun cdv A outer s H vs Q E hr h => ?_)
  · obtain ⟨n, rfl, _⟩ := h
    rfl
  · have nd := scLots.nd
    refine ⟨_, pss_cons (ps_set (i := 1) nd rfl (Or.inl rfl) (pe_lst (pa_cons (pe_tup pa_nil) pa_nil)))
      (pss_cons (ps_for PassesOwn.never rfl (pi_range1 (by rfl) T.range (pa_cons (pv 0) pa_nil)) (pg_name (i := 2) nd rfl (Or.inr rfl)) (pss_one (ps_set (i := 1) nd rfl (Or.inl rfl) (pe_op op_cat (pv 1) (pe_lc (own := [("_law_lot", 3)]) (g := gName 3) (tt := tYes) (te := tOp (rCatA K) (tVar 3) (tTup (tCons (tVar 2) tNil))) rfl nd (pi_list (pv 1))
        (blkOk_by (N := nLots) (sc := defScope sLwLots) (by decide +kernel)) (fun _ _ _ _ _ => pg_name (i := 3) nd rfl (Or.inl rfl)) (fun _ _ _ _ _ => pts_nil) (fun _ _ _ _ _ => pe_op op_catA (pv 3) (pe_tup (pa_cons (pv 2) pa_nil))))))))
      (pss_one (ps_ret (pe_lc (own := [("_law_size", 4), ("_law_lot", 3)]) (g := gTup K 2 (gCons (gName 4) (gCons (gName 3) gNil))) (tt := tYes) rfl nd
        (pi_list (pe_callB (cr_sortedN hr.units) (by rfl) T.sorted (by decide +kernel) (pa_cons (pe_lc (own := [("_law_lot", 3)]) (g := gName 3) (tt := tYes) (te := tTup (tCons (tCB (rLenS K) (tCons (tVar 3) tNil)) (tCons (tVar 3) tNil))) rfl nd (pi_list (pv 1))
          (blkOk_by (N := nLots) (sc := defScope sLwLots) (by decide +kernel)) (fun _ _ _ _ _ => pg_name (i := 3) nd rfl (Or.inl rfl)) (fun _ _ _ _ _ => pts_nil) (fun _ _ _ _ _ => pe_tup (pa_cons (pe_callB (r := rLenS K) call_len_seq (by rfl) T.len PySem.boot_len (pa_cons (pv 3) pa_nil)) (pa_cons (pv 3) pa_nil)))) pa_nil)))
        (blkOk_by (N := nLots) (sc := defScope sLwLots) (by decide +kernel)) (fun _ _ _ _ _ => pg_tup rfl (pgs_cons (pg_name (i := 4) nd rfl (Or.inl rfl)) (pgs_cons (pg_name (i := 3) nd rfl (Or.inl rfl)) pgs_nil))) (fun _ _ _ _ _ => pts_nil) (fun _ _ _ _ _ => pv 3))))), ?_⟩
    obtain ⟨n, rfl, n1, n8, q⟩ := h
    refine ⟨(by show 0 ≤ sizeLine; decide), fun e0 he0 => ⟨(by show 1 ≤ sizeLine; decide), fun l0 hl0 => ?_⟩⟩
    have s0 : Same H (upd (upd H e0 (.tup [])) l0 (.lst [.ref e0])) := ((Same.refl H).new he0).new hl0
    have he1 : upd (upd H e0 (.tup [])) l0 (.lst [.ref e0]) e0 = some (.tup []) := by rw [upd_ne (ne_of_none upd_same hl0), upd_same]
    refine ⟨_, rfl, _, rfl, by omega, by omega, ?_⟩
    refine for_range (lo := 0) (n := ((n : Nat) : Int).toNat) (fun i σ H' => ∃ (l : Addr) (t : Option V) (xs : List V), σ = [some (.int n), some (.ref l), t, none, none] ∧ Same H H' ∧ H' l = some (.lst xs) ∧ TL H' xs (lotsN i))
      ⟨l0, none, [.ref e0], rfl, s0, upd_same, .cons ⟨e0, rfl, he1⟩ .nil⟩ ?_ ?_
    · rintro i σ H' hi ⟨l, t, xs, rfl, s1, h1, tl⟩
      have hi8 : i < 8 := by omega
      have hxl : xs.length = 2 ^ i := by rw [par_len tl, lotsN_length]
      have h256 : 2 ^ i ≤ 128 := Nat.pow_le_pow_right (by decide) (show i ≤ 7 by omega)
      rw [Int.zero_add]
      refine ⟨_, rfl, _, rfl, l, rfl, ⟨_, SqL.of h1⟩, fun D hD => ?_⟩
      refine lc_list (K := K) (a := l) (xs := xs) (fun j H2 => Same H' H2 ∧ ∃ ys, H2 D = some (.lst ys) ∧ TL H2 ys (((lotsN i).take j).map (· ++ [(i : Int)]))) ⟨(Same.refl H').new hD, [], upd_same, .nil⟩ (fun j H2 _ p => p.1.seq (SqL.of h1)) ?_ ?_
      · rintro j y H2 hj ⟨s2, ys, h2, yl⟩
        obtain ⟨ns, hns, a, rfl, ha⟩ := par_get tl hj
        have ha2 := s2 _ _ ha
        have hjl : j < (lotsN i).length := (List.getElem?_eq_some_iff.mp hns).1
        have hyl : ys.length < sizeLine := by
          have := lotsN_length i
          rw [par_len yl, List.length_map, List.length_take]
          exact sm (by omega)
        have fin : ∀ (c : Addr) (H3 : Hp), Same H2 H3 → H3 c = some (.tup ((ns ++ [(i : Int)]).map V.int)) → ∃ acc, H3 D = some (.lst acc) ∧ acc.length < sizeLine ∧ (Same H' (upd H3 D (.lst (acc ++ [.ref c]))) ∧ ∃ zs, upd H3 D (.lst (acc ++ [.ref c])) D = some (.lst zs) ∧ TL (upd H3 D (.lst (acc ++ [.ref c]))) zs (((lotsN i).take (j + 1)).map (· ++ [(i : Int)]))) := by
          intro c H3 s3 hc
          have sD : Same H' (upd H3 D (.lst (ys ++ [.ref c]))) := (s2.trans s3).mut hD
          have s4 : ∀ (q : Addr) (zs : List V), H3 q = some (.tup zs) → upd H3 D (.lst (ys ++ [.ref c])) q = some (.tup zs) := fun q zs hq => by
            rw [upd_ne fun e => ?_]
            · exact hq
            · rw [e, s3 _ _ h2] at hq
              cases hq
          refine ⟨ys, s3 _ _ h2, hyl, sD, _, upd_same, ?_⟩
          rw [← take_snoc hns, List.map_append]
          exact par_app (par_imp (fun _ _ ⟨q, e, hq⟩ => ⟨q, e, s4 _ _ hq⟩) (yl.same s3)) (.cons ⟨c, rfl, s4 _ _ hc⟩ .nil)
        refine ⟨rfl, _, rfl, _, rfl, (by show 1 ≤ sizeLine; decide), fun b hb => ⟨a, b, ns.map V.int, [.int i], rfl, rfl, .inl (.inl (by rw [upd_ne (ne_of_none ha2 hb)]; exact ha2)), .inl (.inl upd_same), ?_, fun e => ?_, (fun _ z => by cases z), fun _ _ p hp => ?_⟩⟩
        · have := lotsN_len i ns (List.mem_of_getElem? hns)
          rw [List.length_map, List.length_singleton]
          exact Nat.le_of_lt (sm (by omega))
        · have e' : ns = [] := by cases ns with
            | nil => rfl
            | cons _ _ => cases e
          subst e'
          exact fin b _ ((Same.refl H2).new hb) upd_same
        · refine fin p _ (((Same.refl H2).new hb).new hp) ?_
          rw [upd_same, List.map_append]
          rfl
      · rintro H2 ⟨s2, ys, h2, yl⟩
        have eh : xs.length = (lotsN i).length := par_len tl
        rw [eh, List.take_length] at yl
        refine ⟨l, D, _, _, rfl, rfl, s2 _ _ h1, h2, ?_, fun p hp => ⟨p, _, _, rfl, (s1.trans s2).new hp, upd_same, ?_⟩⟩
        · rw [par_len yl, List.length_map, ← eh]
          exact Nat.le_of_lt (sm (by omega))
        · have s3 : Same H2 (upd H2 p (.lst (xs ++ ys))) := (Same.refl H2).new hp
          rw [lotsN_succ]
          exact par_app (tl.same (s2.trans s3)) (yl.same s3)
    · rintro σ H' ⟨l, t, xs, rfl, s1, h1, tl⟩
      rw [Int.toNat_natCast] at tl
      have hxl : xs.length = 2 ^ n := by rw [par_len tl, lotsN_length]
      have h256 : 2 ^ n ≤ 256 := Nat.pow_le_pow_right (by decide) (show n ≤ 8 by omega)
      -- the pairs
      refine ⟨_, rfl, l, rfl, ⟨_, SqL.of h1⟩, fun D hD => ?_⟩
      refine lc_list (K := K) (a := l) (xs := xs) (fun j H2 => Same H' H2 ∧ ∃ ys, H2 D = some (.lst ys) ∧ PL H2 ys ((lotsN n).take j)) ⟨(Same.refl H').new hD, [], upd_same, .nil⟩ (fun j H2 _ p => p.1.seq (SqL.of h1)) ?_ ?_
      · rintro j y H2 hj ⟨s2, ys, h2, yl⟩
        obtain ⟨ns, hns, a, rfl, ha⟩ := par_get tl hj
        have ha2 := s2 _ _ ha
        refine ⟨rfl, _, rfl, a, _, rfl, .inr (.inl (.inl ha2)), _, rfl, (by show 2 ≤ sizeLine; decide), fun b hb => ⟨ys, by rw [upd_ne (ne_of_none h2 hb)]; exact h2, ?_, ((s2.new hb).mut hD), _, upd_same, ?_⟩⟩
        · have := lotsN_length n
          rw [par_len yl, List.length_take]
          exact sm (by omega)
        · have hbD : b ≠ D := (ne_of_none h2 hb).symm
          have haD : a ≠ D := fun e => by
            rw [e, h2] at ha2
            cases ha2
          have s4 : ∀ (q : Addr) (zs : List V), H2 q = some (.tup zs) → upd (upd H2 b (.tup [.int (ns.map V.int).length, .ref a])) D (.lst (ys ++ [.ref b])) q = some (.tup zs) := fun q zs hq => by
            rw [upd_ne fun e => ?_, upd_ne (ne_of_none hq hb)]
            · exact hq
            · rw [e, h2] at hq
              cases hq
          rw [← take_snoc hns]
          refine par_app (par_imp (fun _ _ ⟨t, b', e, q, r⟩ => ⟨t, b', e, s4 _ _ q, s4 _ _ r⟩) yl) (.cons ⟨b, a, rfl, ?_, s4 _ _ ha2⟩ .nil)
          rw [upd_ne hbD, upd_same, List.length_map]
      · rintro H2 ⟨s2, ys, h2, yl⟩
        have eh : xs.length = (lotsN n).length := par_len tl
        rw [eh, List.take_length] at yl
        have yk : ∀ y ∈ ys, ∃ ns ∈ lotsN n, ∃ t b, y = V.ref t ∧ H2 t = some (.tup [.int (ns.length : Nat), .ref b]) ∧ H2 b = some (.tup (ns.map V.int)) := fun y hy => par_mem yl hy
        refine ⟨D, ys, keyOf H2, rfl, SqL.of h2, fun y hy => ?_, fun zs p hz1 hz2 hp => ?_⟩
        · obtain ⟨ns, _, t, b, e, q1, q2⟩ := yk y hy
          rw [keyOf_at ⟨t, b, e, q1, q2⟩]
          exact ⟨t, b, e, q1, q2⟩
        have s3 : Same H2 (upd H2 p (.lst zs)) := (Same.refl H2).new hp
        have zl : zs.length = 2 ^ n := by rw [hz2.length_eq, par_len yl, lotsN_length]
        have zk : ∀ z ∈ zs, ∃ ns ∈ lotsN n, ∃ t b, z = V.ref t ∧ H2 t = some (.tup [.int (ns.length : Nat), .ref b]) ∧ H2 b = some (.tup (ns.map V.int)) := fun z hz => yk z (hz2.mem_iff.mp hz)
        refine ⟨p, rfl, ⟨_, SqL.of upd_same⟩, fun G hG => ?_⟩
        have hG2 := s3.free hG
        refine lc_list (K := K) (a := p) (xs := zs) (fun j H3 => Same H2 H3 ∧ H3 p = some (.lst zs) ∧ H3 G = some (.lst ((zs.take j).map (lotOf H2)))) ⟨s3.new hG, by rw [upd_ne (ne_of_none upd_same hG)]; exact upd_same, upd_same⟩ (fun j H3 _ q => SqL.of q.2.1) ?_ ?_
        · rintro j z H3 hj ⟨s5, h5, h6⟩
          obtain ⟨ns, _, t, b, rfl, q1, q2⟩ := zk z (List.mem_of_getElem? hj)
          have hjl : j < zs.length := (List.getElem?_eq_some_iff.mp hj).1
          refine ⟨t, _, rfl, .inl (.inl (s5 _ _ q1)), rfl, ⟨_, _, rfl, _, _, rfl, rfl, rfl, _, rfl, _, h6, (by rw [List.length_map, List.length_take]; exact sm (by omega)), s5.mut hG2, by rw [upd_ne (ne_of_none upd_same hG)]; exact h5, ?_⟩⟩
          rw [upd_same, ← take_snoc hj, List.map_append, List.map_singleton, lotOf_at q1]
        · rintro H3 ⟨s5, h5, h6⟩
          rw [List.take_length] at h6
          have kk : ∀ z ∈ zs, ∃ ns ∈ lotsN n, keyOf H2 z = (((ns.length : Nat) : Int), ns) ∧ cont H3 (lotOf H2 z) = ns ∧ ∃ b, lotOf H2 z = .ref b ∧ H3 b = some (.tup (ns.map V.int)) := fun z hz => by
            obtain ⟨ns, m, t, b, e, q1, q2⟩ := zk z hz
            subst e
            refine ⟨ns, m, keyOf_at ⟨t, b, rfl, q1, q2⟩, ?_, b, lotOf_at q1, s5 _ _ q2⟩
            rw [lotOf_at q1, cont_at (s5 _ _ q2)]
          have srt : zs.Pairwise fun u v => HT.lexLt (((cont H3 (lotOf H2 v)).length : Int) :: cont H3 (lotOf H2 v)) (((cont H3 (lotOf H2 u)).length : Int) :: cont H3 (lotOf H2 u)) = false := by
            refine List.Pairwise.imp_of_mem (fun {a b} ha hb r => ?_) hz1
            obtain ⟨na, _, ea, ca, _⟩ := kk a ha
            obtain ⟨nb, _, eb, cb, _⟩ := kk b hb
            dsimp only at r
            rw [ea, eb] at r
            rw [ca, cb]
            exact r
          have mp : (zs.map fun z => cont H3 (lotOf H2 z)).Perm (lotsN n) := by
            have e1 : zs.map (fun z => cont H3 (lotOf H2 z)) = zs.map fun z => (keyOf H2 z).2 := List.map_congr_left fun z hz => by
              obtain ⟨nz, _, ez, cz, _⟩ := kk z hz
              rw [ez, cz]
            have e2 : ys.map (fun z => (keyOf H2 z).2) = lotsN n := par_map (fun a b r => by rw [keyOf_at r]) yl
            rw [e1, ← e2]
            exact hz2.map _
          have zm : ∀ ns ∈ lotsN n, ∃ z ∈ zs, cont H3 (lotOf H2 z) = ns := fun ns m => by
            obtain ⟨z, hz, e⟩ := List.mem_map.mp (mp.mem_iff.mpr m)
            exact ⟨z, hz, e⟩
          refine q G _ (cont H3) H3 ((s1.trans s2).trans s5) h6 (fun x hx => ?_) (by rw [List.map_map]; exact mp) (List.pairwise_map.mpr srt)
          obtain ⟨z, hz, rfl⟩ := List.mem_map.mp hx
          obtain ⟨ns, _, _, c, b, e, h⟩ := kk z hz
          refine ⟨b, e, ?_⟩
          rw [c]
          exact h
end
end K
namespace K
open PySem L2 Rg
open Evl (pss_cut)
/-! ### a lot against all other bars -/
def Lot (n : Nat) (ns : List Int) : Prop := ns.Nodup ∧ ∀ b ∈ ns, 0 ≤ b ∧ b < (n : Int)
def hasB (ns : List Int) (j : Nat) : Bool := ns.any fun y => decide (y = (j : Int))
def oth (ls ns : List Int) (i : Nat) : List Int := ((List.range i).filter fun j => !hasB ns j).map fun j => ls.getD j 0
theorem inV_int (z : Int) : ∀ ns : List Int, inV (.int z) (ns.map V.int) = ns.any fun y => decide (y = z) := by
  intro ns
  unfold inV
  rw [List.any_map]
  rfl
theorem oth_len (ls ns : List Int) (i : Nat) : (oth ls ns i).length ≤ i := by
  unfold oth
  rw [List.length_map]
  exact Nat.le_trans (List.length_filter_le ..) (by rw [List.length_range]; exact Nat.le_refl _)
theorem oth_in {ls ns : List Int} {i : Nat} {z : Int} (hz : ls[i]? = some z) (h : hasB ns i = false) : oth ls ns (i + 1) = oth ls ns i ++ [z] := by
  unfold oth
  rw [List.range_succ, List.filter_append, List.map_append]
  simp [h, List.getD_eq_getElem?_getD, hz]
theorem oth_out {ls ns : List Int} {i : Nat} (h : hasB ns i = true) : oth ls ns (i + 1) = oth ls ns i := by
  unfold oth
  rw [List.range_succ, List.filter_append, List.map_append]
  simp [h]
theorem sum_range (ls : List Int) : ∀ n, n ≤ ls.length → ((List.range n).map fun j => ls.getD j 0).sum = (ls.take n).sum
  | 0, _ => rfl
  | n + 1, h => by
    have hz : ls[n]? = some ls[n] := List.getElem?_eq_getElem h
    rw [← take_snoc hz, List.sum_append, ← sum_range ls n (by omega), List.range_succ, List.map_append, List.sum_append]
    simp [List.getD_eq_getElem?_getD, hz]
theorem sum_split (f : Nat → Int) (p : Nat → Bool) : ∀ l : List Nat, ((l.filter fun j => !p j).map f).sum + ((l.filter p).map f).sum = (l.map f).sum
  | [] => rfl
  | x :: l => by
    have ih := sum_split f p l
    cases e : p x <;> simp [e, List.sum_cons] <;> omega
theorem hasB_iff {ns : List Int} {j : Nat} : hasB ns j = true ↔ (j : Int) ∈ ns := by
  unfold hasB
  rw [List.any_eq_true]
  constructor
  · rintro ⟨y, hy, e⟩
    rw [← of_decide_eq_true e]
    exact hy
  · intro h
    exact ⟨_, h, decide_eq_true rfl⟩
theorem nodup_cast : ∀ {l : List Nat}, l.Nodup → (l.map fun j : Nat => (j : Int)).Nodup
  | [], _ => List.nodup_nil
  | x :: l, h => by
    rw [List.nodup_cons] at h
    rw [List.map_cons, List.nodup_cons]
    refine ⟨fun m => ?_, nodup_cast h.2⟩
    obtain ⟨y, hy, e⟩ := List.mem_map.mp m
    exact h.1 (by rw [show x = y by omega]; exact hy)
theorem lot_sorted {n : Nat} {ns : List Int} (h : Lot n ns) : (((List.range n).filter (hasB ns)).map fun j : Nat => (j : Int)).Perm ns := by
    refine (List.perm_ext_iff_of_nodup (nodup_cast (List.Pairwise.filter _ List.nodup_range)) h.1).mpr fun z => ?_
    constructor
    · intro m
      obtain ⟨j, hj, rfl⟩ := List.mem_map.mp m
      exact hasB_iff.mp (List.mem_filter.mp hj).2
    · intro m
      have b := h.2 z m
      refine List.mem_map.mpr ⟨z.toNat, List.mem_filter.mpr ⟨List.mem_range.mpr (by omega), hasB_iff.mpr ?_⟩, by omega⟩
      rw [show ((z.toNat : Nat) : Int) = z by omega]
      exact m
theorem oth_sum {ls ns : List Int} (h : Lot ls.length ns) : (oth ls ns ls.length).sum + lsum ls ns = ls.sum := by
  have e1 := sum_split (fun j => ls.getD j 0) (hasB ns) (List.range ls.length)
  rw [sum_range ls _ (Nat.le_refl _), List.take_length] at e1
  rw [← e1]
  congr 1
  rw [← lsum_perm (lot_sorted h)]
  unfold lsum
  rw [List.map_map]
  rfl
theorem sort_eq {ls ns : List Int} (h : Lot ls.length ns) : sortV ls ns = (if lsum ls ns = (oth ls ns ls.length).sum then ("level" : Str) else if lsum ls ns < (oth ls ns ls.length).sum then ("short" : Str) else ("long" : Str) : Str) := by
  have e := oth_sum h
  unfold sortV
  by_cases c : 2 * lsum ls ns = ls.sum
  · rw [if_pos c, if_pos (show lsum ls ns = (oth ls ns ls.length).sum by omega)]
  · rw [if_neg c, if_neg (show ¬ lsum ls ns = (oth ls ns ls.length).sum by omega)]
    by_cases d : 2 * lsum ls ns < ls.sum
    · rw [if_pos d, if_pos (show lsum ls ns < (oth ls ns ls.length).sum by omega)]
    · rw [if_neg d, if_neg (show ¬ lsum ls ns < (oth ls ns ls.length).sum by omega)]
theorem lsum_take {ls ns : List Int} {i : Nat} {z : Int} (h : ns[i]? = some z) : (ns.take (i + 1)).map (fun b => ls.getD b.toNat 0) = (ns.take i).map (fun b => ls.getD b.toNat 0) ++ [ls.getD z.toNat 0] := by
  rw [← take_snoc h, List.map_append]
  rfl
section
variable {P : Program} {w : World} {K : PySem.W.Frag} {mg : Str → Option Value} {base : Heap}
abbrev nSort : List Str := ["_law_lengths_here", "_law_lot", "_law_mine", "_law_others", "_law_bar", "_law_length"]
theorem scSort : FnScope nSort ["_law_lengths_here", "_law_lot"] (defScope sLwSort) := ⟨rfl, rfl, rfl, by decide +kernel, rfl, by decide +kernel, by decide +kernel⟩
def spSortL (K : PySem.W.Frag) : Sp := fun vs H Q _ => ∃ (l m : Addr) (ls ns : List Int), vs = [.ref l, .ref m] ∧ SqL K H l (ls.map V.int) ∧ SqL K H m (ns.map V.int) ∧ ls.length ≤ 8 ∧ ns.length ≤ 8 ∧ Lot ls.length ns ∧ ∀ H', Same H H' → Q (.str (sortV ls ns)) H'
theorem ok_sortL {f : Addr} {fd : FuncData} (F : Fun K "_law_sort" "_law_sort" sLwSort f fd) (T : Bi mg) : FnOk P w K mg base CX0 2 f fd ["_law_lengths_here", "_law_lot"] (spSortL K) := by
  refine F.ok scSort (fun vs H Q E h => ?_) (fun cdv A outer s H vs Q E hr h => ?_)
  · obtain ⟨l, m, ls, ns, rfl, _⟩ := h
    rfl
  · have nd := scSort.nd
    refine ⟨_, pss_cons (ps_set (i := 2) nd rfl (Or.inl rfl) (pe_callB (cr_sum rfl) (by rfl) T.sum (by decide +kernel) (pa_cons (pe_lc (own := [("_law_bar", 4)]) (g := gName 4) (tt := tYes) (te := tOp (rIxL K) (tVar 0) (tVar 4)) rfl nd (pi_list (pv 1))
        (blkOk_by (N := nSort) (sc := defScope sLwSort) (by decide +kernel)) (fun _ _ _ _ _ => pg_name (i := 4) nd rfl (Or.inl rfl)) (fun _ _ _ _ _ => pts_nil) (fun _ _ _ _ _ => pe_ix ix_list (pv 0) (pv 4) (fun _ _ => rfl))) pa_nil)))
      (pss_cons (ps_set (i := 3) nd rfl (Or.inl rfl) (pe_callB (cr_sum rfl) (by rfl) T.sum (by decide +kernel) (pa_cons (pe_lc (own := [("_law_bar", 4), ("_law_length", 5)]) (g := gTup K 2 (gCons (gName 4) (gCons (gName 5) gNil))) (tt := tTest (tOp (rIn K true) (tVar 4) (tVar 1))) (te := tVar 5) rfl nd (pi_enum (by rfl) T.enumerate (pa_cons (pv 0) pa_nil))
        (blkOk_by (N := nSort) (sc := defScope sLwSort) (by decide +kernel)) (fun _ _ _ _ _ => pg_tup rfl (pgs_cons (pg_name (i := 4) nd rfl (Or.inl rfl)) (pgs_cons (pg_name (i := 5) nd rfl (Or.inl rfl)) pgs_nil))) (fun _ _ _ _ _ => pts_one (pt_cmpR op_notIn_seq (pv 4) (pv 1) (by rfl))) (fun _ _ _ _ _ => pv 5)) pa_nil)))
      (pss_cons (ps_if (pt_cmpR op_eq (pv 2) (pv 3) (nomark _)) (pss_one (ps_ret pe_str)) pss_nil)
      (pss_one (ps_ret (pe_ifExp (pt_cmpR op_lt (pv 2) (pv 3) (nomark _)) pe_str pe_str))))), ?_⟩
    obtain ⟨l, m, ls, ns, rfl, hl, hm, l8, n8, lot, q⟩ := h
    refine ⟨_, rfl, m, rfl, ⟨_, hm⟩, fun D hD => ?_⟩
    refine lc_list (K := K) (a := m) (xs := ns.map V.int) (fun i H' => Same H H' ∧ H' D = some (.lst (((ns.take i).map fun b => ls.getD b.toNat 0).map V.int))) ⟨(Same.refl H).new hD, upd_same⟩ (fun i H' _ p => p.1.seq hm) ?_ ?_
    · rintro i x H' hi ⟨s2, h2⟩
      obtain ⟨z, hz, rfl⟩ := int_at hi
      have hil : i < ns.length := (List.getElem?_eq_some_iff.mp hz).1
      have az := lot.2 z (List.mem_of_getElem? hz)
      refine ⟨rfl, _, rfl, _, rfl, l, _, z, _, rfl, rfl, s2.seq hl, get_len az.1 az.2, _, h2, (by rw [List.length_map, List.length_map, List.length_take]; exact sm (by omega)), s2.mut hD, ?_⟩
      rw [upd_same, lsum_take hz, List.map_append]
      rfl
    · rintro H1 ⟨s1, h1⟩
      rw [List.length_map, List.take_length] at h1
      refine ⟨D, _, rfl, SqL.of h1, ?_⟩
      refine ⟨_, rfl, l, _, rfl, s1.seq hl, fun G hG => ?_⟩
      have hG0 := s1.free hG
      refine lc_it walk_enum (fun i H' => Same H H' ∧ H' G = some (.lst ((oth ls ns i).map V.int))) ⟨s1.new hG, upd_same⟩ (fun i H' _ p => p.1.seq hl) ?_ ?_
      · rintro i x H2 H3 hi ⟨s2, h2⟩ ⟨U, x1, x2, rfl, hU, rfl, e1, e2⟩
        obtain rfl := (Option.some.inj e1).symm
        obtain ⟨z, hz, rfl⟩ := int_at e2
        rw [List.length_map] at hi
        have hGU : G ≠ U := ne_of_none h2 hU
        have s3 : Same H (upd H2 U (.tup [.int (i : Nat), .int z])) := s2.new hU
        refine ⟨U, _, rfl, .inl (.inl upd_same), rfl, _, _, rfl, _, _, rfl, rfl, rfl, _, rfl, _, rfl, m, _, rfl, .inl (s3.seq hm), rfl, flat_ints _, _, rfl, ?_⟩
        have eb : inV (.int (i : Nat)) (ns.map V.int) = hasB ns i := inV_int _ _
        rw [eb]
        cases e : hasB ns i with
        | true => exact ite2 (fun z => by cases z) (fun _ => ⟨s3, by rw [upd_ne hGU, oth_out e]; exact h2⟩)
        | false =>
          refine ite2 (fun _ => ?_) (fun z => absurd rfl z)
          refine ⟨_, rfl, _, by rw [upd_ne hGU]; exact h2, ?_, s3.mut hG0, ?_⟩
          · have := oth_len ls ns i
            rw [List.length_map]
            exact sm (by omega)
          · rw [upd_same, oth_in hz e, List.map_append]
            rfl
      · rintro H2 ⟨s2, h2⟩
        rw [List.length_map] at h2
        refine ⟨G, _, rfl, SqL.of h2, ?_⟩
        have q1 := q H2 s2
        rw [sort_eq lot] at q1
        refine ⟨_, rfl, _, rfl, rfl, ?_⟩
        by_cases e : lsum ls ns = (oth ls ns ls.length).sum
        · rw [if_pos e] at q1
          exact ⟨_, rfl, iteDT (congrArg V.int e) q1⟩
        · rw [if_neg e] at q1
          refine ⟨_, rfl, iteDF (fun z => e (V.int.inj z)) ⟨_, rfl, _, rfl, _, _, rfl, rfl, _, rfl, ?_⟩⟩
          by_cases e2 : lsum ls ns < (oth ls ns ls.length).sum
          · rw [if_pos e2] at q1
            exact iteDT e2 q1
          · rw [if_neg e2] at q1
            exact iteDF e2 q1
def spSortT (K : PySem.W.Frag) : Sp := fun vs H Q _ => ∃ (l m : Addr) (ls ns : List Int), vs = [.ref l, .ref m] ∧ SqL K H l (ls.map V.int) ∧ SqT K H m (ns.map V.int) ∧ ls.length ≤ 8 ∧ ns.length ≤ 8 ∧ Lot ls.length ns ∧ ∀ H', Same H H' → Q (.str (sortV ls ns)) H'
theorem ok_sortT {f : Addr} {fd : FuncData} (F : Fun K "_law_sort" "_law_sort" sLwSort f fd) (T : Bi mg) : FnOk P w K mg base CX0 2 f fd ["_law_lengths_here", "_law_lot"] (spSortT K) := by
  refine F.ok scSort (fun vs H Q E h => ?_) (fun cdv A outer s H vs Q E hr h => ?_)
  · obtain ⟨l, m, ls, ns, rfl, _⟩ := h
    rfl
  · have nd := scSort.nd
    refine ⟨_, pss_cons (ps_set (i := 2) nd rfl (Or.inl rfl) (pe_callB (cr_sum rfl) (by rfl) T.sum (by decide +kernel) (pa_cons (pe_lc (own := [("_law_bar", 4)]) (g := gName 4) (tt := tYes) (te := tOp (rIxL K) (tVar 0) (tVar 4)) rfl nd (pi_tup (pv 1))
        (blkOk_by (N := nSort) (sc := defScope sLwSort) (by decide +kernel)) (fun _ _ _ _ _ => pg_name (i := 4) nd rfl (Or.inl rfl)) (fun _ _ _ _ _ => pts_nil) (fun _ _ _ _ _ => pe_ix ix_list (pv 0) (pv 4) (fun _ _ => rfl))) pa_nil)))
      (pss_cons (ps_set (i := 3) nd rfl (Or.inl rfl) (pe_callB (cr_sum rfl) (by rfl) T.sum (by decide +kernel) (pa_cons (pe_lc (own := [("_law_bar", 4), ("_law_length", 5)]) (g := gTup K 2 (gCons (gName 4) (gCons (gName 5) gNil))) (tt := tTest (tOp (rIn K true) (tVar 4) (tVar 1))) (te := tVar 5) rfl nd (pi_enum (by rfl) T.enumerate (pa_cons (pv 0) pa_nil))
        (blkOk_by (N := nSort) (sc := defScope sLwSort) (by decide +kernel)) (fun _ _ _ _ _ => pg_tup rfl (pgs_cons (pg_name (i := 4) nd rfl (Or.inl rfl)) (pgs_cons (pg_name (i := 5) nd rfl (Or.inl rfl)) pgs_nil))) (fun _ _ _ _ _ => pts_one (pt_cmpR op_notIn_seq (pv 4) (pv 1) (by rfl))) (fun _ _ _ _ _ => pv 5)) pa_nil)))
      (pss_cons (ps_if (pt_cmpR op_eq (pv 2) (pv 3) (nomark _)) (pss_one (ps_ret pe_str)) pss_nil)
      (pss_one (ps_ret (pe_ifExp (pt_cmpR op_lt (pv 2) (pv 3) (nomark _)) pe_str pe_str))))), ?_⟩
    obtain ⟨l, m, ls, ns, rfl, hl, hm, l8, n8, lot, q⟩ := h
    refine ⟨_, rfl, m, rfl, ⟨_, hm⟩, fun D hD => ?_⟩
    refine lc_tup (K := K) (a := m) (xs := ns.map V.int) (fun i H' => Same H H' ∧ H' D = some (.lst (((ns.take i).map fun b => ls.getD b.toNat 0).map V.int))) ⟨(Same.refl H).new hD, upd_same⟩ (fun i H' _ p => p.1.tup hm) ?_ ?_
    · rintro i x H' hi ⟨s2, h2⟩
      obtain ⟨z, hz, rfl⟩ := int_at hi
      have hil : i < ns.length := (List.getElem?_eq_some_iff.mp hz).1
      have az := lot.2 z (List.mem_of_getElem? hz)
      refine ⟨rfl, _, rfl, _, rfl, l, _, z, _, rfl, rfl, s2.seq hl, get_len az.1 az.2, _, h2, (by rw [List.length_map, List.length_map, List.length_take]; exact sm (by omega)), s2.mut hD, ?_⟩
      rw [upd_same, lsum_take hz, List.map_append]
      rfl
    · rintro H1 ⟨s1, h1⟩
      rw [List.length_map, List.take_length] at h1
      refine ⟨D, _, rfl, SqL.of h1, ?_⟩
      refine ⟨_, rfl, l, _, rfl, s1.seq hl, fun G hG => ?_⟩
      have hG0 := s1.free hG
      refine lc_it walk_enum (fun i H' => Same H H' ∧ H' G = some (.lst ((oth ls ns i).map V.int))) ⟨s1.new hG, upd_same⟩ (fun i H' _ p => p.1.seq hl) ?_ ?_
      · rintro i x H2 H3 hi ⟨s2, h2⟩ ⟨U, x1, x2, rfl, hU, rfl, e1, e2⟩
        obtain rfl := (Option.some.inj e1).symm
        obtain ⟨z, hz, rfl⟩ := int_at e2
        rw [List.length_map] at hi
        have hGU : G ≠ U := ne_of_none h2 hU
        have s3 : Same H (upd H2 U (.tup [.int (i : Nat), .int z])) := s2.new hU
        refine ⟨U, _, rfl, .inl (.inl upd_same), rfl, _, _, rfl, _, _, rfl, rfl, rfl, _, rfl, _, rfl, m, _, rfl, .inr (s3.tup hm), rfl, flat_ints _, _, rfl, ?_⟩
        have eb : inV (.int (i : Nat)) (ns.map V.int) = hasB ns i := inV_int _ _
        rw [eb]
        cases e : hasB ns i with
        | true => exact ite2 (fun z => by cases z) (fun _ => ⟨s3, by rw [upd_ne hGU, oth_out e]; exact h2⟩)
        | false =>
          refine ite2 (fun _ => ?_) (fun z => absurd rfl z)
          refine ⟨_, rfl, _, by rw [upd_ne hGU]; exact h2, ?_, s3.mut hG0, ?_⟩
          · have := oth_len ls ns i
            rw [List.length_map]
            exact sm (by omega)
          · rw [upd_same, oth_in hz e, List.map_append]
            rfl
      · rintro H2 ⟨s2, h2⟩
        rw [List.length_map] at h2
        refine ⟨G, _, rfl, SqL.of h2, ?_⟩
        have q1 := q H2 s2
        rw [sort_eq lot] at q1
        refine ⟨_, rfl, _, rfl, rfl, ?_⟩
        by_cases e : lsum ls ns = (oth ls ns ls.length).sum
        · rw [if_pos e] at q1
          exact ⟨_, rfl, iteDT (congrArg V.int e) q1⟩
        · rw [if_neg e] at q1
          refine ⟨_, rfl, iteDF (fun z => e (V.int.inj z)) ⟨_, rfl, _, rfl, _, _, rfl, rfl, _, rfl, ?_⟩⟩
          by_cases e2 : lsum ls ns < (oth ls ns ls.length).sum
          · rw [if_pos e2] at q1
            exact iteDT e2 q1
          · rw [if_neg e2] at q1
            exact iteDF e2 q1
def spSort (K : PySem.W.Frag) : Sp := fun vs H Q _ => ∃ (l m : Addr) (ls ns : List Int), vs = [.ref l, .ref m] ∧ SqL K H l (ls.map V.int) ∧ (SqL K H m (ns.map V.int) ∨ SqT K H m (ns.map V.int)) ∧ ls.length ≤ 8 ∧ ns.length ≤ 8 ∧ Lot ls.length ns ∧ ∀ H', Same H H' → Q (.str (sortV ls ns)) H'
theorem ok_sort {f : Addr} {fd : FuncData} (F : Fun K "_law_sort" "_law_sort" sLwSort f fd) (T : Bi mg) : FnOk P w K mg base CX0 2 f fd ["_law_lengths_here", "_law_lot"] (spSort K) := by
  refine (fn_or (ok_sortL F T) (ok_sortT F T)).imp fun vs H Q E h => ?_
  obtain ⟨l, m, ls, ns, e, hl, hm, r⟩ := h
  rcases hm with hm | hm
  · exact .inl ⟨l, m, ls, ns, e, hl, hm, r⟩
  · exact .inr ⟨l, m, ls, ns, e, hl, hm, r⟩
end
end K
namespace K
open PySem L2 Rg
open Evl (pss_cut)
/-! ### a lot that is one -/
theorem ft_none : ∀ {ns seen : List Int}, ns.Nodup → (∀ x ∈ ns, x ∉ seen) → ft seen ns = none
  | [], _, _, _ => rfl
  | x :: ns, seen, h, hs => by
    rw [List.nodup_cons] at h
    show (if x ∈ seen then some x else ft (seen ++ [x]) ns) = none
    rw [if_neg (hs x (List.mem_cons_self ..))]
    refine ft_none h.2 fun y hy m => ?_
    rcases List.mem_append.mp m with m | m
    · exact hs y (List.mem_cons_of_mem _ hy) m
    · rw [List.mem_singleton.mp m] at hy
      exact h.1 hy
theorem res_lot {n : Nat} {ns : List Int} (h : Lot n ns) : res n ns = .ok ns := by
  rw [res_all fun x hx => isBar_iff.mpr (h.2 x hx), ft_none h.1 fun x _ m => by cases m]
theorem lot_perm {n : Nat} {ms ns : List Int} (h : Lot n ns) (p : ms.Perm ns) : Lot n ms := ⟨p.nodup_iff.mpr h.1, fun b hb => h.2 b (p.mem_iff.mp hb)⟩
theorem lot_take {n d : Nat} {ns : List Int} (h : Lot n ns) : Lot n (ns.take d) := ⟨h.1.sublist (List.take_sublist ..), fun b hb => h.2 b (List.mem_of_mem_take hb)⟩
def natB (l : List Nat) : List Int := l.map fun j : Nat => (j : Int)
theorem lot_nat {n : Nat} {p : Nat → Bool} : Lot n (natB ((List.range n).filter p)) := by
  refine ⟨nodup_cast (List.Pairwise.filter _ List.nodup_range), fun b hb => ?_⟩
  obtain ⟨j, hj, rfl⟩ := List.mem_map.mp hb
  have := List.mem_range.mp (List.mem_filter.mp hj).1
  omega
theorem lot_all {n : Nat} : Lot n (natB (List.range n)) := by
  refine ⟨nodup_cast List.nodup_range, fun b hb => ?_⟩
  obtain ⟨j, hj, rfl⟩ := List.mem_map.mp hb
  have := List.mem_range.mp hj
  omega
theorem lot_len {n : Nat} {ns : List Int} (h : Lot n ns) : ns.length ≤ n := by
  have e := lot_sorted h
  rw [e.length_eq.symm, List.length_map]
  exact Nat.le_trans (List.length_filter_le ..) (by rw [List.length_range]; exact Nat.le_refl _)
def restN (n : Nat) (ns : List Int) (i : Nat) : List Int := natB ((List.range i).filter fun j => !hasB ns j)
theorem rest_in {n : Nat} {ns : List Int} {i : Nat} (h : hasB ns i = false) : restN n ns (i + 1) = restN n ns i ++ [(i : Int)] := by
  unfold restN natB
  rw [List.range_succ, List.filter_append, List.map_append]
  simp [h]
theorem rest_out {n : Nat} {ns : List Int} {i : Nat} (h : hasB ns i = true) : restN n ns (i + 1) = restN n ns i := by
  unfold restN natB
  rw [List.range_succ, List.filter_append, List.map_append]
  simp [h]
theorem rest_len {n : Nat} {ns : List Int} {i : Nat} : (restN n ns i).length ≤ i := by
  unfold restN natB
  rw [List.length_map]
  exact Nat.le_trans (List.length_filter_le ..) (by rw [List.length_range]; exact Nat.le_refl _)
theorem rest_lot {n : Nat} {ns : List Int} : Lot n (restN n ns n) := lot_nat
theorem rest_sum {ls ns : List Int} (h : Lot ls.length ns) : lsum ls (restN ls.length ns ls.length) + lsum ls ns = ls.sum := by
  have e : lsum ls (restN ls.length ns ls.length) = (oth ls ns ls.length).sum := by
    unfold lsum restN natB oth
    rw [List.map_map]
    rfl
  rw [e]
  exact oth_sum h
theorem nat_lots (p : Nat → Bool) : ∀ n, natB ((List.range n).filter p) ∈ lotsN n
  | 0 => List.mem_singleton.mpr rfl
  | n + 1 => by
    have ih := nat_lots p n
    rw [List.range_succ, List.filter_append, lotsN_succ]
    unfold natB at ih ⊢
    rw [List.map_append]
    cases e : p n with
    | true => exact List.mem_append_right _ (List.mem_map.mpr ⟨_, ih, by simp [e]⟩)
    | false => exact List.mem_append_left _ (by simpa [e] using ih)
theorem level_of {ls ns : List Int} (h : Lot ls.length ns) (e : 2 * lsum ls ns = ls.sum) : levelB ls = true := by
  rw [level_lots, List.any_eq_true]
  exact ⟨_, nat_lots (hasB ns) ls.length, decide_eq_true (by rw [lsum_perm (show (natB _).Perm ns from lot_sorted h)]; exact e)⟩
/-- the sort of the other bars -/
def opp (z : Str) : Str := if z = "short" then "long" else if z = "long" then "short" else "level"
theorem ne_sl : ¬ (("short" : Str) = "long") := by decide +kernel
theorem ne_sv : ¬ (("short" : Str) = "level") := by decide +kernel
theorem ne_lv : ¬ (("long" : Str) = "level") := by decide +kernel
theorem sort_cases (ls ns : List Int) : (2 * lsum ls ns = ls.sum ∧ sortV ls ns = "level") ∨ (2 * lsum ls ns < ls.sum ∧ sortV ls ns = "short") ∨ (ls.sum < 2 * lsum ls ns ∧ sortV ls ns = "long") := by
  unfold sortV
  by_cases c : 2 * lsum ls ns = ls.sum
  · exact .inl ⟨c, if_pos c⟩
  · by_cases d : 2 * lsum ls ns < ls.sum
    · exact .inr (.inl ⟨d, by rw [if_neg c, if_pos d]⟩)
    · exact .inr (.inr ⟨by omega, by rw [if_neg c, if_neg d]⟩)
theorem sort_rest {ls ns ms : List Int} (h : lsum ls ms + lsum ls ns = ls.sum) : sortV ls ms = opp (sortV ls ns) := by
  unfold opp
  rcases sort_cases ls ns with ⟨a, e⟩ | ⟨a, e⟩ | ⟨a, e⟩ <;> rcases sort_cases ls ms with ⟨b, f⟩ | ⟨b, f⟩ | ⟨b, f⟩ <;> rw [e, f] <;> first | (exfalso; omega) | skip
  · rw [if_neg fun z => ne_sv z.symm, if_neg fun z => ne_lv z.symm]
  · rw [if_pos rfl]
  · rw [if_neg fun z => ne_sl z.symm, if_pos rfl]
theorem perm_ints {ys : List V} {l : List Int} (h : ys.Perm (l.map V.int)) : ∃ ms : List Int, ys = ms.map V.int ∧ ms.Perm l := by
  refine ⟨ys.map vint, ?_, ?_⟩
  · rw [List.map_map]
    refine (List.map_id ys).symm.trans (List.map_congr_left fun y hy => ?_)
    obtain ⟨i, _, rfl⟩ := List.mem_map.mp (h.mem_iff.mp hy)
    rfl
  · have := h.map vint
    rw [vints] at this
    exact this
theorem rg_nat (n : Nat) : rgV 0 (n : Int) = (natB (List.range n)).map V.int := by
  unfold rgV natB
  rw [List.map_map, show (((n : Nat) : Int) - 0).toNat = n by omega]
  refine List.map_congr_left fun j _ => ?_
  show V.int (0 + (j : Int)) = V.int (j : Int)
  rw [Int.zero_add]
section
variable {P : Program} {w : World} {K : PySem.W.Frag} {mg : Str → Option Value} {base : Heap}
theorem LotV.lst {H : Hp} {E : XK} {c : Cs} {n : Nat} {part : Str} {a : Addr} {ns : List Int} {k : List Int → Prop} (h : H a = some (.lst (ns.map V.int))) (l : Lot n ns) (hn : ns.length ≤ 8) (q : k ns) : LotV K H E c n part (.ref a) k := by
  refine .inr (.inl ⟨a, ns.map V.int, fun _ => "int", rfl, ⟨.base (.lst h), by decide⟩, SqL.of h, by rw [List.length_map]; omega, fun x hx => ?_, .inr ⟨ns, rfl, List.all_eq_true.mpr fun _ _ => rfl, ?_⟩⟩)
  · obtain ⟨i, _, rfl⟩ := List.mem_map.mp hx
    exact Knd.int
  · rw [res_lot l]
    exact q
theorem LotV.tpl {H : Hp} {E : XK} {c : Cs} {n : Nat} {part : Str} {a : Addr} {ns : List Int} {k : List Int → Prop} (h : H a = some (.tup (ns.map V.int))) (l : Lot n ns) (hn : ns.length ≤ 8) (q : k ns) : LotV K H E c n part (.ref a) k := by
  refine .inr (.inr ⟨a, ns, rfl, ⟨.base (.tup h), by decide⟩, .inl (.inl h), by omega, ?_⟩)
  rw [res_lot l]
  exact q
theorem RingAt.but {C p : Addr} {e : Addr × List Int} {n : Nat} {H H' : Hp} {r : Addr} {ls : List Int} (h : RingAt K C H r ls) (b : But p H H') (pen : PenAt K H p e n) : RingAt K C H' r ls := by
  obtain ⟨dx, t, h1, h2, o, h3, h4⟩ := h
  obtain ⟨_, _, hp, _⟩ := pen.ex
  have nr : r ≠ p := fun z => by rw [z, hp] at h1; cases h1
  have nt : t ≠ p := fun z => by rw [z, hp] at h3; cases h3
  exact ⟨dx, t, b _ _ nr h1, .inl (.inr ⟨o, b _ _ nt h3⟩), o, b _ _ nt h3, h4⟩
end
/-! ### a whole ring -/
def isLong (ls : List Int) (j : Nat) : Bool := decide (ls.sum < 2 * ls.getD j 0)
def alone (ls : List Int) (i : Nat) : List Int := natB ((List.range i).filter (isLong ls))
theorem alone_in {ls : List Int} {i : Nat} (h : isLong ls i = true) : alone ls (i + 1) = alone ls i ++ [(i : Int)] := by
  unfold alone natB
  rw [List.range_succ, List.filter_append, List.map_append]
  simp [h]
theorem alone_out {ls : List Int} {i : Nat} (h : isLong ls i = false) : alone ls (i + 1) = alone ls i := by
  unfold alone natB
  rw [List.range_succ, List.filter_append, List.map_append]
  simp [h]
theorem alone_len {ls : List Int} {i : Nat} : (alone ls i).length ≤ i := by
  unfold alone natB
  rw [List.length_map]
  exact Nat.le_trans (List.length_filter_le ..) (by rw [List.length_range]; exact Nat.le_refl _)
theorem sort_one {ls : List Int} {i : Nat} : decide (V.str (sortV ls [(i : Int)]) = V.str "long") = isLong ls i := by
  have e : lsum ls [(i : Int)] = ls.getD i 0 := by
    unfold lsum
    rw [List.map_singleton, List.sum_singleton, Int.toNat_natCast]
  unfold isLong
  rcases sort_cases ls [(i : Int)] with ⟨a, h⟩ | ⟨a, h⟩ | ⟨a, h⟩ <;> rw [h] <;> rw [e] at a
  · rw [decide_eq_false fun z => ne_lv (V.str.inj z).symm, decide_eq_false (by omega)]
  · rw [decide_eq_false fun z => ne_sl (V.str.inj z), decide_eq_false (by omega)]
  · rw [decide_eq_true rfl, decide_eq_true (by omega)]
theorem sum_pos : ∀ {l : List Int}, (∀ z ∈ l, 0 ≤ z) → 0 ≤ l.sum
  | [], _ => by simp
  | a :: l, q => by
    rw [List.sum_cons]
    have := sum_pos (l := l) fun z hz => q z (List.mem_cons_of_mem _ hz)
    have := q a (List.mem_cons_self ..)
    omega
theorem get_sum : ∀ {l : List Int} {k : Nat}, (∀ z ∈ l, 0 ≤ z) → k < l.length → l.getD k 0 ≤ l.sum
  | a :: l, 0, q, _ => by
    have := sum_pos (l := l) fun z hz => q z (List.mem_cons_of_mem _ hz)
    rw [List.sum_cons, List.getD_cons_zero]
    omega
  | a :: l, k + 1, q, h => by
    have := get_sum (l := l) (k := k) (fun z hz => q z (List.mem_cons_of_mem _ hz)) (by simpa using h)
    have := q a (List.mem_cons_self ..)
    rw [List.sum_cons, List.getD_cons_succ]
    omega
theorem sum_two : ∀ {l : List Int} {i j : Nat}, (∀ z ∈ l, 0 ≤ z) → i < j → j < l.length → l.getD i 0 + l.getD j 0 ≤ l.sum
  | a :: l, 0, j + 1, q, _, h => by
    have := get_sum (l := l) (k := j) (fun z hz => q z (List.mem_cons_of_mem _ hz)) (by simpa using h)
    rw [List.sum_cons, List.getD_cons_zero, List.getD_cons_succ]
    omega
  | a :: l, i + 1, j + 1, q, hij, h => by
    have := sum_two (l := l) (i := i) (j := j) (fun z hz => q z (List.mem_cons_of_mem _ hz)) (by omega) (by simpa using h)
    have := q a (List.mem_cons_self ..)
    rw [List.sum_cons, List.getD_cons_succ, List.getD_cons_succ]
    omega
theorem long_uniq {ls : List Int} (h0 : ∀ x ∈ ls, 0 ≤ x) {i j : Nat} (hi : i < ls.length) (hj : j < ls.length) (a : isLong ls i = true) (b : isLong ls j = true) : i = j := by
  have a' := of_decide_eq_true a
  have b' := of_decide_eq_true b
  rcases Nat.lt_trichotomy i j with h | h | h
  · have := sum_two h0 h hj
    omega
  · exact h
  · have := sum_two h0 h hi
    omega
theorem filter_uniq {p : Nat → Bool} {j : Nat} : ∀ n, j < n → p j = true → (∀ i, i < n → p i = true → i = j) → (List.range n).filter p = [j]
  | 0, h, _, _ => by omega
  | n + 1, h, hp, u => by
    rw [List.range_succ, List.filter_append]
    by_cases e : n = j
    · have h1 : (List.range n).filter p = [] := List.filter_eq_nil_iff.mpr fun i hi q => by
        have := u i (by have := List.mem_range.mp hi; omega) q
        have := List.mem_range.mp hi
        omega
      rw [h1, e]
      simp [hp]
    · have h1 := filter_uniq n (by omega) hp fun i hi q => u i (by omega) q
      have h2 : p n = false := by
        cases q : p n with
        | false => rfl
        | true => exact absurd (u n (by omega) q) e
      rw [h1]
      simp [h2]
/-- what is due of closes, of too_long and of the bars that are long alone -/
theorem alone_two {ls : List Int} (h0 : ∀ x ∈ ls, 0 ≤ x) : (closesB ls = true ∧ alone ls ls.length = []) ∨ (closesB ls = false ∧ ∃ j : Nat, j < ls.length ∧ isLong ls j = true ∧ alone ls ls.length = [(j : Int)]) := by
  cases e : closesB ls with
  | true =>
    refine .inl ⟨rfl, ?_⟩
    unfold alone
    rw [show (List.range ls.length).filter (isLong ls) = [] from List.filter_eq_nil_iff.mpr fun i hi q => ?_]
    · rfl
    · have hi' := List.mem_range.mp hi
      have c := List.all_eq_true.mp e ls[i] (List.getElem_mem hi')
      have q' := of_decide_eq_true q
      rw [List.getD_eq_getElem?_getD, List.getElem?_eq_getElem hi'] at q'
      have c' := of_decide_eq_true c
      simp only [Option.getD_some] at q'
      omega
  | false =>
    unfold closesB at e
    rw [List.all_eq_false] at e
    obtain ⟨x, hx, nx⟩ := e
    obtain ⟨j, hjl, rfl⟩ := List.mem_iff_getElem.mp hx
    have hxs : ¬ 2 * ls[j] ≤ ls.sum := fun z => nx (decide_eq_true z)
    have lj : isLong ls j = true := by
      refine decide_eq_true ?_
      rw [List.getD_eq_getElem?_getD, List.getElem?_eq_getElem hjl]
      simp only [Option.getD_some]
      omega
    refine .inr ⟨rfl, j, hjl, lj, ?_⟩
    unfold alone
    rw [filter_uniq ls.length hjl lj fun i hi q => long_uniq h0 hi hjl q lj]
    rfl
theorem alone_c {ls : List Int} (h0 : ∀ x ∈ ls, 0 ≤ x) : closesB ls = (alone ls ls.length).isEmpty ∧ (alone ls ls.length).length ≤ 1 := by
  rcases alone_two h0 with ⟨e, a⟩ | ⟨e, j, _, _, a⟩
  · rw [e, a]
    exact ⟨rfl, by decide⟩
  · rw [e, a]
    exact ⟨rfl, Nat.le_refl _⟩
theorem lotsN_lot {n : Nat} {l : List Int} (h : l ∈ lotsN n) : Lot n l := ⟨lotsN_nodup n l h, lotsN_in n l h⟩
theorem level_any {ls : List Int} {xs : List V} {kf : V → List Int} (p : (xs.map kf).Perm (lotsN ls.length)) : inV (.str "level") (xs.map fun x => V.str (sortV ls (kf x))) = levelB ls := by
  rw [level_lots]
  have e1 : (lotsN ls.length).any (fun l => decide (2 * lsum ls l = ls.sum)) = (xs.map kf).any fun l => decide (2 * lsum ls l = ls.sum) := by
    rw [Bool.eq_iff_iff, List.any_eq_true, List.any_eq_true]
    exact ⟨fun ⟨x, hx, q⟩ => ⟨x, p.mem_iff.mpr hx, q⟩, fun ⟨x, hx, q⟩ => ⟨x, p.mem_iff.mp hx, q⟩⟩
  rw [e1, List.any_map]
  unfold inV
  rw [List.any_map]
  congr 1
  funext x
  show decide (sortV ls (kf x) = "level") = decide (2 * lsum ls (kf x) = ls.sum)
  rcases sort_cases ls (kf x) with ⟨a, e⟩ | ⟨a, e⟩ | ⟨a, e⟩ <;> rw [e]
  · rw [decide_eq_true rfl, decide_eq_true a]
  · rw [decide_eq_false ne_sv, decide_eq_false (by omega)]
  · rw [decide_eq_false ne_lv, decide_eq_false (by omega)]
theorem even_of {ls : List Int} (h : levelB ls = true) : ls.sum % 2 = 0 := by
  rw [level_lots, List.any_eq_true] at h
  obtain ⟨l, _, q⟩ := h
  have := of_decide_eq_true q
  omega
theorem ne_bb {a b : Bool} (h : a = b) : (!decide (V.bl a = V.bl b)) = false := by rw [h, decide_eq_true rfl]; rfl
theorem ne_vv (v : V) : (!decide (v = v)) = false := by rw [decide_eq_true rfl]; rfl
theorem at_back {α : Type} {xs : List α} {v : α} (hl : 0 < xs.length) (h : xs[xs.length - 1]? = some v) : atI xs (-1) = some v := by
  unfold atI ixN
  rw [if_neg (by decide), if_pos (by omega), show ((-1 : Int) + (xs.length : Int)).toNat = xs.length - 1 by omega]
  exact h
theorem shaped_nil : SeqAt.shaped (.list []) = true := shaped_ints []
end K
namespace K
open PySem L2 Rg
open Evl (pss_cut)
theorem Bd.app {m : Int} {a b : List Int} (h : Bd m a) (k : Bd m b) : Bd m (a ++ b) := fun x hx => (List.mem_append.mp hx).elim (h x) (k x)
theorem Bd.take {m : Int} {a : List Int} (i : Nat) (h : Bd m a) : Bd m (a.take i) := fun x hx => h x (List.mem_of_mem_take hx)
theorem Bd.drop {m : Int} {a : List Int} (i : Nat) (h : Bd m a) : Bd m (a.drop i) := fun x hx => h x (List.mem_of_mem_drop hx)
theorem Bd.one {m x : Int} (h1 : 1 ≤ x) (h2 : x ≤ m) : Bd m [x] := fun y hy => by rw [List.mem_singleton.mp hy]; exact ⟨h1, h2⟩
theorem getD_mem {ls : List Int} {i : Nat} (h : i < ls.length) : ls.getD i 0 ∈ ls := by
  rw [List.getD_eq_getElem?_getD, List.getElem?_eq_getElem h]
  exact List.getElem_mem h
theorem Bd.get {m : Int} {ls : List Int} (h : Bd m ls) {i : Nat} (hi : i < ls.length) : 1 ≤ ls.getD i 0 ∧ ls.getD i 0 ≤ m := h _ (getD_mem hi)
theorem cut_from (xs : List V) {z : Int} {k : Nat} (hz : z = (k : Int)) : cutV xs (some z) none = xs.drop k := by
  subst hz
  unfold cutV
  rw [HT.sIx_nat, HT.sIx_none]
  by_cases h : k ≤ xs.length
  · rw [Nat.min_eq_left h, List.take_of_length_le (by rw [List.length_drop]; omega)]
  · rw [Nat.min_eq_right (by omega), List.drop_eq_nil_of_le (Nat.le_refl _), List.drop_eq_nil_of_le (show xs.length ≤ k by omega), List.take_nil]
theorem getL {ls : List Int} {z : Int} {i : Nat} (hz : z = (i : Int)) (h1 : i < ls.length) : atI (ls.map V.int) z = some (V.int (ls.getD i 0)) := by
  subst hz
  have h : (ls.map V.int)[i]? = some (V.int (ls.getD i 0)) := by rw [int_get h1, List.getD_eq_getElem?_getD, List.getElem?_eq_getElem h1]; rfl
  exact atI_nat h
theorem natB_len (n : Nat) : (natB (List.range n)).length = n := by unfold natB; rw [List.length_map, List.length_range]
theorem natB_sorted (n : Nat) : (natB (List.range n)).Pairwise (· ≤ ·) := by
  unfold natB
  rw [List.pairwise_map]
  exact List.pairwise_lt_range.imp fun h => by omega
theorem sorted_eq {a b : List Int} (p : a.Perm b) (ha : a.Pairwise (· ≤ ·)) (hb : b.Pairwise (· ≤ ·)) : a = b := List.Perm.eq_of_pairwise (fun x y _ _ h1 h2 => Int.le_antisymm h1 h2) ha hb p
theorem natB_mem {n : Nat} {x : Int} (h : x ∈ natB (List.range n)) : 0 ≤ x ∧ x < n := by
  obtain ⟨j, hj, rfl⟩ := List.mem_map.mp h
  have := List.mem_range.mp hj
  omega
def ordL (ls ns : List Int) : List Int := ns.map fun b => ls.getD b.toNat 0
theorem ordL_take {ls ns : List Int} {i : Nat} {z : Int} (h : ns[i]? = some z) : ordL ls (ns.take (i + 1)) = ordL ls (ns.take i) ++ [ls.getD z.toNat 0] := by
  unfold ordL
  rw [← take_snoc h, List.map_append]
  rfl
theorem ordL_len (ls ns : List Int) : (ordL ls ns).length = ns.length := List.length_map ..
theorem ordL_bd {ls ns : List Int} {m : Int} (b : Bd m ls) (p : ns.Perm (natB (List.range ls.length))) : Bd m (ordL ls ns) := fun x hx => by
  obtain ⟨z, hz, rfl⟩ := List.mem_map.mp hx
  have := natB_mem (p.mem_iff.mp hz)
  exact b.get (by omega)
theorem get_z {ls : List Int} {z : Int} (h0 : 0 ≤ z) (h1 : z < ls.length) : atI (ls.map V.int) z = some (V.int (ls.getD z.toNat 0)) := getL (i := z.toNat) (by omega) (by omega)
theorem eqvA_pd (a b : List Int) : PyData.eqv (.list (a.map PyData.int)) (.list (b.map PyData.int)) = decide (a = b) := by
  simp [PyData.eqv, Rg.eqvA_ints8]
section
variable {P : Program} {w : World} {K : PySem.W.Frag} {mg : Str → Option Value} {base : Heap}
theorem SqT.own {C dx r t : Addr} {fs : List (Str × V)} {H : Hp} {xs : List V} {u : HO} (h : SqT K H t xs) (hr : H r = some (.ins C dx fs)) : SqT K (upd H r u) t xs := by
  rcases h with (h | ⟨o, h⟩) | h
  · exact .inl (.inl (by rw [upd_ne fun z => by rw [z, hr] at h; cases h]; exact h))
  · exact .inl (.inr ⟨o, by rw [upd_ne fun z => by rw [z, hr] at h; cases h]; exact h⟩)
  · exact .inr h
theorem RingW.same {C : Addr} {H H' : Hp} {r : Addr} {ls : List Int} (h : RingW K C H r ls) (s : Same H H') : RingW K C H' r ls := by
  obtain ⟨dx, t, h1, h2⟩ := h
  exact ⟨dx, t, s _ _ h1, s.tup h2⟩
/-! ### a Ring of a tuple -/
def spAreT (K : PySem.W.Frag) : Sp := fun vs H Q _ => ∃ (a : Addr) (ls : List Int), vs = [.ref a] ∧ Knd K H (.ref a) "tuple" ∧ SqT K H a (ls.map V.int) ∧ ls.length ≤ 1000 ∧ Bd 1000000 ls ∧ ∀ H', Same H H' → Q (.bl true) H'
theorem ok_areT {f fW fL : Addr} {fd fdW fdL : FuncData} (F : Fun K "are_lengths" "are_lengths" sAreLengths f fd) (T : Bi mg) (N : Nm mg) (W : DefAt P w K mg base CX0 2 "is_within" ["value", "least", "most"] spWithin fW fdW) (L : DefAt P w K mg base CX0 1 "is_list" ["value"] (spIsList K) fL fdL) : FnOk P w K mg base CX0 3 f fd ["value"] (spAreT K) := by
  refine F.ok scAreL (fun vs H Q E h => ?_) (fun cdv A outer s H vs Q E hr h => ?_)
  · obtain ⟨a, ls, rfl, _⟩ := h
    rfl
  · obtain ⟨tM, hM⟩ := N.mostL
    refine ⟨_, pss_one (ps_ret (pe_and (pe_call L.ok (hr.mono (by decide)) rfl L.g L.kp L.b .nil pass0 (pa_cons (pv 0) pa_nil)) (pe_one (pe_callB (cr_all rfl) (by rfl) T.all (by decide +kernel) (pa_cons (pe_lc (own := [("one", 1)]) (g := gName 1) (tt := tYes) rfl scAreL.nd (pi_tup (pv 0))
      (blkOk_by (N := nAreL) (sc := defScope sAreLengths) (by decide +kernel)) (fun _ _ _ _ _ => pg_name (i := 1) scAreL.nd rfl (Or.inl rfl)) (fun _ _ _ _ _ => pts_nil) (fun _ _ _ _ _ => pe_call W.ok hr rfl W.g W.kp W.b .nil pass0 (pa_cons (pv 1) (pa_cons pe_int (pa_cons (pe_glob (v := .int 1000000) rfl hM ⟨_, rfl⟩) pa_nil))))) pa_nil))))), ?_⟩
    obtain ⟨a, ls, rfl, hk, hs, hl, hb, q⟩ := h
    refine ⟨_, rfl, _, "tuple", rfl, hk, fun H1 s1 => ⟨_, rfl, iteDT (.inr rfl) ?_⟩⟩
    refine ⟨_, rfl, a, rfl, ⟨_, s1.tup hs⟩, fun D hD => ?_⟩
    have hD0 := s1.free hD
    refine lc_tup (K := K) (a := a) (xs := ls.map V.int) (fun i H' => Same H H' ∧ ∃ bs : List Bool, (∀ b ∈ bs, b = true) ∧ bs.length ≤ i ∧ H' D = some (.lst (bs.map V.bl))) ⟨s1.new hD, [], (fun b hb => nomatch hb), Nat.le_refl _, upd_same⟩ (fun i H' _ p => p.1.tup hs) ?_ ?_
    · rintro i x H' hi ⟨s2, bs, h1, h2, h3⟩
      obtain ⟨z, hz, rfl⟩ := int_at hi
      have hil : i < ls.length := (List.getElem?_eq_some_iff.mp hz).1
      have hzb := hb z (List.mem_of_getElem? hz)
      refine ⟨rfl, _, rfl, z, 1, 1000000, rfl, _, h3, (by rw [List.length_map]; exact sm (by omega)), s2.mut hD0, bs ++ [true], fun b hb => ?_, by rw [List.length_append, List.length_singleton]; omega, ?_⟩
      · rcases List.mem_append.mp hb with m | m
        · exact h1 b m
        · exact List.mem_singleton.mp m
      · rw [upd_same, List.map_append, decide_eq_true hzb.1, decide_eq_true hzb.2]
        rfl
    · rintro H' ⟨s2, bs, h1, h2, h3⟩
      refine ⟨D, bs, rfl, SqL.of h3, ?_⟩
      rw [all_true h1]
      exact q H' s2
def spRIT (K : PySem.W.Frag) (C : Addr) : Sp := fun vs H Q _ => ∃ (r l dx : Addr) (ls : List Int), vs = [.ref r, .ref l] ∧ H r = some (.ins C dx []) ∧ Knd K H (.ref l) "tuple" ∧ SqT K H l (ls.map V.int) ∧ 3 ≤ ls.length ∧ ls.length ≤ 8 ∧ Bd 1000000 ls ∧
  ∀ H', RingW K C H' r ls → (∀ b o, H b = some o → b ≠ r → H' b = some o) → Q .non H'
theorem ok_riT {C f fA fH : Addr} {fd fdA fdH : FuncData} (F : Fun K "__init__" "Ring.__init__" sRingInit f fd) (T : Bi mg) (N : Nm mg) (R : RingC K mg C) (A' : DefAt P w K mg base CX0 3 "are_lengths" ["value"] (spAreT K) fA fdA) (L : DefAt P w K mg base CX0 2 "has_level" ["lengths"] (spHasL K) fH fdH) : FnOk P w K mg base CX0 4 f fd ["self", "lengths"] (spRIT K C) := by
  refine F.ok scRI (fun vs H Q E h => ?_) (fun cdv A outer s H vs Q E hr h => ?_)
  · obtain ⟨r, l, dx, ls, rfl, _⟩ := h
    rfl
  · obtain ⟨t3, h3⟩ := N.leastB
    obtain ⟨t8, h8⟩ := N.mostB
    refine ⟨_, pss_cons (ps_if (pt_not (pt_val (pe_call A'.ok hr rfl A'.g A'.kp A'.b .nil pass0 (pa_cons (pv 1) pa_nil)))) (pss_one ps_never) pss_nil)
      (pss_cons (ps_if (pt_cmpR op_lt (pe_callB call_len_seq (by rfl) T.len PySem.boot_len (pa_cons (pv 1) pa_nil)) (pe_glob (v := .int 3) rfl h3 ⟨_, rfl⟩) (nomark _)) (pss_one ps_never) pss_nil)
      (pss_cons (ps_if (pt_cmpR op_gt (pe_callB call_len_seq (by rfl) T.len PySem.boot_len (pa_cons (pv 1) pa_nil)) (pe_glob (v := .int 8) rfl h8 ⟨_, rfl⟩) (nomark _)) (pss_one ps_never) pss_nil)
      (pss_cons (ps_fld (pv 0) (pe_callTy call_tuple_of (by rfl) T.tuple (by decide +kernel) (pa_cons (pv 1) pa_nil)) rfl)
      (pss_cons (ps_fld (pv 0) (pe_callB (cr_sumT rfl) (by rfl) T.sum (by decide +kernel) (pa_cons (pe_fld (pv 0) rfl) pa_nil)) rfl)
      (pss_cons (ps_fld (pv 0) (pe_cmpR op_le (pe_op op_mul pe_int (pe_callB (cr_maxT rfl) (by rfl) T.max (by decide +kernel) (pa_cons (pe_fld (pv 0) rfl) pa_nil))) (pe_fld (pv 0) rfl) (nomark _)) rfl)
      (pss_one (ps_fld (pv 0) (pe_not (pe_call L.ok (hr.mono (by decide)) rfl L.g L.kp L.b .nil pass0 (pa_cons (pe_fld (pv 0) rfl) pa_nil))) rfl))))))), ?_⟩
    obtain ⟨r, l, dx, ls, rfl, hr0, hk, hs, l3, l8, hb, q⟩ := h
    refine ⟨_, rfl, l, ls, rfl, hk, hs, by omega, hb, fun H1 s1 => ⟨_, rfl, iteF ?_⟩⟩
    have hs1 := s1.tup hs
    refine ⟨_, rfl, l, _, rfl, .inr hs1, _, _, rfl, rfl, _, rfl, iteDF (by rw [List.length_map]; omega) ?_⟩
    refine ⟨_, rfl, l, _, rfl, .inr hs1, _, _, rfl, rfl, _, rfl, iteDF (by rw [List.length_map]; omega) ?_⟩
    have hr1' := s1 _ _ hr0
    have kp1 : ∀ b o, H b = some o → b ≠ r → H1 b = some o := fun b o e _ => s1 b o e
    refine ⟨_, rfl, l, _, rfl, .inr ⟨hs1, ?_⟩⟩
    obtain ⟨t, et⟩ : ∃ t, t = l := ⟨_, rfl⟩
    subst et
    have hrn := hr1'
    have hsn := hs1
    have kpn := kp1
    generalize H1 = Hn at hrn hsn kpn ⊢
    have sq : ∀ u, SqT K (upd Hn r u) t (ls.map V.int) := fun u => SqT.own hsn hrn
    refine ⟨_, rfl, r, C, dx, [], rfl, hrn, R.cl, R.nL, (by show 0 < 1000; decide), ?_⟩
    refine ⟨_, rfl, r, C, dx, _, _, rfl, upd_same, R.cl, R.nL, (by rw [lookup_putF, if_pos rfl]), t, ls, rfl, sq _, _, rfl, r, C, dx, _, rfl, upd_same, R.cl, R.nT, (by show 1 < 1000; decide), ?_⟩
    rw [upd_upd]
    refine ⟨_, rfl, r, C, dx, _, _, rfl, upd_same, R.cl, R.nL, (by rw [lookup_putF, if_neg n1, lookup_putF, if_pos rfl]), t, ls, rfl, sq _, by omega, fun m hm hx => ?_⟩
    refine ⟨_, _, rfl, rfl, .inl ⟨by decide, by decide⟩, _, rfl, r, C, dx, _, _, rfl, upd_same, R.cl, R.nT, (by rw [lookup_putF, if_pos rfl]), _, _, rfl, rfl, _, rfl, r, C, dx, _, rfl, upd_same, R.cl, R.nC, ?_, ?_⟩
    · have e1 := length_putF "total" (V.int ls.sum) (putF "lengths" (V.ref t) [])
      have e2 := length_putF "lengths" (V.ref t) []
      simp only [List.length_nil] at e2
      omega
    dsimp only
    rw [upd_upd, closes_max hm hx]
    refine ⟨_, rfl, r, C, dx, _, _, rfl, upd_same, R.cl, R.nL, (by rw [lookup_putF, if_neg n2, lookup_putF, if_neg n1, lookup_putF, if_pos rfl]), t, ls, rfl, sq _, l8, fun H5 s5 => ⟨_, rfl, _, rfl, r, C, dx, _, rfl, s5 _ _ upd_same, R.cl, R.nI, ?_, ?_⟩⟩
    · have e1 := length_putF "total" (V.int ls.sum) (putF "lengths" (V.ref t) [])
      have e2 := length_putF "lengths" (V.ref t) []
      have e3 := length_putF "closes" (V.bl (closesB ls)) (putF "total" (V.int ls.sum) (putF "lengths" (V.ref t) []))
      simp only [List.length_nil] at e2
      omega
    · refine q _ ⟨dx, t, upd_same, SqT.own (s5.tup (sq _)) (s5 _ _ upd_same)⟩ fun b o e hbr => ?_
      rw [upd_ne hbr]
      refine s5 _ _ ?_
      rw [upd_ne hbr]
      exact kpn b o e hbr
def spRV (K : PySem.W.Frag) (C : Addr) : Sp := fun vs H Q E => spRI K C vs H Q E ∨ spRIT K C vs H Q E
/-- a new ring is told, all that was tracked stands -/
def NewA (K : PySem.W.Frag) (C : Addr) (ls : List Int) (H : Hp) (Q : VK) : Prop := ∀ r H', RingAt K C H' r ls → Same H H' → H r = none → Q (.ref r) H'
def NewW (K : PySem.W.Frag) (C : Addr) (ls : List Int) (H : Hp) (Q : VK) : Prop := ∀ r H', RingW K C H' r ls → Same H H' → H r = none → Q (.ref r) H'
theorem NewA.later {C : Addr} {ls : List Int} {H H1 : Hp} {Q : VK} (h : NewA K C ls H Q) (s : Same H H1) : NewA K C ls H1 Q := fun r H' a b c => h r H' a (s.trans b) (s.free c)
theorem NewW.later {C : Addr} {ls : List Int} {H H1 : Hp} {Q : VK} (h : NewW K C ls H Q) (s : Same H H1) : NewW K C ls H1 Q := fun r H' a b c => h r H' a (s.trans b) (s.free c)
theorem madeL {C l : Addr} {E : XK} {H : Hp} {ls : List Int} {R : Addr → VK} (hs : H l = some (.lst (ls.map V.int))) (l3 : 3 ≤ ls.length) (l8 : ls.length ≤ 8) (bd : Bd 1000000 ls) (h : ∀ x, NewA K C ls H (R x)) :
    ∀ x dx, H x = none → H dx = none → dx ≠ x → spRV K C (.ref x :: ([.ref l] ++ [])) (upd (upd H dx (.own x)) x (.ins C dx [])) (fun v H2 => v = .non ∧ R x (.ref x) H2) E := by
  intro x dx hx hdx _
  have s0 : Same H (upd (upd H dx (.own x)) x (.ins C dx [])) := fun b o q => by
    rw [upd_ne (ne_of_none q hx), upd_ne (ne_of_none q hdx)]
    exact q
  exact .inl ⟨x, l, dx, ls, rfl, upd_same, ⟨.base (.lst (s0 _ _ hs)), by decide⟩, SqL.of (s0 _ _ hs), l3, l8, bd, fun H' ring kp => ⟨rfl, h x x H' ring (fun b o e => kp b o (s0 b o e) (ne_of_none e hx)) hx⟩⟩
theorem madeT {C l : Addr} {E : XK} {H : Hp} {ls : List Int} {Q : VK} (hs : SqT K H l (ls.map V.int)) (hk : Knd K H (.ref l) "tuple") (l3 : 3 ≤ ls.length) (l8 : ls.length ≤ 8) (bd : Bd 1000000 ls) (h : NewW K C ls H Q) :
    ∀ x dx, H x = none → H dx = none → dx ≠ x → spRV K C (.ref x :: ([.ref l] ++ [])) (upd (upd H dx (.own x)) x (.ins C dx [])) (fun v H2 => v = .non ∧ Q (.ref x) H2) E := by
  intro x dx hx hdx _
  have s0 : Same H (upd (upd H dx (.own x)) x (.ins C dx [])) := fun b o q => by
    rw [upd_ne (ne_of_none q hx), upd_ne (ne_of_none q hdx)]
    exact q
  exact .inr ⟨x, l, dx, ls, rfl, upd_same, hk.same s0, s0.tup hs, l3, l8, bd, fun H' ring kp => ⟨rfl, h x H' ring (fun b o e => kp b o (s0 b o e) (ne_of_none e hx)) hx⟩⟩
/-! ### want_bar, want_number of what is one -/
def spBarV : Sp := fun vs H Q _ => ∃ (v many : Int), vs = [.int v, .int many] ∧ 0 ≤ v ∧ v < many ∧ Q .non H
theorem ok_barV {f fW : Addr} {fd fdW : FuncData} (F : Fun K "want_bar" "want_bar" sWantBar f fd) (W : DefAt P w K mg base CX0 2 "is_within" ["value", "least", "most"] spWithin fW fdW) : FnOk P w K mg base CX0 3 f fd ["value", "many"] spBarV := by
  refine F.ok scWantBar (fun vs H Q E h => ?_) (fun cdv A outer s H vs Q E hr h => ?_)
  · obtain ⟨v, many, rfl, _⟩ := h
    rfl
  · refine ⟨_, pss_one (ps_if (pt_not (pt_val (pe_call W.ok hr rfl W.g W.kp W.b .nil pass0 (pa_cons (pv 0) (pa_cons pe_int (pa_cons (pe_op op_sub (pv 1) pe_int) pa_nil)))))) (pss_one ps_never) pss_nil), ?_⟩
    obtain ⟨v, many, rfl, h0, h1, q⟩ := h
    refine ⟨_, rfl, _, rfl, _, _, rfl, rfl, v, 0, many - 1, rfl, _, rfl, ?_⟩
    refine iteBF ?_ q
    simp only [decide_eq_true h0, decide_eq_true (show v ≤ many - 1 by omega)]
    rfl
def spNumV : Sp := fun vs H Q _ => ∃ (v lo hi : Int) (part : Str), vs = [.int v, .int lo, .int hi, .str part] ∧ lo ≤ v ∧ v ≤ hi ∧ Q .non H
theorem scWantNum : FnScope ["value", "least", "most", "part"] ["value", "least", "most", "part"] (defScope sWantNumber) := ⟨rfl, rfl, rfl, by decide +kernel, rfl, by decide +kernel, by decide +kernel⟩
theorem ok_numV {f fW : Addr} {fd fdW : FuncData} (F : Fun K "want_number" "want_number" sWantNumber f fd) (W : DefAt P w K mg base CX0 2 "is_within" ["value", "least", "most"] spWithin fW fdW) : FnOk P w K mg base CX0 3 f fd ["value", "least", "most", "part"] spNumV := by
  refine F.ok scWantNum (fun vs H Q E h => ?_) (fun cdv A outer s H vs Q E hr h => ?_)
  · obtain ⟨v, lo, hi, part, rfl, _⟩ := h
    rfl
  · refine ⟨_, pss_one (ps_if (pt_not (pt_val (pe_call W.ok hr rfl W.g W.kp W.b .nil pass0 (pa_cons (pv 0) (pa_cons (pv 1) (pa_cons (pv 2) pa_nil)))))) (pss_one ps_never) pss_nil), ?_⟩
    obtain ⟨v, lo, hi, part, rfl, h0, h1, q⟩ := h
    refine ⟨_, rfl, _, rfl, _, rfl, v, lo, hi, rfl, _, rfl, ?_⟩
    refine iteBF ?_ q
    simp only [decide_eq_true h0, decide_eq_true h1]
    rfl
/-! ### with_length, in_order -/
/-- what the methods need -/
structure RingP (P : Program) (w : World) (K : PySem.W.Frag) (mg : Str → Option Value) (base : Heap) (C : Addr) (fI fB fN : Addr) (fdI fdB fdN : FuncData) : Prop where
  made : Mk K C fI
  ok : FnOk P w K mg base CX0 4 fI fdI ["self", "lengths"] (spRV K C)
  b : Binds K fdI ["self", "lengths"] []
  bar : DefAt P w K mg base CX0 3 "want_bar" ["value", "many"] spBarV fB fdB
  num : DefAt P w K mg base CX0 3 "want_number" ["value", "least", "most", "part"] spNumV fN fdN
theorem SqT.knd {H : Hp} {a : Addr} {xs : List V} (h : SqT K H a xs) : Knd K H (.ref a) "tuple" := by
  rcases h with (h | ⟨o, h⟩) | ⟨o, its, n, e, c, _⟩
  · exact ⟨.base (.tup h), by decide⟩
  · exact ⟨.fTuple h, by decide⟩
  · exact ⟨.kTuple e c, by decide⟩
theorem slS {a : Addr} {xs : List V} {lo hi : Option Int} {H : Hp} {Q : VK} (hs : SqT K H a xs) (k : ∀ t H', SqT K H' t (cutV xs lo hi) → Same H H' → Q (.ref t) H') : rSlA K (.ref a) lo hi H Q := by
  refine ⟨a, xs, rfl, hs, fun ⟨e1, e2⟩ => k a H ?_ (Same.refl H), fun _ p hp => k p _ (.inl (.inl upd_same)) ((Same.refl H).new hp)⟩
  unfold cutV
  rw [e1, e2, List.drop_zero, Nat.sub_zero, List.take_length]
  exact hs
theorem catS {a b : Addr} {xs ys : List Int} {H : Hp} {Q : VK} (ha : SqT K H a (xs.map V.int)) (hb : SqT K H b (ys.map V.int)) (hl : xs.length + ys.length ≤ 1000) (k : ∀ t H', SqT K H' t ((xs ++ ys).map V.int) → Same H H' → Q (.ref t) H') : rCatA K (.ref a) (.ref b) H Q := by
  refine ⟨a, b, _, _, rfl, rfl, ha, hb, by rw [List.length_map, List.length_map]; exact Nat.le_of_lt (sm (by omega)), fun e => k b H ?_ (Same.refl H), fun _ e => k a H ?_ (Same.refl H), fun _ _ p hp => k p _ ?_ ((Same.refl H).new hp)⟩
  · rw [List.map_eq_nil_iff.mp e]; exact hb
  · rw [List.map_eq_nil_iff.mp e, List.append_nil]; exact ha
  · exact .inl (.inl (by rw [upd_same, List.map_append]))
theorem sv_to {a : Addr} {ls : List Int} {z : Int} {i : Nat} {H : Hp} {Q : VK} (hs : SqT K H a (ls.map V.int)) (hz : z = (i : Int)) (k : ∀ t H', SqT K H' t ((ls.take i).map V.int) → Same H H' → Q (.ref t) H') : rSlA K (.ref a) none (some z) H Q := by
  subst hz
  refine slS hs fun t H' h s => k t H' ?_ s
  rw [cutV_to, ← List.map_take] at h
  exact h
theorem sv_from {a : Addr} {ls : List Int} {z : Int} {i : Nat} {H : Hp} {Q : VK} (hs : SqT K H a (ls.map V.int)) (hz : z = (i : Int)) (k : ∀ t H', SqT K H' t ((ls.drop i).map V.int) → Same H H' → Q (.ref t) H') : rSlA K (.ref a) (some z) none H Q := by
  refine slS hs fun t H' h s => k t H' ?_ s
  rw [cut_from _ hz, ← List.map_drop] at h
  exact h
theorem cut_mid (xs : List V) {z w : Int} {j k : Nat} (hz : z = (j : Int)) (hw : w = (k : Int)) (hj : j ≤ xs.length) (hk : k ≤ xs.length) : cutV xs (some z) (some w) = (xs.drop j).take (k - j) := by
  subst hz hw
  unfold cutV
  rw [HT.sIx_nat, HT.sIx_nat, Nat.min_eq_left hj, Nat.min_eq_left hk]
theorem sl_mid {a : Addr} {ls : List Int} {z w : Int} {i j : Nat} {H : Hp} {Q : VK} (hs : SqT K H a (ls.map V.int)) (hz : z = (i : Int)) (hw : w = (j : Int)) (hi : i ≤ ls.length) (hj : j ≤ ls.length) (k : ∀ t H', SqT K H' t (((ls.drop i).take (j - i)).map V.int) → Same H H' → Q (.ref t) H') : rSlA K (.ref a) (some z) (some w) H Q := by
  refine slS hs fun t H' h s => k t H' ?_ s
  rw [cut_mid _ hz hw (by rw [List.length_map]; exact hi) (by rw [List.length_map]; exact hj), ← List.map_drop, ← List.map_take] at h
  exact h
theorem sl_to {a : Addr} {ls : List Int} {i : Nat} {H : Hp} {Q : VK} (hs : SqT K H a (ls.map V.int)) (hi : i < ls.length) (k : ∀ t, H t = none → Q (.ref t) (upd H t (.tup ((ls.take i).map V.int)))) : rSlA K (.ref a) none (some (i : Int)) H Q := by
  refine ⟨a, _, rfl, hs, fun ⟨_, e2⟩ => ?_, fun _ p hp => ?_⟩
  · rw [HT.sIx_nat, List.length_map] at e2
    omega
  · rw [cutV_to, ← List.map_take]
    exact k p hp
theorem sl_from {a : Addr} {ls : List Int} {z : Int} {i : Nat} {H : Hp} {Q : VK} (hs : SqT K H a (ls.map V.int)) (hz : z = ((i + 1 : Nat) : Int)) (h0 : 0 < ls.length) (k : ∀ t, H t = none → Q (.ref t) (upd H t (.tup ((ls.drop (i + 1)).map V.int)))) : rSlA K (.ref a) (some z) none H Q := by
  refine ⟨a, _, rfl, hs, fun ⟨e1, _⟩ => ?_, fun _ p hp => ?_⟩
  · subst hz
    rw [HT.sIx_nat, List.length_map] at e1
    omega
  · rw [cut_from _ hz, ← List.map_drop]
    exact k p hp
theorem catI {a b : Addr} {xs ys : List Int} {H : Hp} {Q : VK} (ha : H a = some (.tup (xs.map V.int))) (hb : H b = some (.tup (ys.map V.int))) (hl : xs.length + ys.length ≤ 1000) (k : ∀ t H', H' t = some (.tup ((xs ++ ys).map V.int)) → Same H H' → Q (.ref t) H') : rCatA K (.ref a) (.ref b) H Q := by
  refine ⟨a, b, _, _, rfl, rfl, .inl (.inl ha), .inl (.inl hb), by rw [List.length_map, List.length_map]; exact Nat.le_of_lt (sm (by omega)), fun e => k b H ?_ (Same.refl H), fun _ e => k a H ?_ (Same.refl H), fun _ _ p hp => k p _ ?_ ((Same.refl H).new hp)⟩
  · rw [List.map_eq_nil_iff.mp e]; exact hb
  · rw [List.map_eq_nil_iff.mp e, List.append_nil]; exact ha
  · rw [upd_same, List.map_append]
def spOrd (K : PySem.W.Frag) (C : Addr) : Sp := fun vs H Q _ => ∃ (r a : Addr) (ls ns : List Int), vs = [.ref r, .ref a] ∧ RingW K C H r ls ∧ 3 ≤ ls.length ∧ ls.length ≤ 8 ∧ Bd 1000000 ls ∧ H a = some (.lst (ns.map V.int)) ∧ ns.Perm (natB (List.range ls.length)) ∧ NewA K C (ordL ls ns) H Q
abbrev nOrd : List Str := ["self", "order", "bar"]
theorem scOrd : FnScope nOrd ["self", "order"] (defScope sRingInOrder) := ⟨rfl, rfl, rfl, by decide +kernel, rfl, by decide +kernel, by decide +kernel⟩
theorem ok_ord {C f fI fB fN fU : Addr} {fd fdI fdB fdN fdU : FuncData} (F : Fun K "in_order" "Ring.in_order" sRingInOrder f fd) (T : Bi mg) (R : RingC K mg C) (G : RingP P w K mg base C fI fB fN fdI fdB fdN) (N : DefAt P w K mg base CX0 2 "is_numbers" ["value"] (spNumsL K) fU fdU) : FnOk P w K mg base CX0 6 f fd ["self", "order"] (spOrd K C) := by
  refine F.ok scOrd (fun vs H Q E h => ?_) (fun cdv A outer s H vs Q E hr h => ?_)
  · obtain ⟨r, a, ls, ns, rfl, _⟩ := h
    rfl
  · have nd := scOrd.nd
    refine ⟨_, pss_cons (ps_if (PW.pt (pw_or (pt_not (pt_val (pe_call N.ok (hr.mono (by decide)) rfl N.g N.kp N.b .nil pass0 (pa_cons (pv 1) pa_nil)))) (pw_or1 (pt_cmpR (op_neD hr.units) (pe_callB cr_sortedI (by rfl) T.sorted (by decide +kernel) (pa_cons (pv 1) pa_nil)) (pe_listRg rfl (by rfl) T.list (prg_1 (by rfl) T.range (pe_callB call_len_seq (by rfl) T.len PySem.boot_len (pa_cons (pe_fld (pv 0) rfl) pa_nil)))) (nomark _)))))
        (pss_one ps_never) pss_nil)
      (pss_one (ps_ret (pe_make G.made G.ok hr (by rfl) R.g G.b .nil pass0 (pa_cons (pe_lc (own := [("bar", 2)]) (g := gName 2) (tt := tYes) (te := tOp (rIxT K) (tFld K (tVar 0) "lengths") (tVar 2)) rfl nd (pi_list (pv 1))
        (blkOk_by (N := nOrd) (sc := defScope sRingInOrder) (by decide +kernel)) (fun _ _ _ _ _ => pg_name (i := 2) nd rfl (Or.inl rfl)) (fun _ _ _ _ _ => pts_nil) (fun _ _ _ _ _ => pe_ix (r := rIxT K) ix_tup (pe_fld (pv 0) rfl) (pv 2) (fun _ _ => rfl))) pa_nil)))), ?_⟩
    obtain ⟨r, a, ls, ns, rfl, ⟨dx, t, hr0, ht⟩, l3, l8, bd, ha, p2, q2⟩ := h
    have nl : ns.length = ls.length := by rw [p2.length_eq, natB_len]
    refine ⟨_, rfl, a, _, fun _ => "int", rfl, ⟨.base (.lst ha), by decide⟩, SqL.of ha, (by rw [List.length_map]; omega), (fun x hx => ?_), fun H1 s1 => ⟨_, rfl, ?_⟩⟩
    · obtain ⟨z, _, rfl⟩ := List.mem_map.mp hx
      exact Knd.int
    have e0 : ((ns.map V.int).all fun x => decide (("int" : String) = "int")) = true := List.all_eq_true.mpr fun _ _ => rfl
    rw [e0]
    refine iteF ?_
    have ha1 := s1 _ _ ha
    refine ⟨_, rfl, a, ns, rfl, SqL.of ha1, fun ns' p pm sorted hp => ?_⟩
    have s2 : Same H1 (upd H1 p (.lst (ns'.map V.int))) := (Same.refl H1).new hp
    have hp2 : upd H1 p (.lst (ns'.map V.int)) p = some (.lst (ns'.map V.int)) := upd_same
    generalize upd H1 p (.lst (ns'.map V.int)) = H2 at s2 hp2 ⊢
    have s12 := s1.trans s2
    refine ⟨_, rfl, r, C, dx, _, _, rfl, s12 _ _ hr0, R.cl, R.nL, rf_lengths _ _, t, _, rfl, .inr (s12.tup ht), _, rfl, ?_⟩
    rw [List.length_map]
    refine ⟨RgOk.of_le (by omega) (by omega) (by omega) (by omega), fun q hq => ?_⟩
    rw [rg_nat]
    have s3 := s12.new (o := .lst ((natB (List.range ls.length)).map V.int)) hq
    refine ⟨_, _, .lst (SqL.of (by rw [upd_ne (ne_of_none hp2 hq)]; exact hp2)) (dp_ints _), .lst (SqL.of upd_same) (dp_ints _), shaped_ints _, shaped_ints _, _, rfl, ?_⟩
    rw [eqvA_pd, decide_eq_true (sorted_eq (pm.trans p2) sorted (natB_sorted _))]
    refine iteF ?_
    generalize upd H2 q (.lst ((natB (List.range ls.length)).map V.int)) = H3 at s3 ⊢
    have ha3 := s3 _ _ ha
    refine ⟨_, rfl, a, rfl, ⟨_, SqL.of ha3⟩, fun D hD => ?_⟩
    refine lc_list (K := K) (a := a) (xs := ns.map V.int) (fun i H' => Same H3 H' ∧ H' D = some (.lst ((ordL ls (ns.take i)).map V.int))) ⟨(Same.refl H3).new hD, upd_same⟩ (fun i H' _ q => SqL.of (q.1 _ _ ha3)) ?_ ?_
    · rintro i x H' hi ⟨s4, h4⟩
      obtain ⟨z, hz, rfl⟩ := int_at hi
      have bz := natB_mem (p2.mem_iff.mp (List.mem_of_getElem? hz))
      refine ⟨rfl, _, rfl, r, C, dx, _, _, rfl, s4 _ _ (s3 _ _ hr0), R.cl, R.nL, rf_lengths _ _, _, rfl, t, _, _, _, rfl, rfl, (s3.trans s4).tup ht, get_z bz.1 bz.2, _, h4, (by rw [List.length_map, ordL_len, List.length_take]; exact sm (by omega)), s4.mut hD, ?_⟩
      rw [upd_same, ordL_take hz, List.map_append]
      rfl
    · rintro H4 ⟨s4, h4⟩
      rw [List.length_map, List.take_length] at h4
      have eo := ordL_len ls ns
      exact madeL (R := fun _ => Q) h4 (by omega) (by omega) (ordL_bd bd p2) (fun _ => q2.later (s3.trans s4))
theorem Bd.rev {m : Int} {a : List Int} (h : Bd m a) : Bd m a.reverse := fun x hx => h x (List.mem_reverse.mp hx)
def oneL (ls : List Int) (i : Nat) : List Int := if i + 1 = ls.length then [ls.getD i 0 + ls.getD 0 0] ++ (ls.drop 1).take (i - 1) else ls.take i ++ [ls.getD i 0 + ls.getD (i + 1) 0] ++ ls.drop (i + 2)
def twoL (ls : List Int) (i : Nat) (z : Int) : List Int := ls.take i ++ [z, ls.getD i 0 - z] ++ ls.drop (i + 1)
theorem oneL_len {ls : List Int} {i : Nat} (h : i < ls.length) (h2 : 2 ≤ ls.length) : (oneL ls i).length + 1 = ls.length := by
  unfold oneL
  split
  · simp only [List.length_append, List.length_take, List.length_drop, List.length_singleton]; omega
  · simp only [List.length_append, List.length_take, List.length_drop, List.length_singleton]; omega
theorem twoL_len {ls : List Int} {i : Nat} {z : Int} (h : i < ls.length) : (twoL ls i z).length = ls.length + 1 := by
  unfold twoL
  simp only [List.length_append, List.length_take, List.length_drop, List.length_cons, List.length_nil]; omega
def backL (ls : List Int) : List Int := ls.take 1 ++ (ls.drop 1).reverse
theorem backL_len (ls : List Int) : (backL ls).length = ls.length := by
  unfold backL
  rw [List.length_append, List.length_take, List.length_reverse, List.length_drop]; omega
theorem Bd.back {m : Int} {ls : List Int} (h : Bd m ls) : Bd m (backL ls) := (h.take 1).app (h.drop 1).rev
def spBegun (K : PySem.W.Frag) (C : Addr) : Sp := fun vs H Q _ => ∃ (r : Addr) (i : Nat) (ls : List Int), vs = [.ref r, .int i] ∧ RingW K C H r ls ∧ 3 ≤ ls.length ∧ ls.length ≤ 8 ∧ Bd 1000000 ls ∧ i < ls.length ∧ NewW K C (ls.drop i ++ ls.take i) H Q
theorem scBegun : FnScope ["self", "bar"] ["self", "bar"] (defScope sRingBegunAt) := ⟨rfl, rfl, rfl, by decide +kernel, rfl, by decide +kernel, by decide +kernel⟩
theorem ok_begun {C f fI fB fN : Addr} {fd fdI fdB fdN : FuncData} (F : Fun K "begun_at" "Ring.begun_at" sRingBegunAt f fd) (T : Bi mg) (R : RingC K mg C) (G : RingP P w K mg base C fI fB fN fdI fdB fdN) : FnOk P w K mg base CX0 6 f fd ["self", "bar"] (spBegun K C) := by
  refine F.ok scBegun (fun vs H Q E h => ?_) (fun cdv A outer s H vs Q E hr h => ?_)
  · obtain ⟨r, i, ls, rfl, _⟩ := h
    rfl
  · refine ⟨_, pss_cons (ps_expr (pe_call G.bar.ok (hr.mono (by decide)) rfl G.bar.g G.bar.kp G.bar.b .nil pass0 (pa_cons (pv 1) (pa_cons (pe_callB call_len_seq (by rfl) T.len PySem.boot_len (pa_cons (pe_fld (pv 0) rfl) pa_nil)) pa_nil))))
      (pss_one (ps_ret (pe_make G.made G.ok hr (by rfl) R.g G.b .nil pass0 (pa_cons (pe_op op_catA (pe_slice sl_tupA (pe_fld (pv 0) rfl) (po_some (pv 1)) po_none) (pe_slice sl_tupA (pe_fld (pv 0) rfl) po_none (po_some (pv 1)))) pa_nil)))), ?_⟩
    obtain ⟨r, i, ls, rfl, ⟨dx, t, hr0, ht⟩, l3, l8, bd, hi, q⟩ := h
    refine ⟨_, rfl, _, rfl, r, C, dx, _, _, rfl, hr0, R.cl, R.nL, rf_lengths _ _, t, _, rfl, .inr ht, i, ls.length, by rw [List.length_map]; rfl, by omega, by omega, ?_⟩
    refine ⟨_, rfl, r, C, dx, _, _, rfl, hr0, R.cl, R.nL, rf_lengths _ _, _, rfl, _, rfl, ?_⟩
    dsimp only [tNoPart]
    refine sv_from ht rfl fun t1 H1 h1 s1 => ?_
    refine ⟨_, rfl, r, C, dx, _, _, rfl, s1 _ _ hr0, R.cl, R.nL, rf_lengths _ _, _, rfl, _, rfl, sv_to (s1.tup ht) rfl fun t2 H2 h2 s2 => ?_⟩
    refine catS (xs := ls.drop i) (ys := ls.take i) (s2.tup h1) h2 (by rw [List.length_take, List.length_drop]; omega) fun t3 H3 h3 s3 => ?_
    refine madeT h3 (SqT.knd h3) ?_ ?_ ((bd.drop i).app (bd.take i)) (q.later ((s1.trans s2).trans s3))
    · rw [List.length_append, List.length_take, List.length_drop]; omega
    · rw [List.length_append, List.length_take, List.length_drop]; omega
def spBackw (K : PySem.W.Frag) (C : Addr) : Sp := fun vs H Q _ => ∃ (r : Addr) (ls : List Int), vs = [.ref r] ∧ RingW K C H r ls ∧ 3 ≤ ls.length ∧ ls.length ≤ 8 ∧ Bd 1000000 ls ∧ NewW K C (backL ls) H Q
theorem scBackw : FnScope ["self"] ["self"] (defScope sRingBackwards) := ⟨rfl, rfl, rfl, by decide +kernel, rfl, by decide +kernel, by decide +kernel⟩
theorem ok_backw {C f fI fB fN : Addr} {fd fdI fdB fdN : FuncData} (F : Fun K "backwards" "Ring.backwards" sRingBackwards f fd) (T : Bi mg) (R : RingC K mg C) (G : RingP P w K mg base C fI fB fN fdI fdB fdN) : FnOk P w K mg base CX0 6 f fd ["self"] (spBackw K C) := by
  refine F.ok scBackw (fun vs H Q E h => ?_) (fun cdv A outer s H vs Q E hr h => ?_)
  · obtain ⟨r, ls, rfl, _⟩ := h
    rfl
  · refine ⟨_, pss_one (ps_ret (pe_make G.made G.ok hr (by rfl) R.g G.b .nil pass0 (pa_cons (pe_op op_catA (pe_slice sl_tupA (pe_fld (pv 0) rfl) po_none (po_some pe_int)) (pe_backT (pe_fld (pv 0) rfl))) pa_nil))), ?_⟩
    obtain ⟨r, ls, rfl, ⟨dx, t, hr0, ht⟩, l3, l8, bd, q⟩ := h
    refine ⟨_, rfl, r, C, dx, _, _, rfl, hr0, R.cl, R.nL, rf_lengths _ _, _, rfl, sv_to ht (i := 1) rfl fun t1 H1 h1 s1 => ?_⟩
    refine ⟨_, rfl, r, C, dx, _, _, rfl, s1 _ _ hr0, R.cl, R.nL, rf_lengths _ _, t, _, rfl, s1.tup ht, (by rw [List.length_map]; omega), fun t2 n2 => ?_⟩
    rw [← List.map_drop, ← List.map_reverse]
    have s2 := s1.new (o := .tup ((ls.drop 1).reverse.map V.int)) n2
    refine catS (xs := ls.take 1) (ys := (ls.drop 1).reverse) (((Same.refl _).new n2).tup h1) (.inl (.inl upd_same)) (by rw [List.length_take, List.length_reverse, List.length_drop]; omega) fun t3 H3 h3 s3 => ?_
    have eb := backL_len ls
    exact madeT (ls := backL ls) h3 (SqT.knd h3) (by omega) (by omega) bd.back (q.later (s2.trans s3))
def spAsOne (K : PySem.W.Frag) (C : Addr) : Sp := fun vs H Q _ => ∃ (r : Addr) (i : Nat) (ls : List Int), vs = [.ref r, .int i] ∧ RingW K C H r ls ∧ 4 ≤ ls.length ∧ ls.length ≤ 8 ∧ i < ls.length ∧ Bd 1000000 (oneL ls i) ∧ NewW K C (oneL ls i) H Q
theorem scAsOne : FnScope ["self", "bar", "both"] ["self", "bar"] (defScope sRingAsOne) := ⟨rfl, rfl, rfl, by decide +kernel, rfl, by decide +kernel, by decide +kernel⟩
theorem ok_asOne {C f fI fB fN : Addr} {fd fdI fdB fdN : FuncData} (F : Fun K "as_one" "Ring.as_one" sRingAsOne f fd) (T : Bi mg) (R : RingC K mg C) (G : RingP P w K mg base C fI fB fN fdI fdB fdN) : FnOk P w K mg base CX0 6 f fd ["self", "bar"] (spAsOne K C) := by
  refine F.ok scAsOne (fun vs H Q E h => ?_) (fun cdv A outer s H vs Q E hr h => ?_)
  · obtain ⟨r, i, ls, rfl, _⟩ := h
    rfl
  · have nd := scAsOne.nd
    refine ⟨_, pss_cons (ps_expr (pe_call G.bar.ok (hr.mono (by decide)) rfl G.bar.g G.bar.kp G.bar.b .nil pass0 (pa_cons (pv 1) (pa_cons (pe_callB call_len_seq (by rfl) T.len PySem.boot_len (pa_cons (pe_fld (pv 0) rfl) pa_nil)) pa_nil))))
      (pss_cons (ps_if (pt_cmpR op_eq (pv 1) (pe_op op_sub (pe_callB call_len_seq (by rfl) T.len PySem.boot_len (pa_cons (pe_fld (pv 0) rfl) pa_nil)) pe_int) (nomark _))
        (pss_one (ps_ret (pe_make G.made G.ok hr (by rfl) R.g G.b .nil pass0 (pa_cons (pe_op op_catA (pe_tup (pa_cons (pe_op op_add (pe_ix ix_tup (pe_fld (pv 0) rfl) (pv 1) (fun _ _ => rfl)) (pe_ix ix_tup (pe_fld (pv 0) rfl) pe_int (fun _ _ => rfl))) pa_nil)) (pe_slice sl_tupA (pe_fld (pv 0) rfl) (po_some pe_int) (po_some (pv 1)))) pa_nil)))) pss_nil)
      (pss_cons (ps_set (i := 2) nd rfl (Or.inl rfl) (pe_op op_add (pe_ix ix_tup (pe_fld (pv 0) rfl) (pv 1) (fun _ _ => rfl)) (pe_ix ix_tup (pe_fld (pv 0) rfl) (pe_op op_add (pv 1) pe_int) (fun _ _ => rfl))))
      (pss_one (ps_ret (pe_make G.made G.ok hr (by rfl) R.g G.b .nil pass0 (pa_cons (pe_op op_catA (pe_op op_catA (pe_slice sl_tupA (pe_fld (pv 0) rfl) po_none (po_some (pv 1))) (pe_tup (pa_cons (pv 2) pa_nil))) (pe_slice sl_tupA (pe_fld (pv 0) rfl) (po_some (pe_op op_add (pv 1) pe_int)) po_none)) pa_nil)))))), ?_⟩
    obtain ⟨r, i, ls, rfl, ⟨dx, t, hr0, ht⟩, l4, l8, hi, bd, q⟩ := h
    refine ⟨_, rfl, _, rfl, r, C, dx, _, _, rfl, hr0, R.cl, R.nL, rf_lengths _ _, t, _, rfl, .inr ht, i, ls.length, by rw [List.length_map]; rfl, by omega, by omega, ?_⟩
    refine ⟨_, rfl, _, rfl, r, C, dx, _, _, rfl, hr0, R.cl, R.nL, rf_lengths _ _, t, _, rfl, .inr ht, _, _, rfl, rfl, rfl, _, rfl, ?_⟩
    rw [List.length_map]
    by_cases c : i + 1 = ls.length
    · refine iteDT (by rw [show (i : Int) = (ls.length : Int) - 1 by omega]) ?_
      refine ⟨_, rfl, r, C, dx, _, _, rfl, hr0, R.cl, R.nL, rf_lengths _ _, _, rfl, t, _, _, _, rfl, rfl, ht, getL rfl hi, _, rfl, r, C, dx, _, _, rfl, hr0, R.cl, R.nL, rf_lengths _ _, t, _, _, _, rfl, rfl, ht, getL (i := 0) rfl (by omega), _, _, rfl, rfl, (by show 1 ≤ sizeLine; decide), fun t1 n1 => ?_⟩
      have s1 := (Same.refl H).new (o := .tup [.int (ls.getD i 0 + ls.getD 0 0)]) n1
      refine ⟨_, rfl, r, C, dx, _, _, rfl, s1 _ _ hr0, R.cl, R.nL, rf_lengths _ _, _, rfl, _, rfl, _, rfl, sl_mid (s1.tup ht) (i := 1) (j := i) rfl rfl (by omega) (by omega) fun t2 H2 h2 s2 => ?_⟩
      refine catS (xs := [ls.getD i 0 + ls.getD 0 0]) (ys := (ls.drop 1).take (i - 1)) (.inl (.inl (s2 _ _ upd_same))) h2 (by rw [List.length_take, List.length_drop, List.length_singleton]; omega) fun t3 H3 h3 s3 => ?_
      have e1 : oneL ls i = [ls.getD i 0 + ls.getD 0 0] ++ (ls.drop 1).take (i - 1) := if_pos c
      have el := oneL_len hi (by omega)
      rw [← e1] at h3
      exact madeT h3 (SqT.knd h3) (by omega) (by omega) bd (q.later ((s1.trans s2).trans s3))
    · refine iteDF (fun z => c (by have := V.int.inj z; omega)) ?_
      have e1 : oneL ls i = ls.take i ++ [ls.getD i 0 + ls.getD (i + 1) 0] ++ ls.drop (i + 2) := if_neg c
      have el := oneL_len hi (by omega)
      refine ⟨_, rfl, r, C, dx, _, _, rfl, hr0, R.cl, R.nL, rf_lengths _ _, _, rfl, t, _, _, _, rfl, rfl, ht, getL rfl hi, _, rfl, r, C, dx, _, _, rfl, hr0, R.cl, R.nL, rf_lengths _ _, _, rfl, _, _, rfl, rfl, t, _, _, _, rfl, rfl, ht, getL (i := i + 1) (by omega) (by omega), _, _, rfl, rfl, ?_⟩
      refine ⟨_, rfl, r, C, dx, _, _, rfl, hr0, R.cl, R.nL, rf_lengths _ _, _, rfl, _, rfl, sv_to ht rfl fun t1 H1 h1 s1 => ⟨_, rfl, (by show 1 ≤ sizeLine; decide), fun t2 n2 => ?_⟩⟩
      have s2 := s1.new (o := .tup [.int (ls.getD i 0 + ls.getD (i + 1) 0)]) n2
      refine catS (xs := ls.take i) (ys := [ls.getD i 0 + ls.getD (i + 1) 0]) (((Same.refl _).new n2).tup h1) (.inl (.inl upd_same)) (by rw [List.length_take, List.length_singleton]; omega) fun t3 H3 h3 s3 => ?_
      have s23 := s2.trans s3
      refine ⟨_, rfl, r, C, dx, _, _, rfl, s23 _ _ hr0, R.cl, R.nL, rf_lengths _ _, _, rfl, _, _, rfl, rfl, _, rfl, ?_⟩
      dsimp only [tNoPart]
      refine sv_from (s23.tup ht) (i := i + 2) (by omega) fun t4 H4 h4 s4 => ?_
      refine catS (xs := ls.take i ++ [ls.getD i 0 + ls.getD (i + 1) 0]) (ys := ls.drop (i + 2)) (s4.tup h3) h4 (by simp only [List.length_append, List.length_take, List.length_drop, List.length_singleton]; omega) fun t5 H5 h5 s5 => ?_
      rw [← e1] at h5
      exact madeT h5 (SqT.knd h5) (by omega) (by omega) bd (q.later ((s23.trans s4).trans s5))
def spInTwo (K : PySem.W.Frag) (C : Addr) : Sp := fun vs H Q _ => ∃ (r : Addr) (i : Nat) (z : Int) (ls : List Int), vs = [.ref r, .int i, .int z] ∧ RingW K C H r ls ∧ 3 ≤ ls.length ∧ ls.length ≤ 7 ∧ i < ls.length ∧ 1 ≤ z ∧ z ≤ ls.getD i 0 - 1 ∧ Bd 1000000 (twoL ls i z) ∧ NewW K C (twoL ls i z) H Q
theorem scInTwo : FnScope ["self", "bar", "length", "both"] ["self", "bar", "length"] (defScope sRingInTwo) := ⟨rfl, rfl, rfl, by decide +kernel, rfl, by decide +kernel, by decide +kernel⟩
theorem ok_inTwo {C f fI fB fN : Addr} {fd fdI fdB fdN : FuncData} (F : Fun K "in_two" "Ring.in_two" sRingInTwo f fd) (T : Bi mg) (R : RingC K mg C) (G : RingP P w K mg base C fI fB fN fdI fdB fdN) : FnOk P w K mg base CX0 6 f fd ["self", "bar", "length"] (spInTwo K C) := by
  refine F.ok scInTwo (fun vs H Q E h => ?_) (fun cdv A outer s H vs Q E hr h => ?_)
  · obtain ⟨r, i, z, ls, rfl, _⟩ := h
    rfl
  · have nd := scInTwo.nd
    refine ⟨_, pss_cons (ps_expr (pe_call G.bar.ok (hr.mono (by decide)) rfl G.bar.g G.bar.kp G.bar.b .nil pass0 (pa_cons (pv 1) (pa_cons (pe_callB call_len_seq (by rfl) T.len PySem.boot_len (pa_cons (pe_fld (pv 0) rfl) pa_nil)) pa_nil))))
      (pss_cons (ps_expr (pe_call G.num.ok (hr.mono (by decide)) rfl G.num.g G.num.kp G.num.b .nil pass0 (pa_cons (pv 2) (pa_cons pe_int (pa_cons (pe_op op_sub (pe_ix ix_tup (pe_fld (pv 0) rfl) (pv 1) (fun _ _ => rfl)) pe_int) (pa_cons pe_str pa_nil))))))
      (pss_cons (ps_set (i := 3) nd rfl (Or.inl rfl) (pe_tup (pa_cons (pv 2) (pa_cons (pe_op op_sub (pe_ix ix_tup (pe_fld (pv 0) rfl) (pv 1) (fun _ _ => rfl)) (pv 2)) pa_nil))))
      (pss_one (ps_ret (pe_make G.made G.ok hr (by rfl) R.g G.b .nil pass0 (pa_cons (pe_op op_catA (pe_op op_catA (pe_slice sl_tupA (pe_fld (pv 0) rfl) po_none (po_some (pv 1))) (pv 3)) (pe_slice sl_tupA (pe_fld (pv 0) rfl) (po_some (pe_op op_add (pv 1) pe_int)) po_none)) pa_nil)))))), ?_⟩
    obtain ⟨r, i, z, ls, rfl, ⟨dx, t, hr0, ht⟩, l3, l7, hi, z1, z2, bd, q⟩ := h
    refine ⟨_, rfl, _, rfl, r, C, dx, _, _, rfl, hr0, R.cl, R.nL, rf_lengths _ _, t, _, rfl, .inr ht, i, ls.length, by rw [List.length_map]; rfl, by omega, by omega, ?_⟩
    refine ⟨_, rfl, _, rfl, r, C, dx, _, _, rfl, hr0, R.cl, R.nL, rf_lengths _ _, _, rfl, t, _, _, _, rfl, rfl, ht, getL rfl hi, _, _, rfl, rfl, z, 1, ls.getD i 0 - 1, "length", rfl, z1, z2, ?_⟩
    refine ⟨_, rfl, _, rfl, r, C, dx, _, _, rfl, hr0, R.cl, R.nL, rf_lengths _ _, _, rfl, t, _, _, _, rfl, rfl, ht, getL rfl hi, _, rfl, _, _, rfl, rfl, (by show 2 ≤ sizeLine; decide), fun t0 n0 => ?_⟩
    have s0 := (Same.refl H).new (o := .tup [.int z, .int (ls.getD i 0 - z)]) n0
    have h0 : upd H t0 (.tup [.int z, .int (ls.getD i 0 - z)]) t0 = some (.tup ([z, ls.getD i 0 - z].map V.int)) := upd_same
    generalize upd H t0 (.tup [.int z, .int (ls.getD i 0 - z)]) = H0 at s0 h0 ⊢
    refine ⟨_, rfl, r, C, dx, _, _, rfl, s0 _ _ hr0, R.cl, R.nL, rf_lengths _ _, _, rfl, _, rfl, sv_to (s0.tup ht) rfl fun t1 H1 h1 s1 => ⟨_, rfl, ?_⟩⟩
    refine catS (xs := ls.take i) (ys := [z, ls.getD i 0 - z]) h1 (.inl (.inl (s1 _ _ h0))) (by rw [List.length_take]; show _ + 2 ≤ 1000; omega) fun t3 H3 h3 s3 => ?_
    have s23 := (s0.trans s1).trans s3
    refine ⟨_, rfl, r, C, dx, _, _, rfl, s23 _ _ hr0, R.cl, R.nL, rf_lengths _ _, _, rfl, _, _, rfl, rfl, _, rfl, ?_⟩
    dsimp only [tNoPart]
    refine sv_from (s23.tup ht) (i := i + 1) (by omega) fun t4 H4 h4 s4 => ?_
    refine catS (xs := ls.take i ++ [z, ls.getD i 0 - z]) (ys := ls.drop (i + 1)) (s4.tup h3) h4 (by simp only [List.length_append, List.length_take, List.length_drop, List.length_cons, List.length_nil]; omega) fun t5 H5 h5 s5 => ?_
    have el := twoL_len (z := z) hi
    exact madeT (ls := twoL ls i z) h5 (SqT.knd h5) (by omega) (by omega) bd (q.later ((s23.trans s4).trans s5))
end
end K
namespace K
open PySem L2 Rg LamX
open Evl (pss_cut)
/-! ### tables -/
abbrev qLaw : Str := "law.<locals>.<lambda>"
abbrev qIO : Str := "in_order.<locals>.<lambda>"
abbrev T2 (P1 P2 : Addr) : List (Addr × Str) := [(P2, qIO)]
/-- a def whose code object stands at c -/
structure FunC (K : PySem.W.Frag) (x qual : Str) (st : Stmt) (f : Addr) (fd : FuncData) (c : Addr) : Prop where
  ex : ∃ (oc : Value) (od : Option Addr) (kV doc pm : Value) (an : Option Addr) (ct : Value) (osl : Array (Option Value)),
    fd = PySem.W.fnOf x qual (defArgs st) (defBody st) (defScope st) .none kV doc pm an (.ref c) ct ∧ K.lookup f = some ⟨oc, od, .func fd, osl⟩ ∧ PySem.W.codeIn K (.ref c) qual = true
theorem FunC.ok {P : Program} {w : World} {K : PySem.W.Frag} {mg : Str → Option Value} {base : Heap} {x qual : Str} {st : Stmt} {f c : Addr} {fd : FuncData} {N ps : List Str} {k : Nat} {sp : Sp} (F : FunC K x qual st f fd c) (S : FnScope N ps (defScope st)) (len : ∀ vs H Q E, sp vs H Q E → vs.length = ps.length)
    (hbody : ∀ (A : Around) (outer : List Env) (s : Shared) (H : Hp) (vs : List V) (Q : VK) (E : XK), Room k (A.deeper (PyProof.Rows.envOfC qual (defScope st) s.heap.objs.size f (.ref c))) → sp vs H Q E →
      ∃ t, PSs (cxOf CX0 P w K mg base N qual (defScope st) f (.ref c) A outer s H E).nox (defBody st) t ∧ t { nx := fun _ H' => Q .non H', rt := Q } (L2.start N vs) H) : FnOk P w K mg base CX0 (k + 1) f fd ps sp := by
  obtain ⟨oc, od, kV, doc, pm, an, ct, osl, rfl, lk, hcd⟩ := F.ex
  exact fn_of lk hcd S len fun A outer s H vs Q E hr hsp => by
    obtain ⟨t, h, q⟩ := hbody A outer s H vs Q E hr hsp
    exact ⟨t, h.nox, q⟩
/-- a promise that no error is told in -/
theorem fn_calm {P : Program} {w : World} {K : PySem.W.Frag} {mg : Str → Option Value} {base : Heap} {k : Nat} {f : Addr} {fd : FuncData} {ps : List Str} {sp : Sp} (F : FnOk P w K mg base (L2.CX P w) k f fd ps sp) : FnOk P w K mg base CX0 k f fd ps (fun vs H Q _ => sp vs H Q fun _ _ _ => False) :=
  ⟨fun vs H Q E h => F.len _ _ _ _ h, fun A outer s H args us vs Q E hr e0 hb hv h => codeAny_mono (F.run A outer s H args us vs Q (fun _ _ _ => False) hr e0 hb hv h) fun r s' hq => by
    cases r with
    | ok fl => cases fl <;> exact hq
    | error e =>
      obtain ⟨_, _, _, _, _, _, _, _, _, _, _, _, z⟩ := hq
      exact z⟩
section
variable {P : Program} {w : World} {K : PySem.W.Frag} {mg : Str → Option Value} {base : Heap}
/-! ### in_order -/
def spInOrd (K : PySem.W.Frag) (T : List (Addr × Str)) : Sp := fun vs H Q _ => ∃ (a : Addr) (xs : List V) (k : V → List Int), vs = [.ref a] ∧ SqL K H a xs ∧ (∀ x ∈ xs, ∃ t, x = V.ref t ∧ H t = some (.tup ((k x).map V.int))) ∧ Tabs T H ∧
  ∀ H' p ys, ExtN H H' → Tabs T H' → ys.Perm xs → (ys.Pairwise fun u v => lotLe (k u) (k v) = true) → H' p = some (.tup ys) → Q (.ref p) H'
theorem scInOrd : FnScope ["lots"] ["lots"] (defScope sInOrder) := ⟨rfl, rfl, rfl, by decide +kernel, rfl, by decide +kernel, by decide +kernel⟩
theorem ok_inOrd {cd P1 P2 f : Addr} {fd : FuncData} (F : FunC K "in_order" "in_order" sInOrder f fd cd) (T : Bi mg) (TB : TabB base mg cd P2) (hmT : (P2, qIO) ∈ T2 P1 P2) (hu : ∀ p ∈ T2 P1 P2, p.1 = P2 → p.2 = qIO) : FnOk P w K mg base CX0 2 f fd ["lots"] (spInOrd K (T2 P1 P2)) := by
  refine F.ok scInOrd (fun vs H Q E h => ?_) (fun A outer s H vs Q E hr h => ?_)
  · obtain ⟨a, xs, k, rfl, _⟩ := h
    rfl
  · refine ⟨_, pss_one (ps_ret (pe_callTy call_tuple_of (by rfl) T.tuple (by decide +kernel) (pa_cons (pe_sortLots hr.depth hr.units (by rfl) T.sorted T.len (pv 0) TB rfl hmT hu rfl rfl rfl rfl (by decide +kernel) rfl rfl rfl (fun _ _ _ _ _ => rfl)) pa_nil))), ?_⟩
    obtain ⟨a, xs, k, rfl, hs, hx, hT, q⟩ := h
    refine ⟨_, rfl, a, xs, k, rfl, hs, hx, hT, fun H2 p ys eN tb pm pw np => ⟨p, ys, rfl, .inl ⟨SqL.of upd_same, fun t ht => ?_⟩⟩⟩
    have s1 : Same H2 (upd (upd H2 p (.lst ys)) t (.tup ys)) := ((Same.refl H2).new np).new ht
    exact q _ t ys (eN.trans (ExtN.of s1)) (tb.ext s1) pm pw upd_same
/-! ### lots_of -/
def spLotsOf (K : PySem.W.Frag) (T : List (Addr × Str)) : Sp := fun vs H Q _ => ∃ n : Nat, vs = [.int n] ∧ 1 ≤ n ∧ n ≤ 8 ∧ Tabs T H ∧
  ∀ (p : Addr) (xs : List V) (kf : V → List Int) (H' : Hp), ExtN H H' → Tabs T H' → H' p = some (.tup xs) → LotsAt H' xs kf → (xs.map kf).Perm (lotsN n) → (xs.Pairwise fun u v => lotLe (kf u) (kf v) = true) → Q (.ref p) H'
abbrev nLotsOf : List Str := ["many", "lots", "bar", "lot"]
theorem scLotsOf : FnScope nLotsOf ["many"] (defScope sLotsOf) := ⟨rfl, rfl, rfl, by decide +kernel, rfl, by decide +kernel, by decide +kernel⟩
theorem ok_lotsOf {P1 P2 f fN fI : Addr} {fd fdN fdI : FuncData} (F : Fun K "lots_of" "lots_of" sLotsOf f fd) (T : Bi mg) (N : Nm mg) (NV : DefAt P w K mg base CX0 3 "want_number" ["value", "least", "most", "part"] spNumV fN fdN) (IO : DefAt P w K mg base CX0 2 "in_order" ["lots"] (spInOrd K (T2 P1 P2)) fI fdI) : FnOk P w K mg base CX0 4 f fd ["many"] (spLotsOf K (T2 P1 P2)) := by
  refine F.ok scLotsOf (fun vs H Q E h => ?_) (fun cdv A outer s H vs Q E hr h => ?_)
  · obtain ⟨n, rfl, _⟩ := h
    rfl
  · have nd := scLotsOf.nd
    obtain ⟨t8, h8⟩ := N.mostB
    refine ⟨_, pss_cons (ps_expr (pe_call NV.ok hr rfl NV.g NV.kp NV.b .nil pass0 (pa_cons (pv 0) (pa_cons pe_int (pa_cons (pe_glob (v := .int 8) rfl h8 ⟨_, rfl⟩) (pa_cons pe_str pa_nil))))))
      (pss_cons (ps_set (i := 1) nd rfl (Or.inl rfl) (pe_lst (pa_cons (pe_tup pa_nil) pa_nil)))
      (pss_cons (ps_for PassesOwn.never rfl (pi_range1 (by rfl) T.range (pa_cons (pv 0) pa_nil)) (pg_name (i := 2) nd rfl (Or.inr rfl)) (pss_one (ps_set (i := 1) nd rfl (Or.inl rfl) (pe_op op_cat (pv 1) (pe_lc (own := [("lot", 3)]) (g := gName 3) (tt := tYes) (te := tOp (rCatA K) (tVar 3) (tTup (tCons (tVar 2) tNil))) rfl nd (pi_list (pv 1))
        (blkOk_by (N := nLotsOf) (sc := defScope sLotsOf) (by decide +kernel)) (fun _ _ _ _ _ => pg_name (i := 3) nd rfl (Or.inl rfl)) (fun _ _ _ _ _ => pts_nil) (fun _ _ _ _ _ => pe_op op_catA (pv 3) (pe_tup (pa_cons (pv 2) pa_nil))))))))
      (pss_one (ps_ret (pe_call IO.ok (hr.mono (by decide)) rfl IO.g IO.kp IO.b .nil pass0 (pa_cons (pv 1) pa_nil)))))), ?_⟩
    obtain ⟨n, rfl, n1, n8, tab, q⟩ := h
    refine ⟨_, rfl, n, 1, 8, "many", rfl, by omega, by omega, ?_⟩
    refine ⟨(by show 0 ≤ sizeLine; decide), fun e0 he0 => ⟨(by show 1 ≤ sizeLine; decide), fun l0 hl0 => ?_⟩⟩
    have s0 : Same H (upd (upd H e0 (.tup [])) l0 (.lst [.ref e0])) := ((Same.refl H).new he0).new hl0
    have he1 : upd (upd H e0 (.tup [])) l0 (.lst [.ref e0]) e0 = some (.tup []) := by rw [upd_ne (ne_of_none upd_same hl0), upd_same]
    refine ⟨_, rfl, _, rfl, by omega, by omega, ?_⟩
    refine for_range (lo := 0) (n := ((n : Nat) : Int).toNat) (fun i σ H' => ∃ (l : Addr) (t : Option V) (xs : List V), σ = [some (.int n), some (.ref l), t, none] ∧ Same H H' ∧ H' l = some (.lst xs) ∧ TL H' xs (lotsN i))
      ⟨l0, none, [.ref e0], rfl, s0, upd_same, .cons ⟨e0, rfl, he1⟩ .nil⟩ ?_ ?_
    · rintro i σ H' hi ⟨l, t, xs, rfl, s1, h1, tl⟩
      have hi8 : i < 8 := by omega
      have hxl : xs.length = 2 ^ i := by rw [par_len tl, lotsN_length]
      have h256 : 2 ^ i ≤ 128 := Nat.pow_le_pow_right (by decide) (show i ≤ 7 by omega)
      rw [Int.zero_add]
      refine ⟨_, rfl, _, rfl, l, rfl, ⟨_, SqL.of h1⟩, fun D hD => ?_⟩
      refine lc_list (K := K) (a := l) (xs := xs) (fun j H2 => Same H' H2 ∧ ∃ ys, H2 D = some (.lst ys) ∧ TL H2 ys (((lotsN i).take j).map (· ++ [(i : Int)]))) ⟨(Same.refl H').new hD, [], upd_same, .nil⟩ (fun j H2 _ p => p.1.seq (SqL.of h1)) ?_ ?_
      · rintro j y H2 hj ⟨s2, ys, h2, yl⟩
        obtain ⟨ns, hns, a, rfl, ha⟩ := par_get tl hj
        have ha2 := s2 _ _ ha
        have hjl : j < (lotsN i).length := (List.getElem?_eq_some_iff.mp hns).1
        have hyl : ys.length < sizeLine := by
          have := lotsN_length i
          rw [par_len yl, List.length_map, List.length_take]
          exact sm (by omega)
        have fin : ∀ (c : Addr) (H3 : Hp), Same H2 H3 → H3 c = some (.tup ((ns ++ [(i : Int)]).map V.int)) → ∃ acc, H3 D = some (.lst acc) ∧ acc.length < sizeLine ∧ (Same H' (upd H3 D (.lst (acc ++ [.ref c]))) ∧ ∃ zs, upd H3 D (.lst (acc ++ [.ref c])) D = some (.lst zs) ∧ TL (upd H3 D (.lst (acc ++ [.ref c]))) zs (((lotsN i).take (j + 1)).map (· ++ [(i : Int)]))) := by
          intro c H3 s3 hc
          have s4 : ∀ (q : Addr) (us : List V), H3 q = some (.tup us) → upd H3 D (.lst (ys ++ [.ref c])) q = some (.tup us) := fun q us hq => by
            rw [upd_ne fun e => ?_]
            · exact hq
            · rw [e, s3 _ _ h2] at hq
              cases hq
          refine ⟨ys, s3 _ _ h2, hyl, (s2.trans s3).mut hD, _, upd_same, ?_⟩
          rw [← take_snoc hns, List.map_append]
          exact par_app (par_imp (fun _ _ ⟨q, e, hq⟩ => ⟨q, e, s4 _ _ hq⟩) (yl.same s3)) (.cons ⟨c, rfl, s4 _ _ hc⟩ .nil)
        refine ⟨rfl, _, rfl, _, rfl, (by show 1 ≤ sizeLine; decide), fun b hb => ⟨a, b, ns.map V.int, [.int i], rfl, rfl, .inl (.inl (by rw [upd_ne (ne_of_none ha2 hb)]; exact ha2)), .inl (.inl upd_same), ?_, fun e => ?_, (fun _ z => by cases z), fun _ _ p hp => ?_⟩⟩
        · have := lotsN_len i ns (List.mem_of_getElem? hns)
          rw [List.length_map, List.length_singleton]
          exact Nat.le_of_lt (sm (by omega))
        · have e' : ns = [] := by cases ns with
            | nil => rfl
            | cons _ _ => cases e
          subst e'
          exact fin b _ ((Same.refl H2).new hb) upd_same
        · refine fin p _ (((Same.refl H2).new hb).new hp) ?_
          rw [upd_same, List.map_append]
          rfl
      · rintro H2 ⟨s2, ys, h2, yl⟩
        have eh : xs.length = (lotsN i).length := par_len tl
        rw [eh, List.take_length] at yl
        refine ⟨l, D, _, _, rfl, rfl, s2 _ _ h1, h2, ?_, fun p hp => ⟨p, _, _, rfl, (s1.trans s2).new hp, upd_same, ?_⟩⟩
        · rw [par_len yl, List.length_map, ← eh]
          exact Nat.le_of_lt (sm (by omega))
        · have s3 : Same H2 (upd H2 p (.lst (xs ++ ys))) := (Same.refl H2).new hp
          rw [lotsN_succ]
          exact par_app (tl.same (s2.trans s3)) (yl.same s3)
    · rintro σ H' ⟨l, t, xs, rfl, s1, h1, tl⟩
      rw [Int.toNat_natCast] at tl
      refine ⟨_, rfl, l, xs, cont H', rfl, SqL.of h1, fun x hx => ?_, tab.ext s1, fun H2 p ys eN tb pm pw hp => ?_⟩
      · obtain ⟨ns, _, a, rfl, ha⟩ := par_mem tl hx
        exact ⟨a, rfl, by rw [cont_at ha]; exact ha⟩
      · have e2 : xs.map (cont H') = lotsN n := par_map (fun a b ⟨t, e, h⟩ => by rw [e, cont_at h]) tl
        refine q p ys (cont H') H2 ((ExtN.of s1).trans eN) tb hp (fun x hx => ?_) (by rw [← e2]; exact pm.map _) pw
        obtain ⟨ns, _, a, rfl, ha⟩ := par_mem tl (pm.mem_iff.mp hx)
        exact ⟨a, rfl, by rw [cont_at ha]; exact eN _ _ ha (fun _ z => nomatch z)⟩
/-! ### lots_less -/
def lessN (ns : List Int) (i : Nat) : List (List Int) := (List.range i).map fun j => ns.take j ++ ns.drop (j + 1)
theorem lessN_succ (ns : List Int) (i : Nat) : lessN ns (i + 1) = lessN ns i ++ [ns.take i ++ ns.drop (i + 1)] := by
  unfold lessN
  rw [List.range_succ, List.map_append]
  rfl
theorem lessN_len (ns : List Int) (i : Nat) : (lessN ns i).length = i := by unfold lessN; rw [List.length_map, List.length_range]
def spLess (K : PySem.W.Frag) : Sp := fun vs H Q _ => ∃ (a : Addr) (ns : List Int), vs = [.ref a] ∧ H a = some (.tup (ns.map V.int)) ∧ ns.length ≤ 8 ∧ ∀ (p : Addr) (xs : List V) (H' : Hp), H p = none → Same H H' → H' p = some (.lst xs) → TL H' xs (lessN ns ns.length) → Q (.ref p) H'
abbrev nLess : List Str := ["lot", "at"]
theorem scLess : FnScope nLess ["lot"] (defScope sLotsLess) := ⟨rfl, rfl, rfl, by decide +kernel, rfl, by decide +kernel, by decide +kernel⟩
theorem ok_less {f : Addr} {fd : FuncData} (F : Fun K "lots_less" "lots_less" sLotsLess f fd) (T : Bi mg) : FnOk P w K mg base CX0 2 f fd ["lot"] (spLess K) := by
  refine F.ok scLess (fun vs H Q E h => ?_) (fun cdv A outer s H vs Q E hr h => ?_)
  · obtain ⟨a, ns, rfl, _⟩ := h
    rfl
  · have nd := scLess.nd
    refine ⟨_, pss_one (ps_ret (pe_lc (own := [("at", 1)]) (g := gName 1) (tt := tYes) (te := tOp (rCatA K) (L2.tSl (rSlA K) (tVar 0) tNoPart (tPart (tVar 1))) (L2.tSl (rSlA K) (tVar 0) (tPart (tOp (rI0 fun i j => .int (i + j)) (tVar 1) (tC (.int 1)))) tNoPart)) rfl nd
        (pi_range1 (by rfl) T.range (pa_cons (pe_callB call_len_seq (by rfl) T.len PySem.boot_len (pa_cons (pv 0) pa_nil)) pa_nil))
        (blkOk_by (N := nLess) (sc := defScope sLotsLess) (by decide +kernel)) (fun _ _ _ _ _ => pg_name (i := 1) nd rfl (Or.inl rfl)) (fun _ _ _ _ _ => pts_nil) (fun _ _ _ _ _ => pe_op op_catA (pe_slice sl_tupA (pv 0) po_none (po_some (pv 1))) (pe_slice sl_tupA (pv 0) (po_some (pe_op op_add (pv 1) pe_int)) po_none)))), ?_⟩
    obtain ⟨a, ns, rfl, ha, n8, q⟩ := h
    refine ⟨_, rfl, a, _, rfl, .inr (.inl (.inl ha)), ?_⟩
    rw [List.length_map]
    refine ⟨_, rfl, by omega, by omega, fun D hD => ?_⟩
    refine lc_range (lo := 0) (n := ((ns.length : Nat) : Int).toNat) (fun i H' => Same H H' ∧ ∃ ys, H' D = some (.lst ys) ∧ TL H' ys (lessN ns i)) ⟨(Same.refl H).new hD, [], upd_same, .nil⟩ ?_ ?_
    · rintro i H' hi ⟨s2, ys, h2, yl⟩
      rw [Int.zero_add]
      have hi8 : i < ns.length := by omega
      refine ⟨rfl, _, rfl, _, rfl, _, rfl, sl_to (.inl (.inl (s2 _ _ ha))) hi8 fun t1 n1 => ?_⟩
      have s1 : Same H' (upd H' t1 (.tup ((ns.take i).map V.int))) := (Same.refl H').new n1
      have h1 : upd H' t1 (.tup ((ns.take i).map V.int)) t1 = some (.tup ((ns.take i).map V.int)) := upd_same
      generalize upd H' t1 (.tup ((ns.take i).map V.int)) = H1 at s1 h1 ⊢
      refine ⟨_, rfl, _, rfl, _, _, rfl, rfl, _, rfl, ?_⟩
      dsimp only [tNoPart]
      refine sl_from (.inl (.inl ((s2.trans s1) _ _ ha))) (i := i) (by omega) (by omega) fun t4 n4 => ?_
      have s4 : Same H1 (upd H1 t4 (.tup ((ns.drop (i + 1)).map V.int))) := (Same.refl H1).new n4
      have h4 : upd H1 t4 (.tup ((ns.drop (i + 1)).map V.int)) t4 = some (.tup ((ns.drop (i + 1)).map V.int)) := upd_same
      generalize upd H1 t4 (.tup ((ns.drop (i + 1)).map V.int)) = H4 at s4 h4 ⊢
      refine catI (s4 _ _ h1) h4 (by simp only [List.length_take, List.length_drop]; omega) fun t5 H5 h5 s5 => ?_
      have s25 : Same H' H5 := (s1.trans s4).trans s5
      have hD5 := s25 _ _ h2
      have nD : t5 ≠ D := fun e => by
        rw [e, hD5] at h5
        cases h5
      refine ⟨ys, hD5, by rw [par_len yl, lessN_len]; exact sm (by omega), (s2.trans s25).mut hD, _, upd_same, ?_⟩
      rw [lessN_succ]
      have s6 : ∀ (q : Addr) (us : List V), H5 q = some (.tup us) → upd H5 D (.lst (ys ++ [.ref t5])) q = some (.tup us) := fun q us hq => by
        rw [upd_ne fun e => ?_]
        · exact hq
        · rw [e, hD5] at hq
          cases hq
      exact par_app (par_imp (fun _ _ ⟨q, e, hq⟩ => ⟨q, e, s6 _ _ hq⟩) (yl.same s25)) (.cons ⟨t5, rfl, s6 _ _ h5⟩ .nil)
    · rintro H' ⟨s2, ys, h2, yl⟩
      rw [Int.toNat_natCast] at yl
      exact q D ys H' hD s2 h2 yl
end
end K
set_option maxHeartbeats 1000000
namespace K
open PySem L2 Rg LamX
/-! ### one order of all lots -/
theorem dec_str (a b : Str) : decide (V.str a = V.str b) = decide (a = b) := by
  by_cases e : a = b
  · rw [e]; simp
  · rw [decide_eq_false e, decide_eq_false fun z => e (V.str.inj z)]
def lotK (l : List Int) : List Int := (l.length : Int) :: l
def LLe (u v : List Int) : Prop := HT.lexLt (lotK v) (lotK u) = false
theorem lex_nil2 : HT.lexLt [] [] = false := rfl
theorem lex_nc (y : Int) (ys : List Int) : HT.lexLt [] (y :: ys) = true := rfl
theorem lexLt_anti : ∀ a b : List Int, HT.lexLt a b = false → HT.lexLt b a = false → a = b
  | [], [], _, _ => rfl
  | [], _ :: _, h, _ => by rw [lex_nc] at h; cases h
  | _ :: _, [], _, h => by rw [lex_nc] at h; cases h
  | x :: a, y :: b, h, g => by
    rw [HT.lexLt_cons] at h g
    by_cases e : x = y
    · subst e
      rw [if_pos rfl] at h g
      rw [lexLt_anti a b h g]
    · rw [if_neg e] at h
      rw [if_neg fun z => e z.symm] at g
      have := of_decide_eq_false h
      have := of_decide_eq_false g
      omega
theorem LLe.anti {u v : List Int} (h : LLe u v) (g : LLe v u) : u = v := by
  have := lexLt_anti _ _ g h
  unfold lotK at this
  exact (List.cons.inj this).2
theorem ints_lt : ∀ a b : List Int, PyProof.Rows.lexLt PyProof.Rows.itemOrd (PySem.W.keyToksAll (a.map PyData.int)) (PySem.W.keyToksAll (b.map PyData.int)) = HT.lexLt a b
  | [], [] => by rw [lex_nil2]; exact PyProof.Rows.lex_irrefl _
  | [], y :: b => by
    rw [lex_nc, List.map_nil, List.map_cons, PySem.W.keyToksAll, PySem.W.keyToksAll, PyProof.Rows.lex_diff (by simp)]
    decide +kernel
  | x :: a, [] => by
    rw [HT.lexLt_cons_nil, List.map_nil, List.map_cons, PySem.W.keyToksAll, PySem.W.keyToksAll, PyProof.Rows.lex_diff (by simp)]
    decide +kernel
  | x :: a, y :: b => by
    rw [List.map_cons, List.map_cons, PySem.W.dataLt_cons (by simp [PySem.W.alike]), HT.lexLt_cons, PySem.W.dataLt_int, ints_lt a b]
    by_cases e : x = y
    · rw [if_pos e, if_pos (by simp [PyData.eqv, e])]
    · rw [if_neg e, if_neg (by simp [PyData.eqv, e])]
theorem lot_lt (a b : List Int) : PySem.W.dataLt (lotKey a) (lotKey b) = HT.lexLt (lotK a) (lotK b) := by
  unfold lotKey lotK
  rw [PySem.W.dataLt_pair (by simp [PySem.W.alike]) (by simp [PySem.W.alike, PySem.W.alike_ints]), HT.lexLt_cons, PySem.W.dataLt_int, PySem.W.dataLt_tuple, ints_lt]
  by_cases e : (a.length : Int) = (b.length : Int)
  · rw [if_pos (by simp only [PyData.eqv]; exact beq_iff_eq.mpr e), if_pos e]
    by_cases c : a = b
    · subst c
      rw [if_pos (by simp [PyData.eqv, Rg.eqvA_ints8])]
      rw [← ints_lt]
      exact (PyProof.Rows.lex_irrefl _).symm
    · rw [if_neg (by simp [PyData.eqv, Rg.eqvA_ints8, c])]
  · rw [if_neg (by simp only [PyData.eqv]; exact fun z => e (eq_of_beq z)), if_neg e]
theorem lotLe_iff {u v : List Int} : lotLe u v = true ↔ LLe u v := by
  unfold lotLe LLe
  rw [lot_lt]
  cases HT.lexLt (lotK v) (lotK u) <;> simp
theorem uniq_of {α : Type} {R : α → α → Prop} (anti : ∀ a b, R a b → R b a → a = b) : ∀ {xs ys : List α}, xs.Perm ys → xs.Pairwise R → ys.Pairwise R → xs = ys
  | [], ys, p, _, _ => (List.nil_perm.mp p).symm
  | x :: xs, [], p, _, _ => by cases p.length_eq
  | x :: xs, y :: ys, p, hx, hy => by
    rw [List.pairwise_cons] at hx hy
    have e : x = y := by
      have m1 : y ∈ x :: xs := p.mem_iff.mpr (List.mem_cons_self ..)
      have m2 : x ∈ y :: ys := p.mem_iff.mp (List.mem_cons_self ..)
      rcases List.mem_cons.mp m1 with z | z
      · exact z.symm
      · rcases List.mem_cons.mp m2 with z' | z'
        · exact z'
        · exact anti _ _ (hx.1 _ z) (hy.1 _ z')
    subst e
    rw [uniq_of anti p.cons_inv hx.2 hy.2]
/-- all lots, in order -/
structure AllL (n : Nat) (L : List (List Int)) : Prop where
  pm : L.Perm (lotsN n)
  od : L.Pairwise LLe
theorem AllL.eq {n : Nat} {L M : List (List Int)} (a : AllL n L) (b : AllL n M) : L = M := uniq_of (fun _ _ => LLe.anti) (a.pm.trans b.pm.symm) a.od b.od
theorem AllL.filter {n : Nat} {L M : List (List Int)} (a : AllL n L) {p : List Int → Bool} (pm : M.Perm ((lotsN n).filter p)) (od : M.Pairwise LLe) : M = L.filter p := uniq_of (fun _ _ => LLe.anti) (pm.trans (a.pm.filter _).symm) od (a.od.filter _)
theorem AllL.len {n : Nat} {L : List (List Int)} (a : AllL n L) : L.length = 2 ^ n := by rw [a.pm.length_eq, lotsN_length]
/-! ### unlike lots -/
def unl (ls ms l : List Int) : Bool := !decide (sortV ls l = sortV ms l)
def shortB (ls l : List Int) : Bool := decide (sortV ls l = "short")
theorem unl_sym (ls ms l : List Int) : unl ls ms l = unl ms ls l := by
  unfold unl
  congr 1
  by_cases e : sortV ls l = sortV ms l
  · rw [decide_eq_true e, decide_eq_true e.symm]
  · rw [decide_eq_false e, decide_eq_false fun z => e z.symm]
theorem rest_short {ls l : List Int} (h : Lot ls.length l) : (sortV ls (restN ls.length l ls.length) = "short" ↔ sortV ls l = "long") := by
  rw [sort_rest (rest_sum h)]
  unfold opp
  rcases sort_cases ls l with ⟨_, e⟩ | ⟨_, e⟩ | ⟨_, e⟩ <;> rw [e]
  · simp only [if_neg (show ¬ (("level" : Str) = "short") from fun z => ne_sv z.symm), if_neg (show ¬ (("level" : Str) = "long") from fun z => ne_lv z.symm)]
    exact ⟨fun z => absurd z.symm ne_sv, fun z => absurd z.symm ne_lv⟩
  · simp only [if_pos]
    exact ⟨fun z => absurd z.symm ne_sl, fun z => absurd z ne_sl⟩
  · simp only [if_neg (show ¬ (("long" : Str) = "short") from fun z => ne_sl z.symm), if_pos]
theorem same_sorts {ls ms : List Int} (e : ls.length = ms.length) (h : ∀ l ∈ lotsN ls.length, shortB ls l = shortB ms l) : ∀ l ∈ lotsN ls.length, sortV ls l = sortV ms l := fun l hl => by
  have lot := lotsN_lot hl
  have lot2 : Lot ms.length l := by rw [← e]; exact lot
  have s1 : sortV ls l = "short" ↔ sortV ms l = "short" := by
    have := h l hl
    unfold shortB at this
    rw [decide_eq_decide] at this
    exact this
  have s2 : sortV ls l = "long" ↔ sortV ms l = "long" := by
    rw [← rest_short lot, ← rest_short lot2]
    have := h _ (nat_lots (fun j => !hasB l j) ls.length)
    unfold shortB at this
    rw [decide_eq_decide] at this
    rw [← e]
    exact this
  rcases sort_cases ls l with ⟨_, a⟩ | ⟨_, a⟩ | ⟨_, a⟩
  · rcases sort_cases ms l with ⟨_, b⟩ | ⟨_, b⟩ | ⟨_, b⟩
    · rw [a, b]
    · exact absurd (a.symm.trans (s1.mpr b)).symm ne_sv
    · exact absurd (a.symm.trans (s2.mpr b)).symm ne_lv
  · rw [a, s1.mp a]
  · rw [a, s2.mp a]
theorem filter_same {p q : List Int → Bool} {L : List (List Int)} (h : L.filter p = L.filter q) : ∀ l ∈ L, p l = q l := fun l hl => by
  cases c : p l with
  | true =>
    have m : l ∈ L.filter p := List.mem_filter.mpr ⟨hl, c⟩
    rw [h] at m
    exact (List.mem_filter.mp m).2.symm
  | false =>
    cases d : q l with
    | false => rfl
    | true =>
      have m : l ∈ L.filter q := List.mem_filter.mpr ⟨hl, d⟩
      rw [← h] at m
      rw [(List.mem_filter.mp m).2] at c
      cases c
/-- the books are the same just if no lot is unlike -/
theorem books {ls ms : List Int} {L : List (List Int)} (e : ls.length = ms.length) (a : AllL ls.length L) : decide (L.filter (shortB ls) = L.filter (shortB ms)) = (L.filter (unl ls ms)).isEmpty := by
  by_cases c : L.filter (shortB ls) = L.filter (shortB ms)
  · rw [decide_eq_true c]
    have h := same_sorts e fun l hl => filter_same c l (a.pm.mem_iff.mpr hl)
    have z : L.filter (unl ls ms) = [] := List.filter_eq_nil_iff.mpr fun l hl => by
      unfold unl
      rw [decide_eq_true (h l (a.pm.mem_iff.mp hl))]
      decide
    rw [z]
    rfl
  · rw [decide_eq_false c]
    cases d : L.filter (unl ls ms) with
    | cons _ _ => rfl
    | nil =>
      exfalso
      refine c (List.filter_congr fun l hl => ?_)
      have := List.filter_eq_nil_iff.mp d l hl
      unfold unl at this
      have e2 : sortV ls l = sortV ms l := by
        by_cases z : sortV ls l = sortV ms l
        · exact z
        · rw [decide_eq_false z] at this
          exact absurd rfl this
      unfold shortB
      rw [e2]
end K
namespace K
open PySem L2 Rg LamX
open Evl (pss_cut)
/-! ### lists of tuples of numbers, as data -/
theorem tl_dp {K : PySem.W.Frag} {H : Hp} : ∀ {xs : List V} {nss : List (List Int)}, TL H xs nss → DpAll K H xs (nss.map fun ns => PyData.tuple (ns.map PyData.int))
  | _, _, .nil => .nil
  | _, _, .cons ⟨a, e, h⟩ t => by
    subst e
    exact .cons (.tup (.inl (.inl h)) (dp_ints _)) (tl_dp t)
theorem tl_lay : ∀ nss : List (List Int), PyData.canLayAll0 (nss.map fun ns => PyData.tuple (ns.map PyData.int)) = true
  | [] => by simp [PyData.canLayAll0]
  | ns :: nss => by simp [PyData.canLayAll0, PyData.canLay0, lay_ints ns, tl_lay nss]
theorem tl_deep : ∀ nss : List (List Int), PyData.depthAll (nss.map fun ns => PyData.tuple (ns.map PyData.int)) ≤ 1
  | [] => by simp [PyData.depthAll]
  | ns :: nss => by
    have := tl_deep nss
    simp [PyData.depthAll, PyData.depth, deep_ints ns]
    omega
theorem tl_shaped (nss : List (List Int)) : SeqAt.shaped (.list (nss.map fun ns => PyData.tuple (ns.map PyData.int))) = true := by
  have := tl_deep nss
  simp [SeqAt.shaped, PyData.canLay0, PyData.depth, tl_lay nss]
  omega
theorem eqv_tup (a b : List Int) : PyData.eqv (.tuple (a.map PyData.int)) (.tuple (b.map PyData.int)) = decide (a = b) := by
  simp [PyData.eqv, Rg.eqvA_ints8]
theorem sh_tup (l : List Int) : SeqAt.shaped (.tuple (l.map PyData.int)) = true := by
  simp [SeqAt.shaped, PyData.canLay0, PyData.depth, lay_ints l, deep_ints l]
theorem TL.ext {H H' : Hp} {xs : List V} {nss : List (List Int)} (h : TL H xs nss) (e : ExtN H H') : TL H' xs nss := par_imp (fun _ _ ⟨a, q, z⟩ => ⟨a, q, e _ _ z (fun _ z => nomatch z)⟩) h
theorem TL.mut {H : Hp} {D : Addr} {us ws : List V} {xs : List V} {nss : List (List Int)} (h : TL H xs nss) (hD : H D = some (.lst us)) : TL (upd H D (.lst ws)) xs nss := par_imp (fun _ _ ⟨a, q, z⟩ => ⟨a, q, by
  rw [upd_ne fun e => ?_]
  · exact z
  · rw [e, hD] at z
    cases z⟩) h
theorem tl_at {H : Hp} {xs : List V} {nss : List (List Int)} (h : TL H xs nss) {i : Nat} {ns : List Int} (e : nss[i]? = some ns) : ∃ a, xs[i]? = some (.ref a) ∧ H a = some (.tup (ns.map V.int)) := by
  have hi : i < xs.length := by rw [par_len h]; exact (List.getElem?_eq_some_iff.mp e).1
  obtain ⟨y, h1, a, h2, h3⟩ := par_get h (List.getElem?_eq_getElem hi)
  rw [e] at h1
  cases h1
  exact ⟨a, by rw [List.getElem?_eq_getElem hi, h2], h3⟩

theorem tl_nil (nss : List (List Int)) : PyData.eqv (.list (nss.map fun ns => PyData.tuple (ns.map PyData.int))) (.list []) = nss.isEmpty := by
  cases nss <;> simp [PyData.eqv, PyData.eqvAll] <;> rfl
theorem tl_eqA : ∀ nss mss : List (List Int), PyData.eqvAll (nss.map fun ns => PyData.tuple (ns.map PyData.int)) (mss.map fun ns => PyData.tuple (ns.map PyData.int)) = decide (nss = mss)
  | [], [] => by simp [PyData.eqvAll]
  | [], _ :: _ => by simp [PyData.eqvAll]
  | _ :: _, [] => by simp [PyData.eqvAll]
  | ns :: nss, ms :: mss => by
    have e := eqv_tup ns ms
    rw [List.map_cons, List.map_cons, PyData.eqvAll, e, tl_eqA nss mss]
    by_cases c : ns = ms <;> by_cases d : nss = mss <;> simp [c, d]
theorem tl_eqT (nss mss : List (List Int)) : PyData.eqv (.tuple (nss.map fun ns => PyData.tuple (ns.map PyData.int))) (.tuple (mss.map fun ns => PyData.tuple (ns.map PyData.int))) = decide (nss = mss) := by
  rw [← tl_eqA]
  simp [PyData.eqv]
theorem tl_shapedT (nss : List (List Int)) : SeqAt.shaped (.tuple (nss.map fun ns => PyData.tuple (ns.map PyData.int))) = true := by
  have := tl_deep nss
  simp [SeqAt.shaped, PyData.canLay0, PyData.depth, tl_lay nss]
  omega

theorem tl_any (L : List (List Int)) (m : List Int) : ((L.map fun ns => PyData.tuple (ns.map PyData.int)).any fun z => PyData.eqv z (.tuple (m.map PyData.int))) = decide (m ∈ L) := by
  rw [List.any_map]
  by_cases h : m ∈ L
  · rw [decide_eq_true h, List.any_eq_true]
    exact ⟨m, h, by rw [Function.comp_apply, eqv_tup]; exact decide_eq_true rfl⟩
  · rw [decide_eq_false h, List.any_eq_false]
    intro x hx
    rw [Function.comp_apply, eqv_tup]
    intro z
    rw [of_decide_eq_true z] at hx
    exact h hx
theorem less_lot {n : Nat} {ns : List Int} (h : Lot n ns) {i : Nat} {m : List Int} (hm : m ∈ lessN ns i) : Lot n m ∧ m.length ≤ ns.length := by
  obtain ⟨j, _, rfl⟩ := List.mem_map.mp hm
  have sub : (ns.take j ++ ns.drop (j + 1)).Sublist ns := by
    have e : ns.take j ++ ns.drop j = ns := List.take_append_drop j ns
    have d : (ns.drop (j + 1)).Sublist (ns.drop j) := by
      rw [← List.drop_drop]
      exact List.drop_sublist ..
    have z := List.Sublist.append (List.Sublist.refl (ns.take j)) d
    rw [e] at z
    exact z
  exact ⟨⟨h.1.sublist sub, fun b hb => h.2 b (sub.subset hb)⟩, sub.length_le⟩
def longB (ls l : List Int) : Bool := decide (sortV ls l = "long")
def levB (ls l : List Int) : Bool := decide (sortV ls l = "level")
/-- those within which no other one lies, by one bar less -/
def leastF (G : List (List Int)) : List (List Int) := G.filter fun l => !((lessN l l.length).any fun m => decide (m ∈ G))
/-- those that are not another one less a bar -/
def greatF (G : List (List Int)) : List (List Int) := G.filter fun l => !decide (l ∈ G.flatMap fun s => lessN s s.length)
theorem lots_tl {H : Hp} {kf : V → List Int} : ∀ {xs : List V}, LotsAt H xs kf → TL H xs (xs.map kf)
  | [], _ => .nil
  | x :: xs, h => .cons (h x (List.mem_cons_self ..)) (lots_tl fun y hy => h y (List.mem_cons_of_mem _ hy))
theorem AllL.of_lots {n : Nat} {xs : List V} {kf : V → List Int} (pm : (xs.map kf).Perm (lotsN n)) (pw : xs.Pairwise fun u v => lotLe (kf u) (kf v) = true) : AllL n (xs.map kf) := ⟨pm, List.pairwise_map.mpr (pw.imp fun h => lotLe_iff.mp h)⟩
section
variable {P : Program} {w : World} {K : PySem.W.Frag} {mg : Str → Option Value} {base : Heap}
theorem RingW.ext {C : Addr} {H H' : Hp} {r : Addr} {ls : List Int} (h : RingW K C H r ls) (s : ExtN H H') : RingW K C H' r ls := by
  obtain ⟨dx, t, h1, h2⟩ := h
  refine ⟨dx, t, s _ _ h1 (fun _ z => nomatch z), ?_⟩
  rcases h2 with (h2 | ⟨o, h2⟩) | h2
  · exact .inl (.inl (s _ _ h2 (fun _ z => nomatch z)))
  · exact .inl (.inr ⟨o, s _ _ h2 (fun _ z => nomatch z)⟩)
  · exact .inr h2
structure MethV (P : Program) (w : World) (K : PySem.W.Frag) (mg : Str → Option Value) (base : Heap) (C : Addr) (x : Str) (ps : List Str) (sp : Sp) (f : Addr) (fd : FuncData) : Prop where
  m : Meth K C x f
  ok : FnOk P w K mg base CX0 6 f fd ps sp
  b : Binds K fd ps []
def spSortV (K : PySem.W.Frag) (C : Addr) : Sp := fun vs H Q _ => ∃ (r a : Addr) (ls ns : List Int), vs = [.ref r, .ref a] ∧ RingW K C H r ls ∧ ls.length ≤ 8 ∧ H a = some (.tup (ns.map V.int)) ∧ Lot ls.length ns ∧ ns.length ≤ 8 ∧ ∀ H', Same H H' → Q (.str (sortV ls ns)) H'
theorem ok_sortVal {C f : Addr} {c : Cs} {fd : FuncData} (F : FnOk P w K mg base (L2.CX P w) 6 f fd ["self", "lot"] (spSortOf K C c)) : FnOk P w K mg base CX0 6 f fd ["self", "lot"] (spSortV K C) :=
  (fn_calm F).imp fun vs H Q E ⟨r, a, ls, ns, hv, ring, l8, ha, lot, n8, q⟩ => ⟨r, .ref a, ls, hv, ring, l8, LotV.tpl ha lot n8 q⟩
/-! ### lots_by_sort -/
def spBy (K : PySem.W.Frag) (C : Addr) (T : List (Addr × Str)) : Sp := fun vs H Q _ => ∃ (r : Addr) (ls : List Int) (z : Str), vs = [.ref r, .str z] ∧ RingW K C H r ls ∧ 3 ≤ ls.length ∧ ls.length ≤ 8 ∧ Tabs T H ∧
  ∀ (p : Addr) (xs : List V) (kf : V → List Int) (H' : Hp), ExtN H H' → Tabs T H' → H' p = some (.tup xs) → LotsAt H' xs kf → (xs.map kf).Perm ((lotsN ls.length).filter fun l => decide (sortV ls l = z)) → (xs.Pairwise fun u v => lotLe (kf u) (kf v) = true) → Q (.ref p) H'
abbrev nBy : List Str := ["ring", "sort", "lot"]
theorem scBy : FnScope nBy ["ring", "sort"] (defScope sLotsBySort) := ⟨rfl, rfl, rfl, by decide +kernel, rfl, by decide +kernel, by decide +kernel⟩
theorem ok_by {C f fA fS fN : Addr} {fd fdA fdS fdN : FuncData} {P1 P2 : Addr} (F : Fun K "lots_by_sort" "lots_by_sort" sLotsBySort f fd) (T : Bi mg) (R : RingC K mg C) (LO : DefAt P w K mg base CX0 4 "lots_of" ["many"] (spLotsOf K (T2 P1 P2)) fA fdA)
    (M : MethV P w K mg base C "sort_of" ["self", "lot"] (spSortV K C) fS fdS) (NM : Meth K C "__len__" fN) (NL : FnOk P w K mg base CX0 1 fN fdN ["self"] (spRLen K C)) (NB : Binds K fdN ["self"] []) : FnOk P w K mg base CX0 7 f fd ["ring", "sort"] (spBy K C (T2 P1 P2)) := by
  refine F.ok scBy (fun vs H Q E h => ?_) (fun cdv A outer s H vs Q E hr h => ?_)
  · obtain ⟨r, ls, z, rfl, _⟩ := h
    rfl
  · have nd := scBy.nd
    refine ⟨_, pss_one (ps_ret (pe_callTy call_tuple_of (by rfl) T.tuple (by decide +kernel) (pa_cons (pe_lc (own := [("lot", 2)]) (g := gName 2) (te := tVar 2) rfl nd (pi_tup (pe_call LO.ok (hr.mono (by decide)) rfl LO.g LO.kp LO.b .nil pass0 (pa_cons (pe_callB (call_lenO NL (hr.mono (by decide)) NB) (by rfl) T.len PySem.boot_len (pa_cons (pv 0) pa_nil)) pa_nil)))
        (blkOk_by (N := nBy) (sc := defScope sLotsBySort) (by decide +kernel)) (fun _ _ _ _ _ => pg_name (i := 2) nd rfl (Or.inl rfl)) (fun _ _ _ _ _ => pts_one (pt_cmpR op_eq (pe_meth (pv 0) R.cl M.m M.ok hr M.b .nil pass0 (pa_cons (pv 2) pa_nil)) (pv 1) (nomark _))) (fun _ _ _ _ _ => pv 2)) pa_nil))), ?_⟩
    obtain ⟨r, ls, z, rfl, ring, l3, l8, tab, q⟩ := h
    obtain ⟨dx, t, hr0, ht⟩ := id ring
    have noS : (rf t ls).lookup ("sort_of" : Str) = none := rf_no _ _ (by decide +kernel) (by decide +kernel) (by decide +kernel) (by decide +kernel)
    refine ⟨_, rfl, r, C, dx, _, rfl, hr0, NM.at_, NM.fn, r, ls, rfl, ring, _, rfl, by omega, by omega, ?_⟩
    refine ⟨ls.length, rfl, by omega, l8, tab, fun p xs kf H1 e1 tab1 hp la pm pw => ⟨p, rfl, ⟨_, .inl (.inl hp)⟩, fun D hD => ?_⟩⟩
    have ring1 := ring.ext e1
    have hr1 := e1 _ _ hr0 (fun _ z => nomatch z)
    have xl : xs.length ≤ 256 := by
      have e := pm.length_eq
      rw [List.length_map, lotsN_length] at e
      rw [e]
      exact Nat.pow_le_pow_right (by decide) (show ls.length ≤ 8 from l8)
    refine lc_tup (K := K) (a := p) (xs := xs) (fun i H' => Same H1 H' ∧ H' D = some (.lst ((xs.take i).filter fun x => decide (sortV ls (kf x) = z)))) ⟨(Same.refl H1).new hD, upd_same⟩ (fun i H' _ q => .inl (.inl (q.1 _ _ hp))) ?_ ?_
    · rintro i x H' hi ⟨s2, h2⟩
      have hx := List.mem_of_getElem? hi
      have hil : i < xs.length := (List.getElem?_eq_some_iff.mp hi).1
      obtain ⟨a, rfl, ha⟩ := la x hx
      have lot := lotsN_lot (pm.mem_iff.mp (List.mem_map.mpr ⟨_, hx, rfl⟩))
      refine ⟨rfl, _, rfl, r, dx, _, rfl, s2 _ _ hr1, noS, _, rfl, r, a, ls, kf (.ref a), rfl, ring1.same s2, l8, s2 _ _ ha, lot, Nat.le_trans (lot_len lot) l8, fun H6 s6 => ⟨_, rfl, rfl, _, rfl, ?_⟩⟩
      rw [dec_str, ← take_snoc hi, List.filter_append]
      have h6 := s6 _ _ h2
      cases e : decide (sortV ls (kf (.ref a)) = z) with
      | true =>
        refine iteT ⟨_, rfl, _, h6, ?_, (s2.trans s6).mut hD, ?_⟩
        · have := List.length_filter_le (fun x => decide (sortV ls (kf x) = z)) (xs.take i)
          rw [List.length_take] at this
          exact sm (by omega)
        · rw [upd_same]
          simp [List.filter, e]
      | false =>
        refine iteF ⟨s2.trans s6, ?_⟩
        rw [h6]
        simp [List.filter, e]
    · rintro H2 ⟨s2, h2⟩
      rw [List.take_length] at h2
      refine ⟨D, _, rfl, .inl ⟨SqL.of h2, fun t2 ht2 => ?_⟩⟩
      have s3 : Same H1 (upd H2 t2 (.tup (xs.filter fun x => decide (sortV ls (kf x) = z)))) := s2.trans ((Same.refl H2).new ht2)
      refine q t2 _ kf _ (e1.trans (ExtN.of s3)) (tab1.ext s3) upd_same (fun x hx => ?_) ?_ (List.Pairwise.filter _ pw)
      · obtain ⟨a, e, ha⟩ := la x (List.mem_filter.mp hx).1
        exact ⟨a, e, s3 _ _ ha⟩
      · rw [show (fun x => decide (sortV ls (kf x) = z)) = (fun l => decide (sortV ls l = z)) ∘ kf from rfl, ← List.filter_map]
        exact pm.filter _
/-! ### the lots that are told of a ring -/
def spTold (K : PySem.W.Frag) (C cR : Addr) (T : List (Addr × Str)) (f : List Int → List (List Int) → List (List Int)) : Sp := fun vs H Q E => ∃ v : V, vs = [v] ∧ ((∃ (r : Addr) (ls : List Int), v = .ref r ∧ RingW K C H r ls ∧ 3 ≤ ls.length ∧ ls.length ≤ 8 ∧ Tabs T H ∧
  ∀ (p : Addr) (xs : List V) (nss : List (List Int)) (H' : Hp), ExtN H H' → Tabs T H' → H' p = some (.tup xs) → TL H' xs nss → (∀ L, AllL ls.length L → nss = f ls L) → Q (.ref p) H') ∨ (NoR K C H v ∧ Errs E cR "part" (.str "ring") H))
theorem scShort : FnScope ["ring"] ["ring"] (defScope sShortLots) := ⟨rfl, rfl, rfl, by decide +kernel, rfl, by decide +kernel, by decide +kernel⟩
theorem ok_short {C cR f fW fB : Addr} {fd fdW fdB : FuncData} {P1 P2 : Addr} (F : Fun K "short_lots" "short_lots" sShortLots f fd) (W : DefAt P w K mg base (L2.CX P w) 3 "want_ring" ["value", "part"] (spWantR K C cR) fW fdW) (BY : DefAt P w K mg base CX0 7 "lots_by_sort" ["ring", "sort"] (spBy K C (T2 P1 P2)) fB fdB) : FnOk P w K mg base (L2.CX P w) 8 f fd ["ring"] (spTold K C cR (T2 P1 P2) fun ls L => L.filter (shortB ls)) := by
  refine F.okX scShort (fun vs H Q E h => ?_) (fun cdv A outer s H vs Q E hr h => ?_)
  · obtain ⟨v, rfl, _⟩ := h
    rfl
  · refine ⟨_, pss_cons (ps_expr (pe_call W.ok (hr.mono (by decide)) rfl W.g W.kp W.b .nil (passes_call (takes_of rfl rfl rfl rfl) (fun _ _ _ _ h => h)) (pa_cons (pv 0) (pa_cons pe_str pa_nil))))
      (pss_one (ps_ret (pe_call BY.ok hr rfl BY.g BY.kp BY.b .nil pass0 (pa_cons (pv 0) (pa_cons pe_str pa_nil))))), ?_⟩
    obtain ⟨v, rfl, ⟨r, ls, rfl, ring, l3, l8, tab, q⟩ | ⟨no, er⟩⟩ := h
    · refine ⟨_, rfl, _, "ring", rfl, .inl ⟨r, ls, rfl, ring, _, rfl, r, ls, "short", rfl, ring, l3, l8, tab, fun p xs kf H' e t hp la pm pw => ?_⟩⟩
      exact q p xs (xs.map kf) H' e t hp (lots_tl la) fun L aL => aL.filter pm (List.pairwise_map.mpr (pw.imp fun h => lotLe_iff.mp h))
    · exact ⟨_, rfl, _, "ring", rfl, .inr ⟨no, er⟩⟩
theorem scLevel : FnScope ["ring"] ["ring"] (defScope sLevelLots) := ⟨rfl, rfl, rfl, by decide +kernel, rfl, by decide +kernel, by decide +kernel⟩
theorem ok_level {C cR f fW fB : Addr} {fd fdW fdB : FuncData} {P1 P2 : Addr} (F : Fun K "level_lots" "level_lots" sLevelLots f fd) (W : DefAt P w K mg base (L2.CX P w) 3 "want_ring" ["value", "part"] (spWantR K C cR) fW fdW) (BY : DefAt P w K mg base CX0 7 "lots_by_sort" ["ring", "sort"] (spBy K C (T2 P1 P2)) fB fdB) : FnOk P w K mg base (L2.CX P w) 8 f fd ["ring"] (spTold K C cR (T2 P1 P2) fun ls L => L.filter (levB ls)) := by
  refine F.okX scLevel (fun vs H Q E h => ?_) (fun cdv A outer s H vs Q E hr h => ?_)
  · obtain ⟨v, rfl, _⟩ := h
    rfl
  · refine ⟨_, pss_cons (ps_expr (pe_call W.ok (hr.mono (by decide)) rfl W.g W.kp W.b .nil (passes_call (takes_of rfl rfl rfl rfl) (fun _ _ _ _ h => h)) (pa_cons (pv 0) (pa_cons pe_str pa_nil))))
      (pss_one (ps_ret (pe_call BY.ok hr rfl BY.g BY.kp BY.b .nil pass0 (pa_cons (pv 0) (pa_cons pe_str pa_nil))))), ?_⟩
    obtain ⟨v, rfl, ⟨r, ls, rfl, ring, l3, l8, tab, q⟩ | ⟨no, er⟩⟩ := h
    · refine ⟨_, rfl, _, "ring", rfl, .inl ⟨r, ls, rfl, ring, _, rfl, r, ls, "level", rfl, ring, l3, l8, tab, fun p xs kf H' e t hp la pm pw => ?_⟩⟩
      exact q p xs (xs.map kf) H' e t hp (lots_tl la) fun L aL => aL.filter pm (List.pairwise_map.mpr (pw.imp fun h => lotLe_iff.mp h))
    · exact ⟨_, rfl, _, "ring", rfl, .inr ⟨no, er⟩⟩
/-! ### least_long -/
def scLLo : Scope := { kind := .function, names := [(Str.ofString ".0", .local), (Str.ofString "lot", .local), (Str.ofString "any", .globalImplicit), (Str.ofString "lots_less", .globalImplicit), (Str.ofString "longs", .free)], isGenerator := false, isCoroutine := false }
abbrev nLL : List Str := ["ring", "longs", "lot", "less"]
theorem scLL : FnScope nLL ["ring"] (defScope sLeastLong) := ⟨rfl, rfl, rfl, by decide +kernel, rfl, by decide +kernel, by decide +kernel⟩
theorem ok_ll {C cR f fW fB fL : Addr} {fd fdW fdB fdL : FuncData} {P1 P2 : Addr} (F : Fun K "least_long" "least_long" sLeastLong f fd) (T : Bi mg) (W : DefAt P w K mg base (L2.CX P w) 3 "want_ring" ["value", "part"] (spWantR K C cR) fW fdW) (BY : DefAt P w K mg base CX0 7 "lots_by_sort" ["ring", "sort"] (spBy K C (T2 P1 P2)) fB fdB)
    (LL : DefAt P w K mg base CX0 2 "lots_less" ["lot"] (spLess K) fL fdL) : FnOk P w K mg base (L2.CX P w) 8 f fd ["ring"] (spTold K C cR (T2 P1 P2) fun ls L => leastF (L.filter (longB ls))) := by
  refine F.okX scLL (fun vs H Q E h => ?_) (fun cdv A outer s H vs Q E hr h => ?_)
  · obtain ⟨v, rfl, _⟩ := h
    rfl
  · have nd := scLL.nd
    have hu65 : (A.deeper (PyProof.Rows.envOfC "least_long" (defScope sLeastLong) s.heap.objs.size f cdv)).units + 65 < cLine := by have := hr.un; omega
    refine ⟨_, pss_cons (ps_expr (pe_call W.ok (hr.mono (by decide)) rfl W.g W.kp W.b .nil (passes_call (takes_of rfl rfl rfl rfl) (fun _ _ _ _ h => h)) (pa_cons (pv 0) (pa_cons pe_str pa_nil))))
      (pss_cons (ps_set (i := 1) nd rfl (Or.inr rfl) (pe_call BY.ok hr rfl BY.g BY.kp BY.b .nil pass0 (pa_cons (pv 0) (pa_cons pe_str pa_nil))))
      (pss_one (ps_ret (pe_callTy call_tuple_of (by rfl) T.tuple (by decide +kernel) (pa_cons (pe_lc (own := [("lot", 2)]) (g := gName 2) (tt := tNot (tB (tCB (rAny K) (tCons (tLc (iList K (tCall (spLess K) [] E0 (tCons (tVar 2) tNil))) (gName 3) tYes (tOp (rInDT K) (tVar 3) (tVar 1)) [3]) tNil)))) (te := tVar 2) rfl nd (pi_tup (pv 1)) (blkOk_by (N := nLL) (sc := defScope sLeastLong) (by decide +kernel)) (fun _ _ _ _ _ => pg_name (i := 2) nd rfl (Or.inl rfl))
        (fun _ _ _ _ _ => pts_one (pt_not (pt_val (pe_callB (r := rAny K) (cr_any rfl) (by rfl) T.any (by decide +kernel) (pa_cons (pe_lc (own := [("less", 3)]) (g := gName 3) (tt := tYes) (te := tOp (rInDT K) (tVar 3) (tVar 1)) rfl nd (pi_list (pe_call LL.ok (hr.mono (by decide)) rfl LL.g LL.kp LL.b .nil pass0 (pa_cons (pv 2) pa_nil)))
          (blkOk_by (N := nLL) (sc := relS scLLo (defScope sLeastLong)) (by decide +kernel)) (fun _ _ _ _ _ => pg_name (i := 3) nd rfl (Or.inl rfl)) (fun _ _ _ _ _ => pts_nil) (fun _ _ _ _ _ => pe_cmpR (op_inDT hu65) (pv 3) (pv 1) (by rfl))) pa_nil))))) (fun _ _ _ _ _ => pv 2)) pa_nil))))), ?_⟩
    obtain ⟨v, rfl, ⟨r, ls, rfl, ring, l3, l8, tab, q⟩ | ⟨no, er⟩⟩ := h
    · refine ⟨_, rfl, _, "ring", rfl, .inl ⟨r, ls, rfl, ring, ?_⟩⟩
      refine ⟨_, rfl, r, ls, "long", rfl, ring, l3, l8, tab, fun p xs kf H1 e1 tab1 hp la pm pw => ?_⟩
      have xl : xs.length ≤ 256 := by
        have e := pm.length_eq
        rw [List.length_map] at e
        rw [e]
        refine Nat.le_trans (List.length_filter_le ..) ?_
        rw [lotsN_length]
        exact Nat.pow_le_pow_right (by decide) (show ls.length ≤ 8 from l8)
      refine ⟨_, rfl, p, rfl, ⟨_, .inl (.inl hp)⟩, fun D hD => ?_⟩
      obtain ⟨kp, hkp⟩ : ∃ kp : List Int → Bool, kp = fun l => !((lessN l l.length).any fun m => decide (m ∈ xs.map kf)) := ⟨_, rfl⟩
      refine lc_tup (K := K) (a := p) (xs := xs) (fun i H' => Same H1 H' ∧ H' D = some (.lst ((xs.take i).filter fun x => kp (kf x)))) ⟨(Same.refl H1).new hD, upd_same⟩ (fun i H' _ q => .inl (.inl (q.1 _ _ hp))) ?_ ?_
      · rintro i x H' hi ⟨s2, h2⟩
        have hx := List.mem_of_getElem? hi
        have hil : i < xs.length := (List.getElem?_eq_some_iff.mp hi).1
        obtain ⟨a, rfl, ha⟩ := la x hx
        have lot := lotsN_lot (List.mem_filter.mp (pm.mem_iff.mp (List.mem_map.mpr ⟨_, hx, rfl⟩))).1
        have n8 : (kf (.ref a)).length ≤ 8 := Nat.le_trans (lot_len lot) l8
        refine ⟨rfl, _, rfl, a, kf (.ref a), rfl, s2 _ _ ha, n8, fun m ys H3 _ s3 h3 tl => ⟨m, rfl, ⟨_, SqL.of h3⟩, fun D2 hD2 => ?_⟩⟩
        have s23 := s2.trans s3
        have rk := lessN_len (kf (.ref a)) (kf (.ref a)).length
        refine lc_list (K := K) (a := m) (xs := ys) (fun j H' => Same H3 H' ∧ H' D2 = some (.lst ((((lessN (kf (.ref a)) (kf (.ref a)).length).take j).map fun z => decide (z ∈ xs.map kf)).map V.bl))) ⟨(Same.refl H3).new hD2, upd_same⟩ (fun j H' _ q => SqL.of (q.1 _ _ h3)) ?_ ?_
        · rintro j y H' hj ⟨s4, h4⟩
          obtain ⟨ns, hns, b, rfl, hb⟩ := par_get tl hj
          have hjl : j < (lessN (kf (.ref a)) (kf (.ref a)).length).length := (List.getElem?_eq_some_iff.mp hns).1
          have s24 := s23.trans s4
          refine ⟨rfl, _, rfl, _, rfl, _, _, .tup (.inl (.inl (s4 _ _ hb))) (dp_ints ns), .tup (.inl (.inl (s24 _ _ hp))) (tl_dp (lots_tl (la.same s24))), sh_tup _, tl_shapedT _, _, h4, ?_, s4.mut hD2, ?_⟩
          · rw [List.length_map, List.length_map, List.length_take]
            exact sm (by omega)
          · rw [upd_same, ← take_snoc hns, List.map_append, List.map_append, tl_any]
            rfl
        · rintro H4 ⟨s4, h4⟩
          have eh : ys.length = (lessN (kf (.ref a)) (kf (.ref a)).length).length := par_len tl
          rw [eh, List.take_length] at h4
          refine ⟨D2, _, rfl, SqL.of h4, _, rfl, ?_⟩
          have ev : (!((((lessN (kf (.ref a)) (kf (.ref a)).length).map fun z => decide (z ∈ xs.map kf)).any id))) = kp (kf (.ref a)) := by
            rw [hkp, List.any_map]
            rfl
          show (if (!((((lessN (kf (.ref a)) (kf (.ref a)).length).map fun z => decide (z ∈ xs.map kf)).any id))) = true then _ else _)
          rw [ev, ← take_snoc hi, List.filter_append]
          have s24 := s3.trans s4
          have h2' := s24 _ _ h2
          cases e : kp (kf (.ref a)) with
          | true =>
            refine iteT ⟨_, rfl, _, h2', ?_, (s2.trans s24).mut hD, ?_⟩
            · have := List.length_filter_le (fun x => kp (kf x)) (xs.take i)
              rw [List.length_take] at this
              exact sm (by omega)
            · rw [upd_same]
              simp [List.filter, e]
          | false =>
            refine iteF ⟨s2.trans s24, ?_⟩
            rw [h2']
            simp [List.filter, e]
      · rintro H2 ⟨s2, h2⟩
        rw [List.take_length] at h2
        refine ⟨D, _, rfl, .inl ⟨SqL.of h2, fun t2 ht2 => ?_⟩⟩
        have s3 : Same H1 (upd H2 t2 (.tup (xs.filter fun x => kp (kf x)))) := s2.trans ((Same.refl H2).new ht2)
        refine q t2 _ ((xs.map kf).filter kp) _ (e1.trans (ExtN.of s3)) (tab1.ext s3) upd_same ?_ fun L aL => ?_
        · rw [List.filter_map]
          exact lots_tl fun x hx => by
            obtain ⟨a, e, ha⟩ := la x (List.mem_filter.mp hx).1
            exact ⟨a, e, s3 _ _ ha⟩
        · have eL : xs.map kf = L.filter (longB ls) := aL.filter pm (List.pairwise_map.mpr (pw.imp fun h => lotLe_iff.mp h))
          rw [hkp, eL]
          rfl
    · exact ⟨_, rfl, _, "ring", rfl, .inr ⟨no, er⟩⟩
/-! ### greatest_short -/
/-- any loop over a walk: what a turn does is told by what is to hold behind it -/
theorem walk_any {J : It} {n : Nat} {G : Hp → Prop} {Y : Nat → Hp → V → Hp → Prop} (w : Walk J n G Y) {T : V → Hp → (Hp → Prop) → Prop} {H0 : Hp} {Qd : Hp → Prop} (Pv : Nat → Hp → Prop) (h0 : Pv 0 H0) (hG : ∀ i H, i ≤ n → Pv i H → G H)
    (hs : ∀ i x H H', i < n → Pv i H → Y i H x H' → T x H' (Pv (i + 1))) (hd : ∀ H, Pv n H → Qd H) :
    ∃ W : Nat → Nat → Hp → Prop, (∃ m, W 0 m H0) ∧ ∀ i m H, W i m H →
      (J.stop i H ∧ Qd H) ∨ (J.go i H ∧ ∃ Nx : Hp → Prop, (∀ H', Nx H' → ∃ m', m' < m ∧ W (i + 1) m' H') ∧ ∀ x H', J.yld i H x H' → T x H' Nx) := by
  refine ⟨fun i m H => m = n - i ∧ i ≤ n ∧ Pv i H, ⟨n, by simp, Nat.zero_le _, h0⟩, ?_⟩
  rintro i m H ⟨rfl, hi, p⟩
  have q := hG i H hi p
  by_cases hlt : i < n
  · exact .inr ⟨w.goes i H hlt q, Pv (i + 1), fun H' p' => ⟨n - (i + 1), by omega, rfl, hlt, p'⟩, fun x H' y => hs i x H H' hlt p (w.yields i H x H' hlt q y)⟩
  · have e : i = n := by omega
    subst e
    exact .inl ⟨w.stops H q, hd H p⟩
theorem less_many {S : List (List Int)} (h : ∀ l ∈ S, l.length ≤ 8) : (S.flatMap fun s => lessN s s.length).length ≤ 8 * S.length := by
  induction S with
  | nil => simp
  | cons l S ih =>
    rw [List.flatMap_cons, List.length_append, lessN_len, List.length_cons]
    have h1 := h l (List.mem_cons_self ..)
    have h2 := ih fun x hx => h x (List.mem_cons_of_mem _ hx)
    omega
abbrev nGS : List Str := ["ring", "shorts", "within", "lot", "less"]
theorem scGS : FnScope nGS ["ring"] (defScope sGreatestShort) := ⟨rfl, rfl, rfl, by decide +kernel, rfl, by decide +kernel, by decide +kernel⟩
theorem ok_gs {C cR f fW fB fL : Addr} {fd fdW fdB fdL : FuncData} {P1 P2 : Addr} (F : Fun K "greatest_short" "greatest_short" sGreatestShort f fd) (T : Bi mg) (W : DefAt P w K mg base (L2.CX P w) 3 "want_ring" ["value", "part"] (spWantR K C cR) fW fdW) (BY : DefAt P w K mg base CX0 7 "lots_by_sort" ["ring", "sort"] (spBy K C (T2 P1 P2)) fB fdB)
    (LL : DefAt P w K mg base CX0 2 "lots_less" ["lot"] (spLess K) fL fdL) : FnOk P w K mg base (L2.CX P w) 8 f fd ["ring"] (spTold K C cR (T2 P1 P2) fun ls L => greatF (L.filter (shortB ls))) := by
  refine F.okX scGS (fun vs H Q E h => ?_) (fun cdv A outer s H vs Q E hr h => ?_)
  · obtain ⟨v, rfl, _⟩ := h
    rfl
  · have nd := scGS.nd
    have hu65 : (A.deeper (PyProof.Rows.envOfC "greatest_short" (defScope sGreatestShort) s.heap.objs.size f cdv)).units + 65 < cLine := by have := hr.un; omega
    refine ⟨_, pss_cons (ps_expr (pe_call W.ok (hr.mono (by decide)) rfl W.g W.kp W.b .nil (passes_call (takes_of rfl rfl rfl rfl) (fun _ _ _ _ h => h)) (pa_cons (pv 0) (pa_cons pe_str pa_nil))))
      (pss_cons (ps_set (i := 1) nd rfl (Or.inl rfl) (pe_call BY.ok hr rfl BY.g BY.kp BY.b .nil pass0 (pa_cons (pv 0) (pa_cons pe_str pa_nil))))
      (pss_cons (ps_set (i := 2) nd rfl (Or.inr rfl) (pe_lc2 (own := [("lot", 3), ("less", 4)]) (vs1 := [4]) (g := gName 3) (g1 := gName 4) (tt := tYes) (tt1 := tYes) (wi1 := iList K (tCall (spLess K) [] E0 (tCons (tVar 3) tNil))) (te := tVar 4) rfl nd (pi_tup (pv 1)) (blkOk_by (N := nGS) (sc := defScope sGreatestShort) (by decide +kernel)) (by decide)
        (fun _ _ _ _ _ => pg_name (i := 3) nd rfl (Or.inl rfl)) (fun _ _ _ _ _ => pts_nil) (fun _ _ _ _ _ => pi_list (pe_call LL.ok (hr.mono (by decide)) rfl LL.g LL.kp LL.b .nil pass0 (pa_cons (pv 3) pa_nil))) (fun _ _ _ _ _ => pg_name (i := 4) nd rfl (Or.inl rfl)) (fun _ _ _ _ _ => pts_nil) (fun _ _ _ _ _ => pv 4)))
      (pss_one (ps_ret (pe_callTy call_tuple_of (by rfl) T.tuple (by decide +kernel) (pa_cons (pe_lc (own := [("lot", 3)]) (g := gName 3) (tt := tTest (tOp (rNotInD K) (tVar 3) (tVar 2))) (te := tVar 3) rfl nd (pi_tup (pv 1)) (blkOk_by (N := nGS) (sc := defScope sGreatestShort) (by decide +kernel)) (fun _ _ _ _ _ => pg_name (i := 3) nd rfl (Or.inl rfl))
        (fun _ _ _ _ _ => pts_one (pt_cmpR (op_notInD hu65) (pv 3) (pv 2) (by rfl))) (fun _ _ _ _ _ => pv 3)) pa_nil)))))), ?_⟩
    obtain ⟨v, rfl, ⟨r, ls, rfl, ring, l3, l8, tab, q⟩ | ⟨no, er⟩⟩ := h
    · refine ⟨_, rfl, _, "ring", rfl, .inl ⟨r, ls, rfl, ring, ?_⟩⟩
      refine ⟨_, rfl, r, ls, "short", rfl, ring, l3, l8, tab, fun p xs kf H1 e1 tab1 hp la pm pw => ?_⟩
      have xl : xs.length ≤ 256 := by
        have e := pm.length_eq
        rw [List.length_map] at e
        rw [e]
        refine Nat.le_trans (List.length_filter_le ..) ?_
        rw [lotsN_length]
        exact Nat.pow_le_pow_right (by decide) (show ls.length ≤ 8 from l8)
      have lot : ∀ x ∈ xs, Lot ls.length (kf x) := fun x hx => lotsN_lot (List.mem_filter.mp (pm.mem_iff.mp (List.mem_map.mpr ⟨_, hx, rfl⟩))).1
      have n8 : ∀ x ∈ xs, (kf x).length ≤ 8 := fun x hx => Nat.le_trans (lot_len (lot x hx)) l8
      refine ⟨_, rfl, p, rfl, ⟨_, .inl (.inl hp)⟩, fun D hD => ?_⟩
      refine walk_any walk_tup (fun i H' => Same H1 H' ∧ ∃ ws, H' D = some (.lst ws) ∧ TL H' ws (((xs.take i).map kf).flatMap fun s => lessN s s.length)) ⟨(Same.refl H1).new hD, [], upd_same, .nil⟩ (fun i H' _ q => .inl (.inl (q.1 _ _ hp))) ?_ ?_
      · rintro i x H' H'' hi ⟨s2, ws, h2, tl2⟩ ⟨rfl, hx⟩
        have hxm := List.mem_of_getElem? hx
        obtain ⟨a, rfl, ha⟩ := la x hxm
        refine ⟨rfl, _, rfl, a, kf (.ref a), rfl, s2 _ _ ha, n8 _ hxm, fun m ys H3 nm0 s3 h3 tl3 => ⟨m, rfl, ⟨_, SqL.of h3⟩, ?_⟩⟩
        have s23 := s2.trans s3
        have lw : (((xs.take i).map kf).flatMap fun s => lessN s s.length).length ≤ 2048 := by
          refine Nat.le_trans (less_many fun l hl => ?_) ?_
          · obtain ⟨y, hy, rfl⟩ := List.mem_map.mp hl
            exact n8 y (List.mem_of_mem_take hy)
          · rw [List.length_map, List.length_take]
            omega
        have rk := lessN_len (kf (.ref a)) (kf (.ref a)).length
        have k8 := n8 _ hxm
        refine walk_any walk_list (fun j H' => Same H1 H' ∧ H' m = some (.lst ys) ∧ TL H' ys (lessN (kf (.ref a)) (kf (.ref a)).length) ∧ ∃ ws, H' D = some (.lst ws) ∧ TL H' ws ((((xs.take i).map kf).flatMap fun s => lessN s s.length) ++ (lessN (kf (.ref a)) (kf (.ref a)).length).take j)) ⟨s23, h3, tl3, ws, s3 _ _ h2, by rw [List.take_zero, List.append_nil]; exact tl2.same s3⟩ (fun j H' _ q => SqL.of q.2.1) ?_ ?_
        · rintro j y H4 H5 hj ⟨s4, h4, tl4, ws4, h4', tlw⟩ ⟨rfl, hy⟩
          obtain ⟨ns, hns, b, rfl, hb⟩ := par_get tl4 hy
          have nm : m ≠ D := fun e => by
            rw [e, h2] at nm0
            cases nm0
          refine ⟨rfl, _, rfl, ws4, h4', ?_, s4.mut hD, by rw [upd_ne nm]; exact h4, tl4.mut h4', _, upd_same, ?_⟩
          · rw [par_len tlw, List.length_append, List.length_take]
            exact szl (by omega)
          · rw [← take_snoc hns, ← List.append_assoc]
            exact par_app (tlw.mut h4') (.cons ⟨b, rfl, by
              rw [upd_ne fun e => ?_]
              · exact hb
              · rw [e, h4'] at hb
                cases hb⟩ .nil)
        · rintro H4 ⟨s4, h4, tl4, ws4, h4', tlw⟩
          refine ⟨s4, ws4, h4', ?_⟩
          have eh : ys.length = (lessN (kf (.ref a)) (kf (.ref a)).length).length := par_len tl4
          rw [eh, List.take_length] at tlw
          rw [← take_snoc hx, List.map_append, List.flatMap_append]
          simpa using tlw
      rintro H2 ⟨s2, ws, h2, tl2⟩
      rw [List.take_length] at tl2
      refine ⟨_, rfl, p, rfl, ⟨_, .inl (.inl (s2 _ _ hp))⟩, fun D3 hD3 => ?_⟩
      obtain ⟨kp, hkp⟩ : ∃ kp : List Int → Bool, kp = fun l => !decide (l ∈ (xs.map kf).flatMap fun s => lessN s s.length) := ⟨_, rfl⟩
      refine lc_tup (K := K) (a := p) (xs := xs) (fun i H' => Same H2 H' ∧ H' D3 = some (.lst ((xs.take i).filter fun x => kp (kf x)))) ⟨(Same.refl H2).new hD3, upd_same⟩ (fun i H' _ q => .inl (.inl (q.1 _ _ (s2 _ _ hp)))) ?_ ?_
      · rintro i x H' hi ⟨s4, h4⟩
        have hx := List.mem_of_getElem? hi
        have hil : i < xs.length := (List.getElem?_eq_some_iff.mp hi).1
        obtain ⟨a, rfl, ha⟩ := la x hx
        refine ⟨rfl, _, rfl, _, rfl, _, _, .tup (.inl (.inl (s4 _ _ (s2 _ _ ha)))) (dp_ints (kf (.ref a))), .lst (SqL.of (s4 _ _ h2)) (tl_dp (tl2.same s4)), sh_tup _, tl_shaped _, _, rfl, ?_⟩
        rw [tl_any]
        have ev : (!decide (kf (.ref a) ∈ (xs.map kf).flatMap fun s => lessN s s.length)) = kp (kf (.ref a)) := by rw [hkp]
        rw [ev, ← take_snoc hi, List.filter_append]
        cases e : kp (kf (.ref a)) with
        | true =>
          refine iteT ⟨_, rfl, _, h4, ?_, s4.mut hD3, ?_⟩
          · have := List.length_filter_le (fun x => kp (kf x)) (xs.take i)
            rw [List.length_take] at this
            exact sm (by omega)
          · rw [upd_same]
            simp [List.filter, e]
        | false =>
          refine iteF ⟨s4, ?_⟩
          rw [h4]
          simp [List.filter, e]
      · rintro H4 ⟨s4, h4⟩
        rw [List.take_length] at h4
        refine ⟨D3, _, rfl, .inl ⟨SqL.of h4, fun t2 ht2 => ?_⟩⟩
        have s14 : Same H1 (upd H4 t2 (.tup (xs.filter fun x => kp (kf x)))) := (s2.trans s4).trans ((Same.refl H4).new ht2)
        refine q t2 _ ((xs.map kf).filter kp) _ (e1.trans (ExtN.of s14)) (tab1.ext s14) upd_same ?_ fun L aL => ?_
        · rw [List.filter_map]
          exact lots_tl fun x hx => by
            obtain ⟨a, e, ha⟩ := la x (List.mem_filter.mp hx).1
            exact ⟨a, e, s14 _ _ ha⟩
        · have eL : xs.map kf = L.filter (shortB ls) := aL.filter pm (List.pairwise_map.mpr (pw.imp fun h => lotLe_iff.mp h))
          rw [hkp, eL]
          rfl
    · exact ⟨_, rfl, _, "ring", rfl, .inr ⟨no, er⟩⟩
end
end K
set_option maxHeartbeats 1000000
namespace K
open PySem L2 Rg LamX
/-! ### one behind another, those that no kept one bars -/
def greedy {α : Type} (R : α → α → Bool) : List α → List α → List α
  | f, [] => f
  | f, l :: r => greedy R (if (f.any fun m => R m l) = true then f else f ++ [l]) r
theorem greedy_eq {α : Type} {R : α → α → Bool} {P : α → Bool} {G : List α} (h : ∀ pre l suf, G = pre ++ l :: suf → ((pre.filter P).any fun m => R m l) = !P l) : greedy R [] G = G.filter P := by
  have gen : ∀ (suf pre : List α), G = pre ++ suf → greedy R (pre.filter P) suf = G.filter P := by
    intro suf
    induction suf with
    | nil => intro pre e; rw [e, List.append_nil]; rfl
    | cons l r ih =>
      intro pre e
      rw [greedy, h pre l r e]
      have e2 : G = (pre ++ [l]) ++ r := by rw [e, List.append_assoc]; rfl
      have := ih (pre ++ [l]) e2
      cases c : P l with
      | true =>
        rw [List.filter_append, List.filter_cons_of_pos c, List.filter_nil] at this
        rw [if_neg (by decide)]
        exact this
      | false =>
        rw [List.filter_append, List.filter_cons_of_neg (by rw [c]; decide), List.filter_nil, List.append_nil] at this
        rw [if_pos (by decide)]
        exact this
  exact gen G [] rfl
/-! ### lots within lots -/
def hasI (b : Int) (l : List Int) : Bool := l.any fun y => decide (y = b)
theorem hasI_iff {b : Int} {l : List Int} : hasI b l = true ↔ b ∈ l := by
  unfold hasI
  rw [List.any_eq_true]
  exact ⟨fun ⟨y, hy, e⟩ => by rw [← of_decide_eq_true e]; exact hy, fun h => ⟨b, h, decide_eq_true rfl⟩⟩
theorem lotsN_asc : ∀ n, ∀ l ∈ lotsN n, l.Pairwise (· < ·)
  | 0, l, h => by rw [List.mem_singleton.mp h]; exact List.Pairwise.nil
  | n + 1, l, h => by
    rcases List.mem_append.mp h with h | h
    · exact lotsN_asc n l h
    · obtain ⟨a, ha, rfl⟩ := List.mem_map.mp h
      rw [List.pairwise_append]
      refine ⟨lotsN_asc n a ha, List.pairwise_singleton _ _, fun x hx y hy => ?_⟩
      have := lotsN_in n a ha x hx
      rw [List.mem_singleton.mp hy]
      omega
theorem lotsN_once : ∀ n, (lotsN n).Nodup
  | 0 => List.nodup_cons.mpr ⟨by simp, List.nodup_nil⟩
  | n + 1 => by
    rw [lotsN_succ, List.nodup_append]
    refine ⟨lotsN_once n, ?_, fun x hx y hy e => ?_⟩
    · exact List.Pairwise.map _ (fun a b h e => h (List.append_cancel_right e)) (lotsN_once n)
    · obtain ⟨a, _, rfl⟩ := List.mem_map.mp hy
      have := lotsN_in n x hx n (by rw [e]; exact List.mem_append_right _ (List.mem_singleton.mpr rfl))
      omega
def canon (n : Nat) (m : List Int) : List Int := natB ((List.range n).filter (hasB m))
theorem canon_perm {n : Nat} {m : List Int} (h : Lot n m) : (canon n m).Perm m := lot_sorted h
theorem canon_mem (n : Nat) (m : List Int) : canon n m ∈ lotsN n := nat_lots _ n
theorem asc_eq {n : Nat} {a b : List Int} (ha : a ∈ lotsN n) (hb : b ∈ lotsN n) (p : a.Perm b) : a = b :=
  sorted_eq p ((lotsN_asc n a ha).imp fun h => by omega) ((lotsN_asc n b hb).imp fun h => by omega)

def subB (a b : List Int) : Bool := (a.filter fun x => !hasI x b).isEmpty
theorem sub_iff {a b : List Int} : subB a b = true ↔ ∀ x ∈ a, x ∈ b := by
  unfold subB
  rw [List.isEmpty_iff, List.filter_eq_nil_iff]
  refine ⟨fun h x hx => ?_, fun h x hx => ?_⟩
  · have := h x hx
    cases e : hasI x b with
    | true => exact hasI_iff.mp e
    | false => rw [e] at this; exact absurd rfl this
  · rw [hasI_iff.mpr (h x hx)]
    decide
theorem asc_lot {n : Nat} {l : List Int} (h : Lot n l) (a : l.Pairwise (· < ·)) : l ∈ lotsN n := by
  have e : canon n l = l := sorted_eq (canon_perm h) ((lotsN_asc n _ (canon_mem n l)).imp fun h => by omega) (a.imp fun h => by omega)
  rw [← e]
  exact canon_mem n l
theorem sub_len {n : Nat} {m l : List Int} (hm : m ∈ lotsN n) (hl : l ∈ lotsN n) (ne : m ≠ l) (s : ∀ x ∈ m, x ∈ l) : m.length < l.length := by
  have nm := (lotsN_lot hm).1
  have nl := (lotsN_lot hl).1
  have p : (l.filter fun x => hasI x m).Perm m := by
    rw [List.perm_ext_iff_of_nodup (nl.filter _) nm]
    intro x
    rw [List.mem_filter, hasI_iff]
    exact ⟨fun h => h.2, fun h => ⟨s x h, h⟩⟩
  have le := List.length_filter_le (fun x => hasI x m) l
  rw [p.length_eq] at le
  rcases Nat.lt_or_ge m.length l.length with h | h
  · exact h
  · exfalso
    have e : l.filter (fun x => hasI x m) = l := by
      rw [List.filter_eq_self]
      exact List.length_filter_eq_length_iff.mp (by rw [p.length_eq]; omega)
    rw [e] at p
    exact ne (asc_eq hm hl p.symm)
theorem getD_pos {ls : List Int} (h0 : ∀ x ∈ ls, 0 ≤ x) (i : Nat) : 0 ≤ ls.getD i 0 := by
  by_cases h : i < ls.length
  · exact h0 _ (getD_mem h)
  · rw [List.getD_eq_getElem?_getD, List.getElem?_eq_none (by omega)]
    decide
theorem lsum_filter {ls : List Int} (h0 : ∀ x ∈ ls, 0 ≤ x) (p : Int → Bool) : ∀ l : List Int, lsum ls (l.filter p) ≤ lsum ls l
  | [] => by simp
  | x :: l => by
    have ih := lsum_filter h0 p l
    have g := getD_pos h0 x.toNat
    have c : lsum ls (x :: l) = ls.getD x.toNat 0 + lsum ls l := by unfold lsum; rw [List.map_cons, List.sum_cons]
    cases e : p x with
    | true =>
      rw [List.filter_cons_of_pos e]
      have c2 : lsum ls (x :: l.filter p) = ls.getD x.toNat 0 + lsum ls (l.filter p) := by unfold lsum; rw [List.map_cons, List.sum_cons]
      omega
    | false =>
      rw [List.filter_cons_of_neg (by rw [e]; decide)]
      omega
theorem lsum_sub {ls : List Int} (h0 : ∀ x ∈ ls, 0 ≤ x) {n : Nat} {m l : List Int} (hm : Lot n m) (hl : Lot n l) (s : ∀ x ∈ m, x ∈ l) : lsum ls m ≤ lsum ls l := by
  have p : (l.filter fun x => hasI x m).Perm m := by
    rw [List.perm_ext_iff_of_nodup (hl.1.filter _) hm.1]
    intro x
    rw [List.mem_filter, hasI_iff]
    exact ⟨fun h => h.2, fun h => ⟨s x h, h⟩⟩
  rw [← lsum_perm p]
  exact lsum_filter h0 _ l
theorem long_up {ls : List Int} (h0 : ∀ x ∈ ls, 0 ≤ x) {n : Nat} {m l : List Int} (hm : Lot n m) (hl : Lot n l) (s : ∀ x ∈ m, x ∈ l) (a : sortV ls m = "long") : sortV ls l = "long" := by
  have le := lsum_sub h0 hm hl s
  rcases sort_cases ls m with ⟨_, e⟩ | ⟨_, e⟩ | ⟨g, _⟩
  · exact absurd (a.symm.trans e) ne_lv
  · exact absurd (e.symm.trans a) ne_sl
  · rcases sort_cases ls l with ⟨g2, _⟩ | ⟨g2, _⟩ | ⟨_, e⟩
    · omega
    · omega
    · exact e
theorem short_down {ls : List Int} (h0 : ∀ x ∈ ls, 0 ≤ x) {n : Nat} {m l : List Int} (hm : Lot n m) (hl : Lot n l) (s : ∀ x ∈ m, x ∈ l) (a : sortV ls l = "short") : sortV ls m = "short" := by
  have le := lsum_sub h0 hm hl s
  rcases sort_cases ls l with ⟨_, e⟩ | ⟨g, _⟩ | ⟨_, e⟩
  · exact absurd (a.symm.trans e) ne_sv
  · rcases sort_cases ls m with ⟨g2, _⟩ | ⟨_, e⟩ | ⟨g2, _⟩
    · omega
    · exact e
    · omega
  · exact absurd (a.symm.trans e) ne_sl
/-! ### one bar less -/
theorem less_sub {l m : List Int} (hm : m ∈ lessN l l.length) : m.Sublist l ∧ m.length + 1 = l.length := by
  obtain ⟨j, hj, rfl⟩ := List.mem_map.mp hm
  rw [List.mem_range] at hj
  refine ⟨?_, ?_⟩
  · rw [← List.eraseIdx_eq_take_drop_succ]
    exact List.eraseIdx_sublist ..
  · rw [← List.eraseIdx_eq_take_drop_succ, List.length_eraseIdx_of_lt hj]
    omega
theorem less_erase {l : List Int} {x : Int} (nd : l.Nodup) (hx : x ∈ l) : ∃ m ∈ lessN l l.length, ∀ y, y ∈ m ↔ (y ∈ l ∧ y ≠ x) := by
  obtain ⟨j, hj, e⟩ := List.mem_iff_getElem.mp hx
  refine ⟨l.take j ++ l.drop (j + 1), List.mem_map.mpr ⟨j, List.mem_range.mpr hj, rfl⟩, fun y => ?_⟩
  rw [← List.eraseIdx_eq_take_drop_succ, List.mem_eraseIdx_iff_getElem]
  constructor
  · rintro ⟨i, hi, h1, h2⟩
    refine ⟨by rw [← h2]; exact List.getElem_mem _, fun z => h1 ?_⟩
    exact (List.getElem_inj nd).mp (by rw [h2, z, e])
  · rintro ⟨h1, h2⟩
    obtain ⟨i, hi, e2⟩ := List.mem_iff_getElem.mp h1
    refine ⟨i, hi, fun z => h2 ?_, e2⟩
    subst z
    rw [← e2, e]
end K
set_option maxHeartbeats 1000000
namespace K
open PySem L2 Rg LamX
/-! ### least and greatest lots, three ways -/
def gmin (G : List (List Int)) (rel : List Int → List Int → Bool) (l : List Int) : Bool := !(G.any fun m => !decide (m = l) && rel m l)
theorem gmin_false {G : List (List Int)} {rel : List Int → List Int → Bool} {l : List Int} : gmin G rel l = false ↔ ∃ m ∈ G, m ≠ l ∧ rel m l = true := by
  unfold gmin
  rw [Bool.not_eq_false', List.any_eq_true]
  constructor
  · rintro ⟨m, hm, h⟩
    rw [Bool.and_eq_true] at h
    exact ⟨m, hm, fun e => by rw [decide_eq_true e] at h; exact absurd h.1 (by decide), h.2⟩
  · rintro ⟨m, hm, ne, h⟩
    exact ⟨m, hm, by rw [decide_eq_false ne, h]; rfl⟩
section
variable {G : List (List Int)} {rel : List Int → List Int → Bool} {rk : List Int → Nat}
theorem gmin_ex (lt : ∀ m ∈ G, ∀ l ∈ G, m ≠ l → rel m l = true → rk m < rk l) (tr : ∀ a ∈ G, ∀ b ∈ G, ∀ c ∈ G, rel a b = true → rel b c = true → rel a c = true) (rr : ∀ a ∈ G, rel a a = true) : ∀ k, ∀ m ∈ G, rk m ≤ k → ∃ m' ∈ G, gmin G rel m' = true ∧ rel m' m = true := by
  intro k
  induction k with
  | zero =>
    intro m hm hk
    refine ⟨m, hm, ?_, rr m hm⟩
    cases e : gmin G rel m with
    | true => rfl
    | false =>
      obtain ⟨m2, h2, ne, r⟩ := gmin_false.mp e
      have := lt m2 h2 m hm ne r
      omega
  | succ k ih =>
    intro m hm hk
    cases e : gmin G rel m with
    | true => exact ⟨m, hm, e, rr m hm⟩
    | false =>
      obtain ⟨m2, h2, ne, r⟩ := gmin_false.mp e
      have := lt m2 h2 m hm ne r
      obtain ⟨m', h', g', r'⟩ := ih m2 h2 (by omega)
      exact ⟨m', h', g', tr _ h' _ h2 _ hm r' r⟩
theorem greedy_min (nd : G.Nodup) (od : G.Pairwise fun u v => rk u ≤ rk v) (lt : ∀ m ∈ G, ∀ l ∈ G, m ≠ l → rel m l = true → rk m < rk l) (tr : ∀ a ∈ G, ∀ b ∈ G, ∀ c ∈ G, rel a b = true → rel b c = true → rel a c = true) (rr : ∀ a ∈ G, rel a a = true) : greedy rel [] G = G.filter (gmin G rel) := by
  refine greedy_eq fun pre l suf e => ?_
  have hl : l ∈ G := by rw [e]; exact List.mem_append_right _ (List.mem_cons_self ..)
  cases c : gmin G rel l with
  | true =>
    rw [List.any_eq_false.mpr fun m hm => ?_]
    · rfl
    · have hp := (List.mem_filter.mp hm).1
      intro r
      have ne : m ≠ l := fun z => by
        rw [e, List.nodup_append] at nd
        exact nd.2.2 m hp l (List.mem_cons_self ..) z
      have := (gmin_false (G := G) (rel := rel) (l := l)).mpr ⟨m, by rw [e]; exact List.mem_append_left _ hp, ne, r⟩
      rw [c] at this
      cases this
  | false =>
    obtain ⟨m2, h2, ne, r⟩ := gmin_false.mp c
    obtain ⟨m', h', g', r'⟩ := gmin_ex lt tr rr (rk m2) m2 h2 (Nat.le_refl _)
    have k1 := lt m2 h2 l hl ne r
    have k2 : rk m' ≤ rk m2 := by
      by_cases z : m' = m2
      · rw [z]; exact Nat.le_refl _
      · exact Nat.le_of_lt (lt _ h' _ h2 z r')
    have hp : m' ∈ pre := by
      have hm := h'
      rw [e] at hm
      rcases List.mem_append.mp hm with z | z
      · exact z
      · exfalso
        rcases List.mem_cons.mp z with z | z
        · rw [z] at k2
          omega
        · rw [e, List.pairwise_append] at od
          have := (List.pairwise_cons.mp od.2.1).1 _ z
          omega
    have rl : rel m' l = true := tr m' h' m2 h2 l hl r' r
    have hh : ((pre.filter (gmin G rel)).any fun m => rel m l) = true := List.any_eq_true.mpr ⟨m', List.mem_filter.mpr ⟨hp, g'⟩, rl⟩
    rw [hh]
    rfl
end
theorem LLe.len {u v : List Int} (h : LLe u v) : u.length ≤ v.length := by
  unfold LLe lotK at h
  rw [HT.lexLt_cons] at h
  by_cases e : (v.length : Int) = u.length
  · omega
  · rw [if_neg e] at h
    have := of_decide_eq_false h
    omega
/-! ### of a ring -/
section
variable {ls : List Int} {L : List (List Int)}
theorem longs_in (aL : AllL ls.length L) {l : List Int} : l ∈ L.filter (longB ls) ↔ l ∈ lotsN ls.length ∧ sortV ls l = "long" := by
  rw [List.mem_filter, aL.pm.mem_iff]
  unfold longB
  rw [decide_eq_true_eq]
theorem shorts_in (aL : AllL ls.length L) {l : List Int} : l ∈ L.filter (shortB ls) ↔ l ∈ lotsN ls.length ∧ sortV ls l = "short" := by
  rw [List.mem_filter, aL.pm.mem_iff]
  unfold shortB
  rw [decide_eq_true_eq]
theorem AllL.nd {n : Nat} {L : List (List Int)} (aL : AllL n L) : L.Nodup := aL.pm.nodup_iff.mpr (lotsN_once n)
def supB (a b : List Int) : Bool := subB b a
/-- the law's least ones -/
theorem least_law (aL : AllL ls.length L) : greedy subB [] (L.filter (longB ls)) = (L.filter (longB ls)).filter (gmin (L.filter (longB ls)) subB) := by
  refine greedy_min (rk := List.length) (aL.nd.filter _) ((aL.od.filter _).imp fun h => h.len) (fun m hm l hl ne r => ?_) (fun a _ b _ c _ r1 r2 => ?_) (fun a _ => sub_iff.mpr fun x hx => hx)
  · exact sub_len ((longs_in aL).mp hm).1 ((longs_in aL).mp hl).1 ne (sub_iff.mp r)
  · exact sub_iff.mpr fun x hx => sub_iff.mp r2 x (sub_iff.mp r1 x hx)
theorem great_law (aL : AllL ls.length L) : greedy supB [] (L.filter (shortB ls)).reverse = ((L.filter (shortB ls)).filter (gmin (L.filter (shortB ls)) supB)).reverse := by
  have h : greedy supB [] (L.filter (shortB ls)).reverse = (L.filter (shortB ls)).reverse.filter (gmin (L.filter (shortB ls)).reverse supB) := by
    refine greedy_min (rk := fun l => ls.length - l.length) ?_ ?_ (fun m hm l hl ne r => ?_) (fun a _ b _ c _ r1 r2 => ?_) (fun a _ => sub_iff.mpr fun x hx => hx)
    · exact (List.reverse_perm _).nodup_iff.mpr (aL.nd.filter _)
    · rw [List.pairwise_reverse]
      exact (aL.od.filter _).imp fun h => by have := h.len; omega
    · have hm' := ((shorts_in aL).mp (List.mem_reverse.mp hm)).1
      have hl' := ((shorts_in aL).mp (List.mem_reverse.mp hl)).1
      have := sub_len hl' hm' (fun z => ne z.symm) (sub_iff.mp r)
      have := lotsN_len _ _ hm'
      omega
    · exact sub_iff.mpr fun x hx => sub_iff.mp r1 x (sub_iff.mp r2 x hx)
  rw [h, List.filter_reverse]
  congr 1
  refine List.filter_congr fun l _ => ?_
  unfold gmin
  rw [List.any_reverse]
/-- the program's least ones -/
theorem least_prog (h0 : ∀ x ∈ ls, 0 ≤ x) (aL : AllL ls.length L) : leastF (L.filter (longB ls)) = (L.filter (longB ls)).filter (gmin (L.filter (longB ls)) subB) := by
  unfold leastF
  refine List.filter_congr fun l hl => ?_
  have lin := (longs_in aL).mp hl
  have lot := lotsN_lot lin.1
  cases c : gmin (L.filter (longB ls)) subB l with
  | true =>
    rw [List.any_eq_false.mpr fun m hm => ?_]
    · rfl
    · rw [decide_eq_true_eq]
      intro hG
      obtain ⟨sl, ln⟩ := less_sub hm
      have := gmin_false.mpr ⟨m, hG, fun z => by rw [z] at ln; omega, sub_iff.mpr fun x hx => sl.subset hx⟩
      rw [c] at this
      cases this
  | false =>
    obtain ⟨m, hm, ne, r⟩ := gmin_false.mp c
    have mi := (longs_in aL).mp hm
    have lt := sub_len mi.1 lin.1 ne (sub_iff.mp r)
    obtain ⟨x, hx, nx⟩ : ∃ x ∈ l, x ∉ m := by
      refine Classical.byContradiction fun no => ?_
      have s : ∀ x ∈ l, x ∈ m := fun x hx => Classical.byContradiction fun z => no ⟨x, hx, z⟩
      have := sub_len lin.1 mi.1 (fun z => ne z.symm) s
      omega
    obtain ⟨m', hm', mem⟩ := less_erase lot.1 hx
    obtain ⟨sl, _⟩ := less_sub hm'
    have lot' : Lot ls.length m' := ⟨lot.1.sublist sl, fun b hb => lot.2 b (sl.subset hb)⟩
    have in' : m' ∈ lotsN ls.length := asc_lot lot' ((lotsN_asc _ l lin.1).sublist sl)
    have lg := long_up h0 (lotsN_lot mi.1) lot' (fun y hy => (mem y).mpr ⟨sub_iff.mp r y hy, fun z => nx (by rw [← z]; exact hy)⟩) mi.2
    rw [List.any_eq_true.mpr ⟨m', hm', decide_eq_true ((longs_in aL).mpr ⟨in', lg⟩)⟩]
    rfl
end
end K
set_option maxHeartbeats 1000000
namespace K
open PySem L2 Rg LamX
section
variable {ls : List Int} {L : List (List Int)}
theorem same_lot {n : Nat} {a b : List Int} (ha : a ∈ lotsN n) (hb : b ∈ lotsN n) (h : ∀ y, y ∈ a ↔ y ∈ b) : a = b :=
  asc_eq ha hb ((List.perm_ext_iff_of_nodup (lotsN_lot ha).1 (lotsN_lot hb).1).mpr h)
/-- the program's greatest ones -/
theorem great_prog (h0 : ∀ x ∈ ls, 0 ≤ x) (aL : AllL ls.length L) : greatF (L.filter (shortB ls)) = (L.filter (shortB ls)).filter (gmin (L.filter (shortB ls)) supB) := by
  unfold greatF
  refine List.filter_congr fun l hl => ?_
  have lin := (shorts_in aL).mp hl
  have lot := lotsN_lot lin.1
  cases c : gmin (L.filter (shortB ls)) supB l with
  | true =>
    rw [decide_eq_false fun h => ?_]
    · rfl
    · obtain ⟨s, hs, hm⟩ := List.mem_flatMap.mp h
      obtain ⟨sl, ln⟩ := less_sub hm
      have := (gmin_false (G := L.filter (shortB ls)) (rel := supB) (l := l)).mpr ⟨s, hs, fun z => by rw [z] at ln; omega, sub_iff.mpr fun x hx => sl.subset hx⟩
      rw [c] at this
      cases this
  | false =>
    obtain ⟨s, hs, ne, r⟩ := gmin_false.mp c
    have si := (shorts_in aL).mp hs
    have sub : ∀ x ∈ l, x ∈ s := sub_iff.mp r
    have lt := sub_len lin.1 si.1 (fun z => ne z.symm) sub
    obtain ⟨x, hx, nx⟩ : ∃ x ∈ s, x ∉ l := by
      refine Classical.byContradiction fun no => ?_
      have t : ∀ x ∈ s, x ∈ l := fun x hx => Classical.byContradiction fun z => no ⟨x, hx, z⟩
      have := sub_len si.1 lin.1 ne t
      omega
    have lx : Lot ls.length (x :: l) := ⟨List.nodup_cons.mpr ⟨nx, lot.1⟩, fun b hb => by
      rcases List.mem_cons.mp hb with z | z
      · rw [z]; exact (lotsN_lot si.1).2 x hx
      · exact lot.2 b z⟩
    have cp := canon_perm lx
    have cm := canon_mem ls.length (x :: l)
    have sh := short_down h0 (lotsN_lot cm) (lotsN_lot si.1) (fun y hy => by
      rcases List.mem_cons.mp (cp.mem_iff.mp hy) with z | z
      · rw [z]; exact hx
      · exact sub y z) si.2
    obtain ⟨m', hm', mem⟩ := less_erase (lotsN_lot cm).1 (cp.mem_iff.mpr (List.mem_cons_self ..) : x ∈ canon ls.length (x :: l))
    obtain ⟨sl, _⟩ := less_sub hm'
    have in' : m' ∈ lotsN ls.length := asc_lot ⟨(lotsN_lot cm).1.sublist sl, fun b hb => (lotsN_lot cm).2 b (sl.subset hb)⟩ ((lotsN_asc _ _ cm).sublist sl)
    have e : m' = l := same_lot in' lin.1 fun y => by
      rw [mem, cp.mem_iff, List.mem_cons]
      exact ⟨fun h => h.1.resolve_left h.2, fun h => ⟨.inr h, fun z => nx (by rw [← z]; exact h)⟩⟩
    rw [e] at hm'
    rw [decide_eq_true (List.mem_flatMap.mpr ⟨_, (shorts_in aL).mpr ⟨cm, sh⟩, hm'⟩)]
    rfl
/-! ### all other bars -/
def cmp (n : Nat) (l : List Int) : List Int := restN n l n
theorem cmp_mem (n : Nat) (l : List Int) : cmp n l ∈ lotsN n := nat_lots (fun j => !hasB l j) n
theorem cmp_iff {n : Nat} {l : List Int} {y : Int} : y ∈ cmp n l ↔ (0 ≤ y ∧ y < n) ∧ y ∉ l := by
  unfold cmp restN natB
  rw [List.mem_map]
  constructor
  · rintro ⟨j, hj, rfl⟩
    have h := List.mem_filter.mp hj
    rw [List.mem_range] at h
    refine ⟨⟨by omega, by omega⟩, fun z => ?_⟩
    rw [hasB_iff.mpr z] at h
    exact absurd h.2 (by decide)
  · rintro ⟨⟨h1, h2⟩, h3⟩
    obtain ⟨j, rfl⟩ := Int.eq_ofNat_of_zero_le h1
    refine ⟨j, List.mem_filter.mpr ⟨List.mem_range.mpr (by omega), ?_⟩, rfl⟩
    cases e : hasB l j with
    | false => rfl
    | true => exact absurd (hasB_iff.mp e) h3
theorem cmp_cmp {n : Nat} {l : List Int} (h : l ∈ lotsN n) : cmp n (cmp n l) = l := same_lot (cmp_mem _ _) h fun y => by
  rw [cmp_iff, cmp_iff]
  constructor
  · rintro ⟨h1, h2⟩
    exact Classical.byContradiction fun z => h2 ⟨h1, z⟩
  · intro hy
    exact ⟨(lotsN_lot h).2 y hy, fun z => z.2 hy⟩
theorem cmp_sub {n : Nat} {a b : List Int} (h : ∀ x ∈ a, x ∈ b) : ∀ x ∈ cmp n b, x ∈ cmp n a := fun x hx => by
  rw [cmp_iff] at hx ⊢
  exact ⟨hx.1, fun z => hx.2 (h x z)⟩
theorem cmp_short {l : List Int} (h : l ∈ lotsN ls.length) : sortV ls (cmp ls.length l) = "short" ↔ sortV ls l = "long" := rest_short (lotsN_lot h)
theorem cmp_long {l : List Int} (h : l ∈ lotsN ls.length) : sortV ls (cmp ls.length l) = "long" ↔ sortV ls l = "short" := by
  have := cmp_short (ls := ls) (cmp_mem ls.length l)
  rw [cmp_cmp h] at this
  exact this.symm
theorem others (aL : AllL ls.length L) : (((L.filter (longB ls)).filter (gmin (L.filter (longB ls)) subB)).map (cmp ls.length)).Perm ((L.filter (shortB ls)).filter (gmin (L.filter (shortB ls)) supB)) := by
  have inj : ((L.filter (longB ls)).filter (gmin (L.filter (longB ls)) subB)).map (cmp ls.length) |>.Nodup := by
    have nd := (aL.nd.filter (longB ls)).filter (gmin (L.filter (longB ls)) subB)
    refine List.Pairwise.map _ (fun a b h => h) ?_
    refine List.Pairwise.imp_of_mem (fun {a b} ha hb ne e => ne ?_) nd
    have ia := (longs_in aL).mp (List.mem_filter.mp ha).1
    have ib := (longs_in aL).mp (List.mem_filter.mp hb).1
    rw [← cmp_cmp ia.1, ← cmp_cmp ib.1, e]
  rw [List.perm_ext_iff_of_nodup inj ((aL.nd.filter _).filter _)]
  intro s
  rw [List.mem_map, List.mem_filter]
  constructor
  · rintro ⟨l, hl, rfl⟩
    obtain ⟨hl, gl⟩ := List.mem_filter.mp hl
    have li := (longs_in aL).mp hl
    refine ⟨(shorts_in aL).mpr ⟨cmp_mem _ _, (cmp_short li.1).mpr li.2⟩, ?_⟩
    cases c : gmin (L.filter (shortB ls)) supB (cmp ls.length l) with
    | true => rfl
    | false =>
      obtain ⟨t, ht, ne, r⟩ := gmin_false.mp c
      have ti := (shorts_in aL).mp ht
      have := (gmin_false (G := L.filter (longB ls)) (rel := subB) (l := l)).mpr ⟨cmp ls.length t, (longs_in aL).mpr ⟨cmp_mem _ _, (cmp_long ti.1).mpr ti.2⟩, fun z => ne (by rw [← z, cmp_cmp ti.1]), sub_iff.mpr (by
        have := cmp_sub (n := ls.length) (sub_iff.mp r)
        rw [cmp_cmp li.1] at this
        exact this)⟩
      rw [gl] at this
      cases this
  · rintro ⟨hs, gs⟩
    have si := (shorts_in aL).mp hs
    refine ⟨cmp ls.length s, List.mem_filter.mpr ⟨(longs_in aL).mpr ⟨cmp_mem _ _, (cmp_long si.1).mpr si.2⟩, ?_⟩, cmp_cmp si.1⟩
    cases c : gmin (L.filter (longB ls)) subB (cmp ls.length s) with
    | true => rfl
    | false =>
      obtain ⟨t, ht, ne, r⟩ := gmin_false.mp c
      have ti := (longs_in aL).mp ht
      have := (gmin_false (G := L.filter (shortB ls)) (rel := supB) (l := s)).mpr ⟨cmp ls.length t, (shorts_in aL).mpr ⟨cmp_mem _ _, (cmp_short ti.1).mpr ti.2⟩, fun z => ne (by rw [← z, cmp_cmp ti.1]), sub_iff.mpr (by
        have := cmp_sub (n := ls.length) (sub_iff.mp r)
        rw [cmp_cmp si.1] at this
        exact this)⟩
      rw [gs] at this
      cases this
theorem half (aL : AllL ls.length L) : (L.filter (shortB ls)).length = (L.filter (longB ls)).length := by
  have p : ((L.filter (longB ls)).map (cmp ls.length)).Perm (L.filter (shortB ls)) := by
    have inj : ((L.filter (longB ls)).map (cmp ls.length)).Nodup := by
      refine List.Pairwise.map _ (fun a b h => h) ?_
      refine List.Pairwise.imp_of_mem (fun {a b} ha hb ne e => ne ?_) (aL.nd.filter (longB ls))
      have ia := (longs_in aL).mp ha
      have ib := (longs_in aL).mp hb
      rw [← cmp_cmp ia.1, ← cmp_cmp ib.1, e]
    rw [List.perm_ext_iff_of_nodup inj (aL.nd.filter _)]
    intro s
    rw [List.mem_map]
    constructor
    · rintro ⟨l, hl, rfl⟩
      have li := (longs_in aL).mp hl
      exact (shorts_in aL).mpr ⟨cmp_mem _ _, (cmp_short li.1).mpr li.2⟩
    · intro hs
      have si := (shorts_in aL).mp hs
      exact ⟨cmp ls.length s, (longs_in aL).mpr ⟨cmp_mem _ _, (cmp_long si.1).mpr si.2⟩, cmp_cmp si.1⟩
  rw [← p.length_eq, List.length_map]
/-- a lot is short just if it lies within a greatest short one -/
theorem short_wide (h0 : ∀ x ∈ ls, 0 ≤ x) (aL : AllL ls.length L) {l : List Int} (hl : l ∈ lotsN ls.length) : shortB ls l = ((L.filter (shortB ls)).filter (gmin (L.filter (shortB ls)) supB)).any fun g => subB l g := by
  cases c : shortB ls l with
  | true =>
    have hs : l ∈ L.filter (shortB ls) := List.mem_filter.mpr ⟨aL.pm.mem_iff.mpr hl, c⟩
    obtain ⟨m', h', g', r'⟩ := gmin_ex (G := L.filter (shortB ls)) (rel := supB) (rk := fun l => ls.length - l.length) (fun m hm l hl ne r => by
      have hm' := ((shorts_in aL).mp hm).1
      have hl' := ((shorts_in aL).mp hl).1
      have := sub_len hl' hm' (fun z => ne z.symm) (sub_iff.mp r)
      have := lotsN_len _ _ hm'
      omega) (fun a _ b _ c _ r1 r2 => sub_iff.mpr fun x hx => sub_iff.mp r1 x (sub_iff.mp r2 x hx)) (fun a _ => sub_iff.mpr fun x hx => hx) _ l hs (Nat.le_refl _)
    exact (List.any_eq_true.mpr ⟨m', List.mem_filter.mpr ⟨h', g'⟩, r'⟩).symm
  | false =>
    refine (List.any_eq_false.mpr fun g hg r => ?_).symm
    have gi := (shorts_in aL).mp (List.mem_filter.mp hg).1
    have := short_down h0 (lotsN_lot hl) (lotsN_lot gi.1) (sub_iff.mp r) gi.2
    unfold shortB at c
    rw [this] at c
    exact absurd c (by decide +kernel)
theorem long_narrow (h0 : ∀ x ∈ ls, 0 ≤ x) (aL : AllL ls.length L) {l : List Int} (hl : l ∈ lotsN ls.length) : longB ls l = ((L.filter (longB ls)).filter (gmin (L.filter (longB ls)) subB)).any fun g => subB g l := by
  cases c : longB ls l with
  | true =>
    have hs : l ∈ L.filter (longB ls) := List.mem_filter.mpr ⟨aL.pm.mem_iff.mpr hl, c⟩
    obtain ⟨m', h', g', r'⟩ := gmin_ex (G := L.filter (longB ls)) (rel := subB) (rk := List.length) (fun m hm l hl ne r => sub_len ((longs_in aL).mp hm).1 ((longs_in aL).mp hl).1 ne (sub_iff.mp r)) (fun a _ b _ c _ r1 r2 => sub_iff.mpr fun x hx => sub_iff.mp r2 x (sub_iff.mp r1 x hx)) (fun a _ => sub_iff.mpr fun x hx => hx) _ l hs (Nat.le_refl _)
    exact (List.any_eq_true.mpr ⟨m', List.mem_filter.mpr ⟨h', g'⟩, r'⟩).symm
  | false =>
    refine (List.any_eq_false.mpr fun g hg r => ?_).symm
    have gi := (longs_in aL).mp (List.mem_filter.mp hg).1
    have := long_up h0 (lotsN_lot gi.1) (lotsN_lot hl) (sub_iff.mp r) gi.2
    unfold longB at c
    rw [this] at c
    exact absurd c (by decide +kernel)
end
end K
set_option maxHeartbeats 1000000
namespace K
open PySem L2 Rg LamX
/-! ### lists turned about -/
theorem range_snoc {α : Type} (g : Nat → α) (i : Nat) : (List.range (i + 1)).map g = (List.range i).map g ++ [g i] := by
  rw [List.range_succ, List.map_append]; rfl
theorem emod_nat (a n : Nat) : ((a : Int) % (n : Int)) = ((a % n : Nat) : Int) := (Int.natCast_emod a n).symm
theorem getD_at {ls : List Int} {i : Nat} (h : i < ls.length) : ls.getD i 0 = ls[i] := by
  rw [List.getD_eq_getElem?_getD, List.getElem?_eq_getElem h]; rfl
theorem rot_eq {ls : List Int} {b : Nat} (hb : b < ls.length) : (List.range ls.length).map (fun j => ls.getD ((b + j) % ls.length) 0) = ls.drop b ++ ls.take b := by
  refine List.ext_getElem (by simp only [List.length_map, List.length_range, List.length_append, List.length_drop, List.length_take]; omega) fun j h1 h2 => ?_
  rw [List.length_map, List.length_range] at h1
  rw [List.getElem_map, List.getElem_range, getD_at (Nat.mod_lt _ (by omega))]
  by_cases c : j < ls.length - b
  · rw [List.getElem_append_left (by rw [List.length_drop]; exact c), List.getElem_drop]
    congr 1
    exact Nat.mod_eq_of_lt (by omega)
  · rw [List.getElem_append_right (by rw [List.length_drop]; omega), List.getElem_take]
    congr 1
    rw [List.length_drop, show b + j = (j - (ls.length - b)) + ls.length by omega, Nat.add_mod_right]
    exact Nat.mod_eq_of_lt (by omega)
theorem back_eq {ls : List Int} (h : 0 < ls.length) : (List.range ls.length).map (fun j => ls.getD ((ls.length - j) % ls.length) 0) = backL ls := by
  unfold backL
  refine List.ext_getElem (by simp only [List.length_map, List.length_range, List.length_append, List.length_reverse, List.length_drop, List.length_take]; omega) fun j h1 h2 => ?_
  rw [List.length_map, List.length_range] at h1
  rw [List.getElem_map, List.getElem_range, getD_at (Nat.mod_lt _ h)]
  by_cases c : j = 0
  · subst c
    rw [List.getElem_append_left (by rw [List.length_take]; omega), List.getElem_take]
    congr 1
    rw [Nat.sub_zero, Nat.mod_self]
  · have l1 : (ls.take 1).length = 1 := by rw [List.length_take]; omega
    rw [List.getElem_append_right (by omega), List.getElem_reverse, List.getElem_drop]
    congr 1
    rw [Nat.mod_eq_of_lt (by omega), List.length_drop, l1]
    omega
theorem idx_at {ns : List Int} {z : Int} (h : z ∈ ns) : ns.idxOf z < ns.length ∧ ns[ns.idxOf z]? = some z ∧ ns.getD (ns.idxOf z) 0 = z := by
  have h1 : ns.idxOf z < ns.length := List.idxOf_lt_length_of_mem h
  have h2 : ns[ns.idxOf z]? = some z := by rw [List.getElem?_eq_getElem h1, List.getElem_idxOf]
  exact ⟨h1, h2, by rw [List.getD_eq_getElem?_getD, h2]; rfl⟩
theorem idx_not {ns : List Int} {z : Int} : ∀ {m : Nat}, m < ns.idxOf z → ns[m]? ≠ some z := by
  intro m hm e
  induction ns generalizing m with
  | nil => simp at e
  | cons x r ih =>
    rw [List.idxOf_cons] at hm
    cases c : (x == z) with
    | true => rw [c] at hm; exact absurd hm (Nat.not_lt_zero _)
    | false =>
      rw [c] at hm
      cases m with
      | zero =>
        rw [List.getElem?_cons_zero] at e
        rw [Option.some.inj e] at c
        simp at c
      | succ m =>
        rw [List.getElem?_cons_succ] at e
        exact ih (by simpa using hm) e
theorem bar_in {n : Nat} {ns : List Int} (p : ns.Perm (natB (List.range n))) {z : Int} (h0 : 0 ≤ z) (h1 : z < n) : z ∈ ns := by
  refine p.mem_iff.mpr (List.mem_map.mpr ⟨z.toNat, List.mem_range.mpr (by omega), by omega⟩)
/-! ### bars numbered anew -/
def plc (ns : List Int) (b : Int) : Int := ((ns.idxOf b : Nat) : Int)
def anew (ns l : List Int) : List Int := canon ns.length (l.map (plc ns))
theorem natB_nodup (n : Nat) : (natB (List.range n)).Nodup := by
  unfold natB List.Nodup
  rw [List.pairwise_map]
  exact List.nodup_range.imp fun h => by omega
section
variable {ns : List Int} {n : Nat}
theorem ord_len (p : ns.Perm (natB (List.range n))) : ns.length = n := by rw [p.length_eq, natB_len]
theorem plc_in (p : ns.Perm (natB (List.range n))) {b : Int} (h0 : 0 ≤ b) (h1 : b < n) : 0 ≤ plc ns b ∧ plc ns b < n := by
  have h := (idx_at (bar_in p h0 h1)).1
  have e := ord_len p
  unfold plc
  omega
theorem plc_inj (p : ns.Perm (natB (List.range n))) {a b : Int} (a0 : 0 ≤ a) (a1 : a < n) (b0 : 0 ≤ b) (b1 : b < n) (e : plc ns a = plc ns b) : a = b := by
  have h := (idx_at (bar_in p a0 a1)).2.1
  have g := (idx_at (bar_in p b0 b1)).2.1
  unfold plc at e
  rw [show ns.idxOf a = ns.idxOf b by omega, g] at h
  exact (Option.some.inj h).symm
theorem plc_lot (p : ns.Perm (natB (List.range n))) {l : List Int} (h : Lot n l) : Lot n (l.map (plc ns)) := by
  refine ⟨?_, fun y hy => ?_⟩
  · unfold List.Nodup
    rw [List.pairwise_map]
    refine (List.Pairwise.imp_of_mem (fun {a b} ha hb hne => ?_) h.1)
    exact fun e => hne (plc_inj p (h.2 a ha).1 (h.2 a ha).2 (h.2 b hb).1 (h.2 b hb).2 e)
  · obtain ⟨b, hb, rfl⟩ := List.mem_map.mp hy
    exact plc_in p (h.2 b hb).1 (h.2 b hb).2
theorem anew_perm (p : ns.Perm (natB (List.range n))) {l : List Int} (h : Lot n l) : (anew ns l).Perm (l.map (plc ns)) := by
  unfold anew
  rw [ord_len p]
  exact canon_perm (plc_lot p h)
theorem anew_mem (p : ns.Perm (natB (List.range n))) (l : List Int) : anew ns l ∈ lotsN n := by
  unfold anew
  rw [ord_len p]
  exact canon_mem _ _
theorem in_anew (p : ns.Perm (natB (List.range n))) {l : List Int} (h : Lot n l) {y : Int} : y ∈ anew ns l ↔ ∃ b ∈ l, plc ns b = y := by
  rw [(anew_perm p h).mem_iff, List.mem_map]
theorem plc_anew (p : ns.Perm (natB (List.range n))) {l : List Int} (h : Lot n l) {b : Int} (h0 : 0 ≤ b) (h1 : b < n) : plc ns b ∈ anew ns l ↔ b ∈ l := by
  rw [in_anew p h]
  refine ⟨fun ⟨c, hc, e⟩ => ?_, fun hb => ⟨b, hb, rfl⟩⟩
  rw [← plc_inj p (h.2 c hc).1 (h.2 c hc).2 h0 h1 e]
  exact hc
theorem sub_anew (p : ns.Perm (natB (List.range n))) {a b : List Int} (ha : a ∈ lotsN n) (hb : b ∈ lotsN n) : subB (anew ns a) (anew ns b) = subB a b := by
  have la := lotsN_lot ha
  have lb := lotsN_lot hb
  refine Bool.eq_iff_iff.mpr ?_
  rw [sub_iff, sub_iff]
  refine ⟨fun h x hx => ?_, fun h y hy => ?_⟩
  · exact (plc_anew p lb (la.2 x hx).1 (la.2 x hx).2).mp (h _ ((plc_anew p la (la.2 x hx).1 (la.2 x hx).2).mpr hx))
  · obtain ⟨x, hx, rfl⟩ := (in_anew p la).mp hy
    exact (in_anew p lb).mpr ⟨x, h x hx, rfl⟩
theorem anew_inj (p : ns.Perm (natB (List.range n))) {a b : List Int} (ha : a ∈ lotsN n) (hb : b ∈ lotsN n) (e : anew ns a = anew ns b) : a = b := by
  have la := lotsN_lot ha
  have lb := lotsN_lot hb
  refine same_lot ha hb fun y => ⟨fun h => ?_, fun h => ?_⟩
  · have := (plc_anew p la (la.2 y h).1 (la.2 y h).2).mpr h
    rw [e] at this
    exact (plc_anew p lb (la.2 y h).1 (la.2 y h).2).mp this
  · have := (plc_anew p lb (lb.2 y h).1 (lb.2 y h).2).mpr h
    rw [← e] at this
    exact (plc_anew p la (lb.2 y h).1 (lb.2 y h).2).mp this
theorem anew_surj (p : ns.Perm (natB (List.range n))) {m : List Int} (hm : m ∈ lotsN n) : ∃ l ∈ lotsN n, anew ns l = m := by
  have lm := lotsN_lot hm
  have nl := ord_len p
  have nd : ns.Nodup := p.nodup_iff.mpr (natB_nodup n)
  have back : ∀ k : Int, 0 ≤ k → k < n → (0 ≤ ns.getD k.toNat 0 ∧ ns.getD k.toNat 0 < n) ∧ plc ns (ns.getD k.toNat 0) = k := fun k k0 k1 => by
    have hk : k.toNat < ns.length := by omega
    have hin : ns.getD k.toNat 0 ∈ ns := getD_mem hk
    refine ⟨natB_mem (p.mem_iff.mp hin), ?_⟩
    obtain ⟨z, hz⟩ : ∃ z, z = ns.getD k.toNat 0 := ⟨_, rfl⟩
    rw [← hz] at hin ⊢
    have hk2 : ns[k.toNat] = z := by rw [hz, getD_at hk]
    obtain ⟨h1, h2⟩ := List.getElem?_eq_some_iff.mp (idx_at hin).2.1
    have e := (List.getElem_inj nd).mp (h2.trans hk2.symm)
    unfold plc
    omega
  have lg : Lot n (m.map fun k => ns.getD k.toNat 0) := by
    refine ⟨?_, fun y hy => ?_⟩
    · unfold List.Nodup
      rw [List.pairwise_map]
      refine (List.Pairwise.imp_of_mem (fun {a b} ha hb hne e => ?_) lm.1)
      have ea := (back a (lm.2 a ha).1 (lm.2 a ha).2).2
      have eb := (back b (lm.2 b hb).1 (lm.2 b hb).2).2
      rw [e, eb] at ea
      exact hne ea.symm
    · obtain ⟨k, hk, rfl⟩ := List.mem_map.mp hy
      exact (back k (lm.2 k hk).1 (lm.2 k hk).2).1
  have cp := canon_perm lg
  refine ⟨canon n (m.map fun k => ns.getD k.toNat 0), canon_mem _ _, ?_⟩
  refine same_lot (anew_mem p _) hm fun y => ?_
  rw [in_anew p (lotsN_lot (canon_mem _ _))]
  constructor
  · rintro ⟨b, hb, rfl⟩
    obtain ⟨k, hk, rfl⟩ := List.mem_map.mp (cp.mem_iff.mp hb)
    rw [(back k (lm.2 k hk).1 (lm.2 k hk).2).2]
    exact hk
  · intro hy
    exact ⟨_, cp.mem_iff.mpr (List.mem_map.mpr ⟨y, hy, rfl⟩), (back y (lm.2 y hy).1 (lm.2 y hy).2).2⟩
end
/-! ### the ring numbered anew -/
theorem lsum_all (ls : List Int) : ordL ls (natB (List.range ls.length)) = ls := by
  unfold ordL natB
  rw [List.map_map]
  refine List.ext_getElem (by simp) fun j h1 h2 => ?_
  rw [List.getElem_map, List.getElem_range]
  show ls.getD (j : Int).toNat 0 = _
  rw [Int.toNat_natCast, getD_at h2]
section
variable {ls ns : List Int}
theorem ordL_perm (p : ns.Perm (natB (List.range ls.length))) : (ordL ls ns).Perm ls := by
  have h := p.map fun b : Int => ls.getD b.toNat 0
  have e := lsum_all ls
  unfold ordL at e
  rw [e] at h
  exact h
theorem lsum_plc (p : ns.Perm (natB (List.range ls.length))) {l : List Int} (h : Lot ls.length l) : lsum (ordL ls ns) (l.map (plc ns)) = lsum ls l := by
  unfold lsum
  rw [List.map_map]
  congr 1
  refine List.map_congr_left fun b hb => ?_
  show (ordL ls ns).getD (plc ns b).toNat 0 = ls.getD b.toNat 0
  have h2 := (idx_at (bar_in p (h.2 b hb).1 (h.2 b hb).2)).2.1
  unfold plc ordL
  rw [Int.toNat_natCast, List.getD_eq_getElem?_getD, List.getElem?_map, h2]
  rfl
theorem ordL_sum (p : ns.Perm (natB (List.range ls.length))) : (ordL ls ns).sum = ls.sum := perm_sum (ordL_perm p)
theorem sum_anew (p : ns.Perm (natB (List.range ls.length))) {l : List Int} (h : Lot ls.length l) : lsum (ordL ls ns) (anew ns l) = lsum ls l := by
  rw [lsum_perm (anew_perm p h), lsum_plc p h]
theorem sort_anew (p : ns.Perm (natB (List.range ls.length))) {l : List Int} (h : Lot ls.length l) : sortV (ordL ls ns) (anew ns l) = sortV ls l := by
  unfold sortV
  rw [sum_anew p h, ordL_sum p]
theorem ordL_len2 (p : ns.Perm (natB (List.range ls.length))) : (ordL ls ns).length = ls.length := (ordL_perm p).length_eq
theorem ordL_closes (p : ns.Perm (natB (List.range ls.length))) : closesB (ordL ls ns) = closesB ls := by
  refine Bool.eq_iff_iff.mpr ?_
  unfold closesB
  rw [List.all_eq_true, List.all_eq_true, ordL_sum p]
  exact ⟨fun h x hx => h x ((ordL_perm p).mem_iff.mpr hx), fun h x hx => h x ((ordL_perm p).mem_iff.mp hx)⟩
theorem level_iff {ls : List Int} : levelB ls = true ↔ ∃ l ∈ lotsN ls.length, 2 * lsum ls l = ls.sum := by
  rw [level_lots, List.any_eq_true]
  exact ⟨fun ⟨l, a, b⟩ => ⟨l, a, of_decide_eq_true b⟩, fun ⟨l, a, b⟩ => ⟨l, a, decide_eq_true b⟩⟩
theorem ordL_level (p : ns.Perm (natB (List.range ls.length))) : levelB (ordL ls ns) = levelB ls := by
  refine Bool.eq_iff_iff.mpr ?_
  rw [level_iff, level_iff, ordL_len2 p, ordL_sum p]
  constructor
  · rintro ⟨m, hm, e⟩
    obtain ⟨l, hl, rfl⟩ := anew_surj p hm
    rw [sum_anew p (lotsN_lot hl)] at e
    exact ⟨l, hl, e⟩
  · rintro ⟨l, hl, e⟩
    exact ⟨anew ns l, anew_mem p l, by rw [sum_anew p (lotsN_lot hl)]; exact e⟩
theorem ordL_pos (p : ns.Perm (natB (List.range ls.length))) (h0 : ∀ x ∈ ls, 0 ≤ x) : ∀ x ∈ ordL ls ns, 0 ≤ x := fun x hx => h0 x ((ordL_perm p).mem_iff.mp hx)
variable {L : List (List Int)}
theorem in_all (aL : AllL ls.length L) {l : List Int} : l ∈ L ↔ l ∈ lotsN ls.length := aL.pm.mem_iff
/-- two lists of lots, the second one the first one numbered anew -/
theorem moved {n : Nat} (p : ns.Perm (natB (List.range n))) {A B : List (List Int)} (na : A.Nodup) (nb : B.Nodup) (ia : ∀ l ∈ A, l ∈ lotsN n) (ib : ∀ l ∈ B, l ∈ lotsN n) (h : ∀ l ∈ lotsN n, anew ns l ∈ B ↔ l ∈ A) : B.Perm (A.map (anew ns)) := by
  refine (List.perm_ext_iff_of_nodup nb ?_).mpr fun m => ?_
  · unfold List.Nodup
    rw [List.pairwise_map]
    exact List.Pairwise.imp_of_mem (fun {a b} ha hb hne e => hne (anew_inj p (ia a ha) (ia b hb) e)) na
  · rw [List.mem_map]
    constructor
    · intro hm
      obtain ⟨l, hl, rfl⟩ := anew_surj p (ib m hm)
      exact ⟨l, (h l hl).mp hm, rfl⟩
    · rintro ⟨l, hl, rfl⟩
      exact (h l (ia l hl)).mpr hl
def gShort (ls : List Int) (L : List (List Int)) : List (List Int) := L.filter (shortB ls)
def gLevel (ls : List Int) (L : List (List Int)) : List (List Int) := L.filter (levB ls)
def gLeast (ls : List Int) (L : List (List Int)) : List (List Int) := leastF (L.filter (longB ls))
def gGreat (ls : List Int) (L : List (List Int)) : List (List Int) := greatF (L.filter (shortB ls))
structure Good (g : List Int → List (List Int) → List (List Int)) : Prop where
  sub : ∀ ls L, (g ls L).Sublist L
  mv : ∀ ls ns L, ns.Perm (natB (List.range ls.length)) → (∀ x ∈ ls, 0 ≤ x) → AllL ls.length L → ∀ l ∈ lotsN ls.length, anew ns l ∈ g (ordL ls ns) L ↔ l ∈ g ls L
theorem Good.perm {g : List Int → List (List Int) → List (List Int)} (G : Good g) (p : ns.Perm (natB (List.range ls.length))) (h0 : ∀ x ∈ ls, 0 ≤ x) (aL : AllL ls.length L) : (g (ordL ls ns) L).Perm ((g ls L).map (anew ns)) := by
  have nd : L.Nodup := aL.pm.nodup_iff.mpr (lotsN_once _)
  exact moved p (nd.sublist (G.sub ls L)) (nd.sublist (G.sub _ L)) (fun l hl => (in_all aL).mp ((G.sub ls L).subset hl)) (fun l hl => (in_all aL).mp ((G.sub _ L).subset hl)) (G.mv ls ns L p h0 aL)
theorem Good.eq {g : List Int → List (List Int) → List (List Int)} (G : Good g) (p : ns.Perm (natB (List.range ls.length))) (h0 : ∀ x ∈ ls, 0 ≤ x) (aL : AllL ls.length L) {M : List (List Int)} (pm : M.Perm ((g ls L).map (anew ns))) (od : M.Pairwise LLe) : g (ordL ls ns) L = M :=
  uniq_of (fun _ _ => LLe.anti) ((G.perm p h0 aL).trans pm.symm) (aL.od.sublist (G.sub _ L)) od
theorem filter_mv {q : List Int → List Int → Bool} (hq : ∀ ls ns : List Int, ns.Perm (natB (List.range ls.length)) → ∀ l ∈ lotsN ls.length, q (ordL ls ns) (anew ns l) = q ls l) : ∀ ls ns L, ns.Perm (natB (List.range ls.length)) → (∀ x ∈ ls, 0 ≤ x) → AllL ls.length L → ∀ l ∈ lotsN ls.length, anew ns l ∈ L.filter (q (ordL ls ns)) ↔ l ∈ L.filter (q ls) := fun ls ns L p h0 aL l hl => by
  rw [List.mem_filter, List.mem_filter, hq ls ns p l hl, in_all aL, in_all aL]
  exact ⟨fun h => ⟨hl, h.2⟩, fun h => ⟨anew_mem p l, h.2⟩⟩
theorem short_mv : ∀ ls ns : List Int, ns.Perm (natB (List.range ls.length)) → ∀ l ∈ lotsN ls.length, shortB (ordL ls ns) (anew ns l) = shortB ls l := fun ls ns p l hl => by
  unfold shortB
  rw [sort_anew p (lotsN_lot hl)]
theorem lev_mv : ∀ ls ns : List Int, ns.Perm (natB (List.range ls.length)) → ∀ l ∈ lotsN ls.length, levB (ordL ls ns) (anew ns l) = levB ls l := fun ls ns p l hl => by
  unfold levB
  rw [sort_anew p (lotsN_lot hl)]
theorem long_mv : ∀ ls ns : List Int, ns.Perm (natB (List.range ls.length)) → ∀ l ∈ lotsN ls.length, longB (ordL ls ns) (anew ns l) = longB ls l := fun ls ns p l hl => by
  unfold longB
  rw [sort_anew p (lotsN_lot hl)]
theorem gmin_mv {n : Nat} (p : ns.Perm (natB (List.range n))) {G G' : List (List Int)} (ig : ∀ l ∈ G, l ∈ lotsN n) (ig' : ∀ l ∈ G', l ∈ lotsN n) (h : ∀ l ∈ lotsN n, anew ns l ∈ G' ↔ l ∈ G) {rel : List Int → List Int → Bool} (hr : ∀ a ∈ lotsN n, ∀ b ∈ lotsN n, rel (anew ns a) (anew ns b) = rel a b) {l : List Int} (hl : l ∈ lotsN n) : gmin G' rel (anew ns l) = gmin G rel l := by
  have iff : gmin G' rel (anew ns l) = false ↔ gmin G rel l = false := by
    rw [gmin_false, gmin_false]
    constructor
    · rintro ⟨m', hm', ne, r⟩
      obtain ⟨m, hm, rfl⟩ := anew_surj p (ig' m' hm')
      rw [hr m hm l hl] at r
      exact ⟨m, (h m hm).mp hm', fun e => ne (by rw [e]), r⟩
    · rintro ⟨m, hm, ne, r⟩
      have hm2 := ig m hm
      exact ⟨anew ns m, (h m hm2).mpr hm, fun e => ne (anew_inj p hm2 hl e), by rw [hr m hm2 l hl]; exact r⟩
  cases a : gmin G' rel (anew ns l) with
  | false => exact (iff.mp a).symm
  | true =>
    cases b : gmin G rel l with
    | true => rfl
    | false => rw [iff.mpr b] at a; cases a
theorem good_short : Good gShort := ⟨fun ls L => List.filter_sublist, filter_mv short_mv⟩
theorem good_level : Good gLevel := ⟨fun ls L => List.filter_sublist, filter_mv lev_mv⟩
theorem good_least : Good gLeast := by
  refine ⟨fun ls L => ?_, fun ls ns L p h0 aL l hl => ?_⟩
  · unfold gLeast leastF
    exact List.filter_sublist.trans List.filter_sublist
  · have aL' : AllL (ordL ls ns).length L := by rw [ordL_len2 p]; exact aL
    have mvl := filter_mv (q := longB) long_mv ls ns L p h0 aL
    have ig : ∀ ms : List Int, ∀ l ∈ L.filter (longB ms), l ∈ lotsN ls.length := fun ms l h => (in_all aL).mp (List.mem_filter.mp h).1
    unfold gLeast
    rw [least_prog (ordL_pos p h0) aL', least_prog h0 aL]
    refine (List.mem_filter.trans ?_).trans List.mem_filter.symm
    rw [mvl l hl, gmin_mv p (ig ls) (ig (ordL ls ns)) mvl (fun a ha b hb => sub_anew p ha hb) hl]
theorem good_great : Good gGreat := by
  refine ⟨fun ls L => ?_, fun ls ns L p h0 aL l hl => ?_⟩
  · unfold gGreat greatF
    exact List.filter_sublist.trans List.filter_sublist
  · have aL' : AllL (ordL ls ns).length L := by rw [ordL_len2 p]; exact aL
    have mvl := filter_mv (q := shortB) short_mv ls ns L p h0 aL
    have ig : ∀ ms : List Int, ∀ l ∈ L.filter (shortB ms), l ∈ lotsN ls.length := fun ms l h => (in_all aL).mp (List.mem_filter.mp h).1
    unfold gGreat
    rw [great_prog (ordL_pos p h0) aL', great_prog h0 aL]
    refine (List.mem_filter.trans ?_).trans List.mem_filter.symm
    rw [mvl l hl, gmin_mv p (ig ls) (ig (ordL ls ns)) mvl (fun a ha b hb => by unfold supB; exact sub_anew p hb ha) hl]
/-! ### begun at a bar, backwards -/
def begunP (n b : Nat) : List Int := (List.range n).map fun j : Nat => (((b + j) % n : Nat) : Int)
def backP (n : Nat) : List Int := (List.range n).map fun j : Nat => (((n - j) % n : Nat) : Int)
theorem perm_places {n : Nat} {f g : Nat → Nat} (lt : ∀ j, j < n → f j < n) (gl : ∀ j, j < n → g j < n) (fg : ∀ j, j < n → f (g j) = j) (gf : ∀ j, j < n → g (f j) = j) : ((List.range n).map fun j : Nat => ((f j : Nat) : Int)).Perm (natB (List.range n)) := by
  have h1 : ((List.range n).map f).Nodup := by
    unfold List.Nodup
    rw [List.pairwise_map]
    refine List.Pairwise.imp_of_mem (fun {a b} ha hb hne e => hne ?_) List.nodup_range
    rw [← gf a (List.mem_range.mp ha), e, gf b (List.mem_range.mp hb)]
  have h2 : ((List.range n).map f).Perm (List.range n) := by
    refine (List.perm_ext_iff_of_nodup h1 List.nodup_range).mpr fun x => ⟨fun hx => ?_, fun hx => ?_⟩
    · obtain ⟨j, hj, rfl⟩ := List.mem_map.mp hx
      exact List.mem_range.mpr (lt j (List.mem_range.mp hj))
    · have hx' := List.mem_range.mp hx
      exact List.mem_map.mpr ⟨g x, List.mem_range.mpr (gl x hx'), fg x hx'⟩
  have h3 := h2.map fun j : Nat => (j : Int)
  rw [List.map_map] at h3
  exact h3
theorem begun_perm {n b : Nat} (hb : b < n) : (begunP n b).Perm (natB (List.range n)) := by
  have fE : ∀ z, z < n → (b + z) % n = if b + z < n then b + z else b + z - n := fun z hz => by
    split
    · exact Nat.mod_eq_of_lt (by omega)
    · rw [Nat.mod_eq_sub_mod (by omega)]
      exact Nat.mod_eq_of_lt (by omega)
  have gE : ∀ z, z < n → (z + (n - b)) % n = if z < b then z + (n - b) else z - b := fun z hz => by
    split
    · exact Nat.mod_eq_of_lt (by omega)
    · rw [Nat.mod_eq_sub_mod (by omega), Nat.mod_eq_of_lt (by omega)]
      omega
  refine perm_places (f := fun j => (b + j) % n) (g := fun j => (j + (n - b)) % n) (fun j _ => Nat.mod_lt _ (by omega)) (fun j _ => Nat.mod_lt _ (by omega)) (fun x hx => ?_) fun x hx => ?_
  · show (b + (x + (n - b)) % n) % n = x
    rw [gE x hx]
    split
    · rw [fE _ (by omega)]; split <;> omega
    · rw [fE _ (by omega)]; split <;> omega
  · show ((b + x) % n + (n - b)) % n = x
    rw [fE x hx]
    split
    · rw [gE _ (by omega)]; split <;> omega
    · rw [gE _ (by omega)]; split <;> omega
theorem back_perm {n : Nat} : (backP n).Perm (natB (List.range n)) := by
  have fE : ∀ z, z < n → (n - z) % n = if z = 0 then 0 else n - z := fun z hz => by
    split
    · rename_i h
      rw [h, Nat.sub_zero, Nat.mod_self]
    · exact Nat.mod_eq_of_lt (by omega)
  have ff : ∀ x, x < n → (n - (n - x) % n) % n = x := fun x hx => by
    rw [fE x hx]
    split
    · rw [fE _ (by omega)]; split <;> omega
    · rw [fE _ (by omega)]; split <;> omega
  exact perm_places (f := fun j => (n - j) % n) (g := fun j => (n - j) % n) (fun j h => Nat.mod_lt _ (by omega)) (fun j h => Nat.mod_lt _ (by omega)) ff ff
theorem begun_ord {ls : List Int} {b : Nat} (hb : b < ls.length) : ordL ls (begunP ls.length b) = ls.drop b ++ ls.take b := by
  unfold ordL begunP
  rw [List.map_map, ← rot_eq hb]
  rfl
theorem back_ord {ls : List Int} (h : 0 < ls.length) : ordL ls (backP ls.length) = backL ls := by
  unfold ordL backP
  rw [List.map_map, ← back_eq h]
  rfl
end
end K
set_option maxHeartbeats 1000000
namespace K
open PySem L2 Rg LamX
theorem lsum_nil (ls : List Int) : lsum ls [] = 0 := rfl
theorem lsum_cons (ls : List Int) (k : Int) (l : List Int) : lsum ls (k :: l) = ls.getD k.toNat 0 + lsum ls l := by
  unfold lsum
  rw [List.map_cons, List.sum_cons]
theorem lsum_app (ls a b : List Int) : lsum ls (a ++ b) = lsum ls a + lsum ls b := by
  unfold lsum
  rw [List.map_append, List.sum_append]
theorem get_le_lsum {ls : List Int} (h0 : ∀ x ∈ ls, 0 ≤ x) {j : Int} : ∀ {l : List Int}, j ∈ l → ls.getD j.toNat 0 ≤ lsum ls l
  | k :: l, h => by
    rw [lsum_cons]
    have hp := getD_pos h0 k.toNat
    have hl : 0 ≤ lsum ls l := sum_pos fun z hz => by
      obtain ⟨b, _, rfl⟩ := List.mem_map.mp hz
      exact getD_pos h0 b.toNat
    rcases List.mem_cons.mp h with e | e
    · rw [e]; omega
    · have := get_le_lsum h0 e
      omega
theorem split_sum {ls : List Int} {b : Nat} (h : b < ls.length) : ls.sum = (ls.take b).sum + (ls.getD b 0 + (ls.drop (b + 1)).sum) := by
  have e : ls.take b ++ ls.drop b = ls := List.take_append_drop ..
  rw [getD_at h, ← List.sum_cons, ← List.drop_eq_getElem_cons h, ← List.sum_append, e]
/-! ### two bars put together -/
def olds (n b : Nat) (k : Int) : List Int := if b + 1 = n then (if k = 0 then [0, (b : Int)] else [k]) else if k < b then [k] else if k = b then [(b : Int), (b : Int) + 1] else [k + 1]
def home (n b : Nat) (y : Int) : Int := if b + 1 = n then (if y = b then 0 else y) else if y ≤ b then y else y - 1
theorem olds_home {n b : Nat} (hn : 2 ≤ n) (hb : b < n) {k y : Int} (k0 : 0 ≤ k) (k1 : k < ((n - 1 : Nat) : Int)) (h : y ∈ olds n b k) : home n b y = k ∧ 0 ≤ y ∧ y < n := by
  unfold olds at h
  unfold home
  split at h
  · rename_i c
    rw [if_pos c]
    split at h
    · rename_i c2
      rcases List.mem_cons.mp h with e | e
      · split <;> omega
      · rw [List.mem_singleton] at e
        rw [if_pos e]
        omega
    · rw [List.mem_singleton] at h
      rw [if_neg (by omega)]
      omega
  · rename_i c
    rw [if_neg c]
    split at h
    · rw [List.mem_singleton] at h
      rw [if_pos (by omega)]
      omega
    · split at h
      · rcases List.mem_cons.mp h with e | e
        · rw [if_pos (by omega)]; omega
        · rw [List.mem_singleton] at e
          rw [if_neg (by omega)]; omega
      · rw [List.mem_singleton] at h
        rw [if_neg (by omega)]
        omega
theorem home_olds {n b : Nat} (hn : 2 ≤ n) (hb : b < n) {y : Int} (y0 : 0 ≤ y) (y1 : y < n) : (0 ≤ home n b y ∧ home n b y < ((n - 1 : Nat) : Int)) ∧ y ∈ olds n b (home n b y) := by
  unfold olds home
  by_cases c : b + 1 = n
  · simp only [if_pos c]
    by_cases d : y = b
    · simp only [if_pos d, if_true]
      exact ⟨by omega, by simp [d]⟩
    · simp only [if_neg d]
      refine ⟨by omega, ?_⟩
      split
      · rename_i e
        rw [e]; exact List.mem_cons_self ..
      · exact List.mem_singleton.mpr rfl
  · simp only [if_neg c]
    by_cases d : y ≤ b
    · simp only [if_pos d]
      refine ⟨by omega, ?_⟩
      split
      · exact List.mem_singleton.mpr rfl
      · rw [if_pos (by omega)]
        have : y = b := by omega
        rw [this]; exact List.mem_cons_self ..
    · simp only [if_neg d]
      refine ⟨by omega, ?_⟩
      rw [if_neg (by omega)]
      split
      · have : y = (b : Int) + 1 := by omega
        rw [this]; simp
      · rw [List.mem_singleton]; omega
theorem olds_len (n b : Nat) (k : Int) : (olds n b k).length ≤ 2 := by
  unfold olds
  repeat' split
  all_goals simp
theorem olds_nodup {n b : Nat} (hn : 2 ≤ n) (hb : b < n) (k : Int) : (olds n b k).Nodup := by
  unfold olds
  repeat' split
  all_goals first
    | exact List.nodup_cons.mpr ⟨fun h => by simp at h, List.nodup_nil⟩
    | exact List.nodup_cons.mpr ⟨fun h => by rw [List.mem_singleton] at h; omega, List.nodup_cons.mpr ⟨fun h => by simp at h, List.nodup_nil⟩⟩
theorem old_lot {n b : Nat} (hn : 2 ≤ n) (hb : b < n) : ∀ {l : List Int}, Lot (n - 1) l → Lot n (l.flatMap (olds n b)) := by
  intro l h
  refine ⟨?_, fun y hy => ?_⟩
  · obtain ⟨nd, hr⟩ := h
    induction l with
    | nil => exact List.nodup_nil
    | cons k l ih =>
      rw [List.flatMap_cons, List.nodup_append]
      rw [List.nodup_cons] at nd
      refine ⟨olds_nodup hn hb k, ih nd.2 fun b hb => hr b (List.mem_cons_of_mem _ hb), fun y hy z hz e => ?_⟩
      obtain ⟨k2, hk2, hz2⟩ := List.mem_flatMap.mp hz
      have hk := hr k (List.mem_cons_self ..)
      have hk' := hr k2 (List.mem_cons_of_mem _ hk2)
      have e1 := (olds_home hn hb hk.1 hk.2 hy).1
      have e2 := (olds_home hn hb hk'.1 hk'.2 hz2).1
      rw [e, e2] at e1
      exact nd.1 (by rw [← e1]; exact hk2)
  · obtain ⟨k, hk, hy2⟩ := List.mem_flatMap.mp hy
    exact (olds_home hn hb (h.2 k hk).1 (h.2 k hk).2 hy2).2
theorem one_get {ls : List Int} {b : Nat} (h2 : 2 ≤ ls.length) (hb : b < ls.length) {k : Int} (k0 : 0 ≤ k) (k1 : k < ((ls.length - 1 : Nat) : Int)) : (oneL ls b).getD k.toNat 0 = lsum ls (olds ls.length b k) := by
  obtain ⟨j, rfl⟩ : ∃ j : Nat, k = j := ⟨k.toNat, by omega⟩
  have hj : j < ls.length - 1 := by omega
  rw [Int.toNat_natCast]
  unfold oneL olds
  by_cases c : b + 1 = ls.length
  · rw [if_pos c, if_pos c]
    by_cases d : j = 0
    · subst d
      rw [if_pos (show ((0 : Nat) : Int) = 0 from rfl), lsum_cons, lsum_cons, lsum_nil]
      show ls.getD b 0 + ls.getD 0 0 = ls.getD (0 : Int).toNat 0 + (ls.getD (b : Int).toNat 0 + 0)
      rw [Int.toNat_natCast, Int.toNat_zero]
      omega
    · rw [if_neg (by omega), lsum_cons, lsum_nil, Int.toNat_natCast]
      rw [List.getD_eq_getElem?_getD, List.getElem?_append_right (by rw [List.length_singleton]; omega), List.length_singleton, List.getElem?_take_of_lt (by omega), List.getElem?_drop, show 1 + (j - 1) = j by omega, ← List.getD_eq_getElem?_getD]
      omega
  · rw [if_neg c, if_neg c]
    have lt : (ls.take b).length = b := by rw [List.length_take]; omega
    by_cases d : j < b
    · rw [if_pos (by omega), lsum_cons, lsum_nil, Int.toNat_natCast]
      rw [List.getD_eq_getElem?_getD, List.append_assoc, List.getElem?_append_left (by omega), List.getElem?_take_of_lt d, ← List.getD_eq_getElem?_getD]
      omega
    · rw [if_neg (by omega)]
      by_cases e : j = b
      · subst e
        rw [if_pos rfl, lsum_cons, lsum_cons, lsum_nil, Int.toNat_natCast]
        rw [List.getD_eq_getElem?_getD, List.append_assoc, List.getElem?_append_right (by omega), lt, Nat.sub_self]
        show ls.getD j 0 + ls.getD (j + 1) 0 = ls.getD j 0 + (ls.getD ((j : Int) + 1).toNat 0 + 0)
        rw [show ((j : Int) + 1).toNat = j + 1 by omega]
        omega
      · rw [if_neg (by omega), lsum_cons, lsum_nil, show ((j : Int) + 1).toNat = j + 1 by omega]
        rw [List.getD_eq_getElem?_getD, List.getElem?_append_right (by rw [List.length_append, lt, List.length_singleton]; omega), List.length_append, lt, List.length_singleton, List.getElem?_drop, show b + 2 + (j - (b + 1)) = j + 1 by omega, ← List.getD_eq_getElem?_getD]
        omega
theorem one_lsum {ls : List Int} {b : Nat} (h2 : 2 ≤ ls.length) (hb : b < ls.length) : ∀ {l : List Int}, (∀ k ∈ l, 0 ≤ k ∧ k < ((ls.length - 1 : Nat) : Int)) → lsum (oneL ls b) l = lsum ls (l.flatMap (olds ls.length b))
  | [], _ => rfl
  | k :: l, h => by
    have hk := h k (List.mem_cons_self ..)
    rw [lsum_cons, List.flatMap_cons, lsum_app, one_get h2 hb hk.1 hk.2, one_lsum h2 hb fun k hk => h k (List.mem_cons_of_mem _ hk)]
theorem one_sum {ls : List Int} {b : Nat} (h2 : 2 ≤ ls.length) (hb : b < ls.length) : (oneL ls b).sum = ls.sum := by
  unfold oneL
  by_cases c : b + 1 = ls.length
  · rw [if_pos c, List.sum_append, split_sum hb, List.drop_eq_nil_of_le (show ls.length ≤ b + 1 by omega)]
    have e : (ls.take b).sum = ls.getD 0 0 + ((ls.drop 1).take (b - 1)).sum := by
      cases ls with
      | nil => simp at h2
      | cons x r =>
        cases b with
        | zero =>
          exfalso
          simp at c
          rw [c] at h2
          simp at h2
        | succ b => simp
    rw [e]
    simp only [List.sum_cons, List.sum_nil]
    omega
  · rw [if_neg c, List.sum_append, List.sum_append, split_sum hb]
    have hb2 : b + 1 < ls.length := by omega
    have e : (ls.drop (b + 1)).sum = ls.getD (b + 1) 0 + (ls.drop (b + 2)).sum := by
      rw [List.drop_eq_getElem_cons hb2, List.sum_cons, getD_at hb2]
    rw [e]
    simp only [List.sum_cons, List.sum_nil]
    omega
theorem one_sort {ls : List Int} {b : Nat} (h2 : 2 ≤ ls.length) (hb : b < ls.length) {l : List Int} (h : ∀ k ∈ l, 0 ≤ k ∧ k < ((ls.length - 1 : Nat) : Int)) : sortV (oneL ls b) l = sortV ls (l.flatMap (olds ls.length b)) := by
  unfold sortV
  rw [one_lsum h2 hb h, one_sum h2 hb]
theorem one_closes {ls : List Int} {b : Nat} (h0 : ∀ x ∈ ls, 0 ≤ x) (h2 : 2 ≤ ls.length) (hb : b < ls.length) (h : closesB (oneL ls b) = true) : closesB ls = true := by
  unfold closesB at h ⊢
  rw [List.all_eq_true] at h ⊢
  intro x hx
  obtain ⟨j, hj, rfl⟩ := List.getElem_of_mem hx
  obtain ⟨⟨k0, k1⟩, hin⟩ := home_olds (n := ls.length) h2 hb (y := (j : Int)) (by omega) (by omega)
  have hle := get_le_lsum h0 hin
  rw [← one_get h2 hb k0 k1, Int.toNat_natCast, getD_at hj] at hle
  have ol := oneL_len hb h2
  have hm := getD_mem (ls := oneL ls b) (i := (home ls.length b j).toNat) (by omega)
  have hq := of_decide_eq_true (h _ hm)
  rw [one_sum h2 hb] at hq
  exact decide_eq_true (by omega)
theorem one_level {ls : List Int} {b : Nat} (h2 : 2 ≤ ls.length) (hb : b < ls.length) (h : levelB (oneL ls b) = true) : levelB ls = true := by
  obtain ⟨l, hl, e⟩ := level_iff.mp h
  have ol := oneL_len hb h2
  rw [show (oneL ls b).length = ls.length - 1 by omega] at hl
  have lot := lotsN_lot hl
  rw [one_lsum h2 hb lot.2, one_sum h2 hb] at e
  exact level_of (old_lot h2 hb lot) e
theorem one_bd {ls : List Int} {b : Nat} (bd : Bd 500000 ls) (h2 : 2 ≤ ls.length) (hb : b < ls.length) : Bd 1000000 (oneL ls b) := by
  have b1 := bd.le (show (500000 : Int) ≤ 1000000 by decide)
  have gb := bd.get hb
  unfold oneL
  split
  · have g0 := bd.get (i := 0) (by omega)
    exact (Bd.one (by omega) (by omega)).app ((b1.drop 1).take (b - 1))
  · have g1 := bd.get (i := b + 1) (by omega)
    exact ((b1.take b).app (Bd.one (by omega) (by omega))).app (b1.drop (b + 2))
def newsL (n b : Nat) : List (List Int) := (List.range (n - 1)).map fun k : Nat => olds n b k
def onesL (n : Nat) : List (List Int) := (List.range n).map fun k : Nat => [(k : Int)]
theorem ones_get {n k : Nat} (h : k < n) : (onesL n)[k]? = some [(k : Int)] := by
  unfold onesL
  rw [List.getElem?_map, List.getElem?_range h]
  rfl
theorem ones_len (n : Nat) : (onesL n).length = n := by unfold onesL; rw [List.length_map, List.length_range]
theorem news_get {n b k : Nat} (h : k < n - 1) : (newsL n b)[k]? = some (olds n b k) := by
  unfold newsL
  rw [List.getElem?_map, List.getElem?_range h]
  rfl
theorem news_len (n b : Nat) : (newsL n b).length = n - 1 := by unfold newsL; rw [List.length_map, List.length_range]
theorem news_last {n b : Nat} {x : List Int} (hn : 2 ≤ n) (c : b + 1 = n) : [[(0 : Int), (b : Int)]] ++ (((onesL n).set b x).drop 1).take (b - 1) = newsL n b := by
  refine List.ext_getElem? fun k => ?_
  by_cases hk : k < n - 1
  · rw [news_get hk]
    unfold olds
    rw [if_pos c]
    by_cases d : k = 0
    · subst d; rfl
    · rw [if_neg (by omega), List.getElem?_append_right (by rw [List.length_singleton]; omega), List.length_singleton, List.getElem?_take_of_lt (by omega), List.getElem?_drop, show 1 + (k - 1) = k by omega, List.getElem?_set_ne (by omega), ones_get (by omega)]
  · rw [List.getElem?_eq_none (by simp only [List.length_append, List.length_singleton, List.length_take, List.length_drop, List.length_set, ones_len]; omega), List.getElem?_eq_none (by rw [news_len]; omega)]
theorem news_else {n b : Nat} (c : b + 1 < n) : ((onesL n).set b [(b : Int), (b : Int) + 1]).eraseIdx (b + 1) = newsL n b := by
  refine List.ext_getElem? fun k => ?_
  by_cases hk : k < n - 1
  · rw [news_get hk]
    unfold olds
    rw [if_neg (by omega), List.getElem?_eraseIdx]
    by_cases d : k < b
    · rw [if_pos (by omega), if_pos (by omega), List.getElem?_set_ne (by omega), ones_get (by omega)]
    · rw [if_neg (show ¬ ((k : Int) < b) by omega)]
      by_cases e : k = b
      · subst e
        rw [if_pos (by omega), if_pos rfl, List.getElem?_set_self (by rw [ones_len]; omega)]
      · rw [if_neg (by omega), if_neg (by omega), List.getElem?_set_ne (by omega), ones_get (by omega)]
        rfl
  · rw [List.getElem?_eq_none (by rw [List.length_eraseIdx]; simp only [List.length_set, ones_len]; split <;> omega), List.getElem?_eq_none (by rw [news_len]; omega)]
/-! ### a bar put in two -/
def up (b : Nat) (a : Int) : Int := a + (if (b : Int) < a then 1 else 0)
def movedL (b : Nat) (l : List Int) : List Int := l.map (up b) ++ (if (b : Int) ∈ l then [(b : Int) + 1] else [])
theorem two_get {ls : List Int} {b : Nat} {z : Int} (hb : b < ls.length) {a : Int} (a0 : 0 ≤ a) (a1 : a < ls.length) : (twoL ls b z).getD (up b a).toNat 0 = ls.getD a.toNat 0 - (if a = b then ls.getD b 0 - z else 0) := by
  obtain ⟨j, rfl⟩ : ∃ j : Nat, a = j := ⟨a.toNat, by omega⟩
  have hj : j < ls.length := by omega
  have lt : (ls.take b).length = b := by rw [List.length_take]; omega
  unfold twoL up
  rw [Int.toNat_natCast]
  by_cases d : j < b
  · rw [if_neg (by omega), if_neg (by omega), show ((j : Int) + 0).toNat = j by omega]
    rw [List.getD_eq_getElem?_getD, List.append_assoc, List.getElem?_append_left (by omega), List.getElem?_take_of_lt d, ← List.getD_eq_getElem?_getD]
    omega
  · by_cases e : j = b
    · subst e
      rw [if_neg (by omega), if_pos rfl, show ((j : Int) + 0).toNat = j by omega]
      rw [List.getD_eq_getElem?_getD, List.append_assoc, List.getElem?_append_right (by omega), lt, Nat.sub_self]
      show z = _
      omega
    · rw [if_pos (by omega), if_neg (by omega), show ((j : Int) + 1).toNat = j + 1 by omega]
      rw [List.getD_eq_getElem?_getD, List.getElem?_append_right (by rw [List.length_append, lt]; show b + 2 ≤ _; omega), List.length_append, lt, List.getElem?_drop, show b + 1 + (j + 1 - (b + [z, ls.getD b 0 - z].length)) = j by show b + 1 + (j + 1 - (b + 2)) = j; omega, ← List.getD_eq_getElem?_getD]
      omega
theorem two_next {ls : List Int} {b : Nat} {z : Int} (hb : b < ls.length) : (twoL ls b z).getD ((b : Int) + 1).toNat 0 = ls.getD b 0 - z := by
  have lt : (ls.take b).length = b := by rw [List.length_take]; omega
  unfold twoL
  rw [show ((b : Int) + 1).toNat = b + 1 by omega, List.getD_eq_getElem?_getD, List.append_assoc, List.getElem?_append_right (by omega), lt, show b + 1 - b = 1 by omega]
  rfl
theorem two_lsum0 {ls : List Int} {b : Nat} {z : Int} (hb : b < ls.length) : ∀ {l : List Int}, l.Nodup → (∀ a ∈ l, 0 ≤ a ∧ a < (ls.length : Int)) → lsum (twoL ls b z) (l.map (up b)) = lsum ls l - (if (b : Int) ∈ l then ls.getD b 0 - z else 0)
  | [], _, _ => by simp [lsum_nil]
  | a :: l, nd, h => by
    rw [List.nodup_cons] at nd
    have ha := h a (List.mem_cons_self ..)
    rw [List.map_cons, lsum_cons, lsum_cons, two_lsum0 hb nd.2 fun x hx => h x (List.mem_cons_of_mem _ hx), two_get hb ha.1 ha.2]
    by_cases e : a = b
    · subst e
      rw [if_pos rfl, if_neg nd.1, if_pos (List.mem_cons_self ..)]
      omega
    · rw [if_neg e]
      by_cases c : (b : Int) ∈ l
      · rw [if_pos c, if_pos (List.mem_cons_of_mem _ c)]
        omega
      · rw [if_neg c, if_neg fun z => c ((List.mem_cons.mp z).resolve_left fun q => e q.symm)]
        omega
theorem two_lsum {ls : List Int} {b : Nat} {z : Int} (hb : b < ls.length) {l : List Int} (h : Lot ls.length l) : lsum (twoL ls b z) (movedL b l) = lsum ls l := by
  unfold movedL
  rw [lsum_app, two_lsum0 hb h.1 h.2]
  split
  · rw [lsum_cons, lsum_nil, two_next hb]
    omega
  · rw [lsum_nil]
    omega
theorem up_in {n b : Nat} (hb : b < n) {a : Int} (a0 : 0 ≤ a) (a1 : a < n) : 0 ≤ up b a ∧ up b a < ((n + 1 : Nat) : Int) ∧ up b a ≠ (b : Int) + 1 := by
  unfold up
  split <;> omega
theorem moved_lot {n b : Nat} (hb : b < n) {l : List Int} (h : Lot n l) : Lot (n + 1) (movedL b l) := by
  have l1 : (l.map (up b)).Nodup := by
    unfold List.Nodup
    rw [List.pairwise_map]
    refine h.1.imp fun {x y} hne e => ?_
    unfold up at e
    split at e <;> split at e <;> omega
  unfold movedL
  refine ⟨List.nodup_append.mpr ⟨l1, ?_, fun x hx y hy e => ?_⟩, fun x hx => ?_⟩
  · split
    · exact List.nodup_cons.mpr ⟨fun h => by simp at h, List.nodup_nil⟩
    · exact List.nodup_nil
  · obtain ⟨a, ha, rfl⟩ := List.mem_map.mp hx
    have := up_in hb (h.2 a ha).1 (h.2 a ha).2
    split at hy
    · rw [List.mem_singleton] at hy
      exact this.2.2 (by rw [e, hy])
    · cases hy
  · rcases List.mem_append.mp hx with hx | hx
    · obtain ⟨a, ha, rfl⟩ := List.mem_map.mp hx
      have := up_in hb (h.2 a ha).1 (h.2 a ha).2
      exact ⟨this.1, this.2.1⟩
    · split at hx
      · rw [List.mem_singleton] at hx
        omega
      · cases hx
theorem two_sum {ls : List Int} {b : Nat} {z : Int} (hb : b < ls.length) : (twoL ls b z).sum = ls.sum := by
  unfold twoL
  rw [List.sum_append, List.sum_append, split_sum hb]
  simp only [List.sum_cons, List.sum_nil]
  omega
theorem two_sort {ls : List Int} {b : Nat} {z : Int} (hb : b < ls.length) {l : List Int} (h : Lot ls.length l) : sortV (twoL ls b z) (movedL b l) = sortV ls l := by
  unfold sortV
  rw [two_lsum hb h, two_sum hb]
theorem two_mem {ls : List Int} {b : Nat} {z : Int} {P : Int → Prop} (h : ∀ x ∈ ls, P x) (hz : P z) (hy : P (ls.getD b 0 - z)) : ∀ x ∈ twoL ls b z, P x := fun x hx => by
  unfold twoL at hx
  rcases List.mem_append.mp hx with hx | hx
  · rcases List.mem_append.mp hx with hx | hx
    · exact h x (List.mem_of_mem_take hx)
    · rcases List.mem_cons.mp hx with e | e
      · rw [e]; exact hz
      · rw [List.mem_singleton.mp e]; exact hy
  · exact h x (List.mem_of_mem_drop hx)
theorem two_closes {ls : List Int} {b : Nat} {z : Int} (hb : b < ls.length) (z1 : 1 ≤ z) (z2 : z ≤ ls.getD b 0 - 1) (h : closesB ls = true) : closesB (twoL ls b z) = true := by
  unfold closesB at h ⊢
  rw [two_sum hb]
  rw [List.all_eq_true] at h ⊢
  have hm := of_decide_eq_true (h _ (getD_mem hb))
  exact two_mem h (decide_eq_true (by omega)) (decide_eq_true (by omega))
theorem two_bd {ls : List Int} {b : Nat} {z : Int} (bd : Bd 1000000 ls) (hb : b < ls.length) (z1 : 1 ≤ z) (z2 : z ≤ ls.getD b 0 - 1) : Bd 1000000 (twoL ls b z) := by
  have := bd.get hb
  exact two_mem bd (by omega) (by omega)
end K
namespace K
open PySem L2 Rg LamX
open Evl (pss_cut)
section
variable {P : Program} {w : World} {K : PySem.W.Frag} {mg : Str → Option Value} {base : Heap}
def rTupleOf (K : PySem.W.Frag) : List V → Hp → VK → Prop := fun xs H Q => ∃ p ys, xs = [.ref p] ∧ ((SqL K H p ys ∧ ∀ l, H l = none → Q (.ref l) (upd H l (.tup ys))) ∨ (SqT K H p ys ∧ Q (.ref p) H))
def spAnew (K : PySem.W.Frag) : Sp := fun vs H Q _ => ∃ (a o : Addr) (n : Nat) (xs : List V) (nss : List (List Int)) (ns : List Int), vs = [.ref a, .ref o] ∧ H a = some (.tup xs) ∧ TL H xs nss ∧ nss.length ≤ 256 ∧ (∀ l ∈ nss, l ∈ lotsN n) ∧ n ≤ 8 ∧ H o = some (.lst (ns.map V.int)) ∧ ns.Perm (natB (List.range n)) ∧
  ∀ (p : Addr) (ys : List V) (mss : List (List Int)) (H' : Hp), Same H H' → H' p = some (.tup ys) → TL H' ys mss → mss.Perm (nss.map (anew ns)) → mss.Pairwise LLe → Q (.ref p) H'
def scLAo : Scope := { kind := .function, names := [(Str.ofString ".0", .local), (Str.ofString "_law_lot", .local), (Str.ofString "tuple", .globalImplicit), (Str.ofString "sorted", .globalImplicit), (Str.ofString "_law_order", .free)], isGenerator := false, isCoroutine := false }
abbrev nLA : List Str := ["_law_lots_here", "_law_order", "_law_found", "_law_lot", "_law_bar", "_law_size"]
theorem scLA : FnScope nLA ["_law_lots_here", "_law_order"] (defScope sLwLotsAnew) := ⟨rfl, rfl, rfl, by decide +kernel, rfl, by decide +kernel, by decide +kernel⟩
theorem ok_anew {f : Addr} {fd : FuncData} (F : Fun K "_law_lots_anew" "_law_lots_anew" sLwLotsAnew f fd) (T : Bi mg) : FnOk P w K mg base CX0 2 f fd ["_law_lots_here", "_law_order"] (spAnew K) := by
  refine F.ok scLA (fun vs H Q E h => ?_) (fun cdv A outer s H vs Q E hr h => ?_)
  · obtain ⟨a, o, n, xs, nss, ns, rfl, _⟩ := h
    rfl
  · have nd := scLA.nd
    refine ⟨_, pss_cons (ps_setLc (i := 2) (own := [("_law_lot", 3)]) (g := gName 3) (tt := tYes) (te := tCB (rTupleOf K) (tCons (tCB (rSortedI K) (tCons (tLc (iTup K (tVar 3)) (gName 4) tYes (tBM K "list" (rIndex K) (tVar 1) (tCons (tVar 4) tNil)) [4]) tNil)) tNil)) rfl nd rfl rfl (sw_true rfl rfl rfl (by decide +kernel)) (pi_tup (pv 0)) (blkOk_by (N := nLA) (sc := defScope sLwLotsAnew) (by decide +kernel)) (fun _ _ _ _ _ => pg_name (i := 3) nd rfl (Or.inl rfl)) (fun _ _ _ _ _ => pts_nil)
          (fun _ _ _ _ _ => pe_callTy (r := rTupleOf K) call_tuple_of (by rfl) T.tuple (by decide +kernel) (pa_cons (pe_callB (r := rSortedI K) cr_sortedI (by rfl) T.sorted (by decide +kernel) (pa_cons (pe_lc (own := [("_law_bar", 4)]) (g := gName 4) (tt := tYes) (te := tBM K "list" (rIndex K) (tVar 1) (tCons (tVar 4) tNil)) rfl nd (pi_tup (pv 3)) (blkOk_by (N := nLA) (sc := relS scLAo (defScope sLwLotsAnew)) (by decide +kernel)) (fun _ _ _ _ _ => pg_name (i := 4) nd rfl (Or.inl rfl)) (fun _ _ _ _ _ => pts_nil)
            (fun _ _ _ _ _ => (pe_bm (r := rIndex K) PySem.F.plainAttrs_list PySem.F.slot_list_index PySem.F.type_list_index mt_index (pv 1) (pa_cons (pv 4) pa_nil)))) pa_nil)) pa_nil)))
      (pss_one (ps_ret (pe_callTy call_tuple_of (by rfl) T.tuple (by decide +kernel) (pa_cons (pe_lc (own := [("_law_size", 5), ("_law_lot", 3)]) (g := gTup K 2 (gCons (gName 5) (gCons (gName 3) gNil))) (tt := tYes) (te := tVar 3) rfl nd
        (pi_list (pe_callB (cr_sortedN hr.units) (by rfl) T.sorted (by decide +kernel) (pa_cons (pe_lc (own := [("_law_lot", 3)]) (g := gName 3) (tt := tYes) (te := tTup (tCons (tCB (rLenS K) (tCons (tVar 3) tNil)) (tCons (tVar 3) tNil))) rfl nd (pi_list (pv 2))
          (blkOk_by (N := nLA) (sc := defScope sLwLotsAnew) (by decide +kernel)) (fun _ _ _ _ _ => pg_name (i := 3) nd rfl (Or.inl rfl)) (fun _ _ _ _ _ => pts_nil) (fun _ _ _ _ _ => pe_tup (pa_cons (pe_callB (r := rLenS K) call_len_seq (by rfl) T.len PySem.boot_len (pa_cons (pv 3) pa_nil)) (pa_cons (pv 3) pa_nil)))) pa_nil)))
        (blkOk_by (N := nLA) (sc := defScope sLwLotsAnew) (by decide +kernel)) (fun _ _ _ _ _ => pg_tup rfl (pgs_cons (pg_name (i := 5) nd rfl (Or.inl rfl)) (pgs_cons (pg_name (i := 3) nd rfl (Or.inl rfl)) pgs_nil))) (fun _ _ _ _ _ => pts_nil) (fun _ _ _ _ _ => pv 3)) pa_nil)))), ?_⟩
    obtain ⟨a, o, n, xs, nss, ns, rfl, ha, tl, nl, hin, n8, ho, pm, q⟩ := h
    refine ⟨_, rfl, a, rfl, ⟨_, .inl (.inl ha)⟩, fun D hD => ?_⟩
    refine lc_tup (K := K) (a := a) (xs := xs) (fun i H' => Same H H' ∧ ∃ ys, H' D = some (.lst ys) ∧ TL H' ys ((nss.take i).map (anew ns))) ⟨(Same.refl H).new hD, [], upd_same, .nil⟩ (fun i H' _ q => .inl (.inl (q.1 _ _ ha))) ?_ ?_
    · rintro i x H1 hi ⟨s1, ys, h1, yl⟩
      obtain ⟨l, hl, b, rfl, hb⟩ := par_get tl hi
      have hil : i < nss.length := (List.getElem?_eq_some_iff.mp hl).1
      have lin := hin l (List.mem_of_getElem? hl)
      have lot := lotsN_lot lin
      have hb1 := s1 _ _ hb
      have ll := lotsN_len _ _ lin
      refine ⟨rfl, _, rfl, b, rfl, ⟨_, .inl (.inl hb1)⟩, fun D2 hD2 => ?_⟩
      refine lc_tup (K := K) (a := b) (xs := l.map V.int) (fun j H' => Same H1 H' ∧ H' D2 = some (.lst (((l.take j).map (plc ns)).map V.int))) ⟨(Same.refl H1).new hD2, upd_same⟩ (fun j H' _ q => .inl (.inl (q.1 _ _ hb1))) ?_ ?_
      · rintro j y H2 hj ⟨s2, h2⟩
        obtain ⟨z, hz, rfl⟩ := int_at hj
        have hjl : j < l.length := (List.getElem?_eq_some_iff.mp hz).1
        have zl := lot.2 z (List.mem_of_getElem? hz)
        obtain ⟨_, hg, _⟩ := idx_at (bar_in pm zl.1 zl.2)
        have ho2 := s2 _ _ (s1 _ _ ho)
        refine ⟨rfl, _, rfl, .inl ⟨rfl, _, SqL.of ho2⟩, _, rfl, o, ns.map V.int, .int z, ns.idxOf z, .int z, rfl, rfl, SqL.of ho2, rfl, flat_ints _, by rw [List.getElem?_map, hg]; rfl, by simp [eqV], fun m z' hm hz' => ?_, _, h2, ?_, s2.mut hD2, ?_⟩
        · obtain ⟨y, hy, rfl⟩ := int_at hz'
          have := idx_not hm
          have ne : y ≠ z := fun z => this (by rw [hy, z])
          simp [eqV, ne]
        · rw [List.length_map, List.length_map, List.length_take]
          exact sm (by omega)
        · rw [upd_same, ← take_snoc hz, List.map_append, List.map_append]
          rfl
      · rintro H2 ⟨s2, h2⟩
        rw [List.length_map, List.take_length] at h2
        refine ⟨D2, l.map (plc ns), rfl, SqL.of h2, fun ns' p' pm' srt hp' => ⟨p', _, rfl, .inl ⟨SqL.of upd_same, fun t2 ht2 => ?_⟩⟩⟩
        have en : ns' = anew ns l := sorted_eq (pm'.trans (anew_perm pm lot).symm) srt ((lotsN_asc _ _ (anew_mem pm l)).imp fun h => by omega)
        subst en
        have s3 : Same H1 (upd (upd H2 p' (.lst ((anew ns l).map V.int))) t2 (.tup ((anew ns l).map V.int))) := s2.trans (((Same.refl H2).new hp').new ht2)
        have h3 : upd (upd H2 p' (.lst ((anew ns l).map V.int))) t2 (.tup ((anew ns l).map V.int)) t2 = some (.tup ((anew ns l).map V.int)) := upd_same
        generalize upd (upd H2 p' (.lst ((anew ns l).map V.int))) t2 (.tup ((anew ns l).map V.int)) = H3 at s3 h3 ⊢
        have h3D := s3 _ _ h1
        have yl3 := yl.same s3
        refine ⟨ys, h3D, ?_, (s1.trans s3).mut hD, _, upd_same, ?_⟩
        · rw [par_len yl, List.length_map, List.length_take]
          exact sm (by omega)
        · rw [← take_snoc hl, List.map_append]
          exact TL.mut (par_app yl3 (.cons ⟨t2, rfl, h3⟩ .nil)) h3D
    rintro H1 ⟨s1, ys, h1, yl⟩
    rw [par_len tl, List.take_length] at yl
    obtain ⟨mss, hmss⟩ : ∃ mss, mss = nss.map (anew ns) := ⟨_, rfl⟩
    have ml : mss.length ≤ 256 := by rw [hmss, List.length_map]; exact nl
    have m8 : ∀ m ∈ mss, m.length ≤ 8 := fun m hm => by
      rw [hmss] at hm
      obtain ⟨l, _, rfl⟩ := List.mem_map.mp hm
      have := lotsN_len _ _ (anew_mem pm l)
      omega
    rw [← hmss] at yl
    refine ⟨_, rfl, ?_⟩
    rw [← hmss] at q
    have yk0 := yl
    refine ⟨D, rfl, ⟨_, SqL.of h1⟩, fun D2 hD2 => ?_⟩
    refine lc_list (K := K) (a := D) (xs := ys) (fun j H2 => Same H1 H2 ∧ ∃ ws, H2 D2 = some (.lst ws) ∧ PL H2 ws (mss.take j)) ⟨(Same.refl H1).new hD2, [], upd_same, .nil⟩ (fun j H2 _ p => p.1.seq (SqL.of h1)) ?_ ?_
    · rintro j y H2 hj ⟨s2, ws, h2, wl⟩
      obtain ⟨m, hm, b, rfl, hb⟩ := par_get yl hj
      have hb2 := s2 _ _ hb
      refine ⟨rfl, _, rfl, b, _, rfl, .inr (.inl (.inl hb2)), _, rfl, (by show 2 ≤ sizeLine; decide), fun t ht => ⟨ws, by rw [upd_ne (ne_of_none h2 ht)]; exact h2, ?_, ((s2.new ht).mut hD2), _, upd_same, ?_⟩⟩
      · rw [par_len wl, List.length_take]
        exact sm (by omega)
      · have htD : t ≠ D2 := (ne_of_none h2 ht).symm
        have hbD : b ≠ D2 := fun e => by
          rw [e, h2] at hb2
          cases hb2
        have s4 : ∀ (q : Addr) (zs : List V), H2 q = some (.tup zs) → upd (upd H2 t (.tup [.int (m.map V.int).length, .ref b])) D2 (.lst (ws ++ [.ref t])) q = some (.tup zs) := fun q zs hq => by
          rw [upd_ne fun e => ?_, upd_ne (ne_of_none hq ht)]
          · exact hq
          · rw [e, h2] at hq
            cases hq
        rw [← take_snoc hm]
        refine par_app (par_imp (fun _ _ ⟨t, b', e, q, r⟩ => ⟨t, b', e, s4 _ _ q, s4 _ _ r⟩) wl) (.cons ⟨t, b, rfl, ?_, s4 _ _ hb2⟩ .nil)
        rw [upd_ne htD, upd_same, List.length_map]
    · rintro H2 ⟨s2, ws, h2, wl⟩
      rw [par_len yl, List.take_length] at wl
      have yk : ∀ y ∈ ws, ∃ ns ∈ mss, ∃ t b, y = V.ref t ∧ H2 t = some (.tup [.int (ns.length : Nat), .ref b]) ∧ H2 b = some (.tup (ns.map V.int)) := fun y hy => par_mem wl hy
      refine ⟨D2, ws, keyOf H2, rfl, SqL.of h2, fun y hy => ?_, fun zs p hz1 hz2 hp => ?_⟩
      · obtain ⟨ns, _, t, b, e, q1, q2⟩ := yk y hy
        rw [keyOf_at ⟨t, b, e, q1, q2⟩]
        exact ⟨t, b, e, q1, q2⟩
      have s3 : Same H2 (upd H2 p (.lst zs)) := (Same.refl H2).new hp
      have zl : zs.length = mss.length := by rw [hz2.length_eq, par_len wl]
      have zk : ∀ z ∈ zs, ∃ ns ∈ mss, ∃ t b, z = V.ref t ∧ H2 t = some (.tup [.int (ns.length : Nat), .ref b]) ∧ H2 b = some (.tup (ns.map V.int)) := fun z hz => yk z (hz2.mem_iff.mp hz)
      refine ⟨p, rfl, ⟨_, SqL.of upd_same⟩, fun G hG => ?_⟩
      have hG2 := s3.free hG
      refine lc_list (K := K) (a := p) (xs := zs) (fun j H3 => Same H2 H3 ∧ H3 p = some (.lst zs) ∧ H3 G = some (.lst ((zs.take j).map (lotOf H2)))) ⟨s3.new hG, by rw [upd_ne (ne_of_none upd_same hG)]; exact upd_same, upd_same⟩ (fun j H3 _ q => SqL.of q.2.1) ?_ ?_
      · rintro j z H3 hj ⟨s5, h5, h6⟩
        obtain ⟨ns, _, t, b, rfl, q1, q2⟩ := zk z (List.mem_of_getElem? hj)
        have hjl : j < zs.length := (List.getElem?_eq_some_iff.mp hj).1
        refine ⟨t, _, rfl, .inl (.inl (s5 _ _ q1)), rfl, ⟨_, _, rfl, _, _, rfl, rfl, rfl, _, rfl, _, h6, (by rw [List.length_map, List.length_take]; exact sm (by omega)), s5.mut hG2, by rw [upd_ne (ne_of_none upd_same hG)]; exact h5, ?_⟩⟩
        rw [upd_same, ← take_snoc hj, List.map_append, List.map_singleton, lotOf_at q1]
      · rintro H3 ⟨s5, h5, h6⟩
        rw [List.take_length] at h6
        have kk : ∀ z ∈ zs, ∃ ns ∈ mss, keyOf H2 z = (((ns.length : Nat) : Int), ns) ∧ cont H3 (lotOf H2 z) = ns ∧ ∃ b, lotOf H2 z = .ref b ∧ H3 b = some (.tup (ns.map V.int)) := fun z hz => by
          obtain ⟨ns, m, t, b, e, q1, q2⟩ := zk z hz
          subst e
          refine ⟨ns, m, keyOf_at ⟨t, b, rfl, q1, q2⟩, ?_, b, lotOf_at q1, s5 _ _ q2⟩
          rw [lotOf_at q1, cont_at (s5 _ _ q2)]
        have srt : zs.Pairwise fun u v => LLe (cont H3 (lotOf H2 u)) (cont H3 (lotOf H2 v)) := by
          refine List.Pairwise.imp_of_mem (fun {a b} ha hb r => ?_) hz1
          obtain ⟨na, _, ea, ca, _⟩ := kk a ha
          obtain ⟨nb, _, eb, cb, _⟩ := kk b hb
          dsimp only at r
          rw [ea, eb] at r
          unfold LLe lotK
          rw [ca, cb]
          exact r
        have mp : (zs.map fun z => cont H3 (lotOf H2 z)).Perm mss := by
          have e1 : zs.map (fun z => cont H3 (lotOf H2 z)) = zs.map fun z => (keyOf H2 z).2 := List.map_congr_left fun z hz => by
            obtain ⟨nz, _, ez, cz, _⟩ := kk z hz
            rw [ez, cz]
          have e2 : ws.map (fun z => (keyOf H2 z).2) = mss := par_map (fun a b r => by rw [keyOf_at r]) wl
          rw [e1, ← e2]
          exact hz2.map _
        have la : LotsAt H3 (zs.map (lotOf H2)) (cont H3) := fun x hx => by
          obtain ⟨z, hz, rfl⟩ := List.mem_map.mp hx
          obtain ⟨ns, _, _, c, b, e, h⟩ := kk z hz
          refine ⟨b, e, ?_⟩
          rw [c]
          exact h
        refine ⟨G, _, rfl, .inl ⟨SqL.of h6, fun t ht => ?_⟩⟩
        have s6 : Same H3 (upd H3 t (.tup (zs.map (lotOf H2)))) := (Same.refl H3).new ht
        refine q t _ ((zs.map (lotOf H2)).map (cont H3)) _ (((s1.trans s2).trans s5).trans s6) upd_same ((lots_tl la).same s6) (by rw [List.map_map]; exact mp) ?_
        rw [List.map_map]
        exact List.pairwise_map.mpr srt
end
end K
namespace K
open PySem L2 Rg LamX
open Evl (pss_cut)
section
variable {P : Program} {w : World} {K : PySem.W.Frag} {mg : Str → Option Value} {base : Heap}
theorem madeL3 {C l : Addr} {E : XK} {H : Hp} {ls : List Int} {R : Addr → VK} (hs : H l = some (.lst (ls.map V.int))) (l3 : 3 ≤ ls.length) (l8 : ls.length ≤ 8) (bd : Bd 1000000 ls) (h : ∀ r H', RingAt K C H' r ls → Same H H' → H r = none → R r .non H') :
    ∀ x dx, H x = none → H dx = none → dx ≠ x → spRV K C (.ref x :: ([.ref l] ++ [])) (upd (upd H dx (.own x)) x (.ins C dx [])) (R x) E := by
  intro x dx hx hdx _
  have s0 : Same H (upd (upd H dx (.own x)) x (.ins C dx [])) := fun b o q => by
    rw [upd_ne (ne_of_none q hx), upd_ne (ne_of_none q hdx)]
    exact q
  exact .inl ⟨x, l, dx, ls, rfl, upd_same, ⟨.base (.lst (s0 _ _ hs)), by decide⟩, SqL.of (s0 _ _ hs), l3, l8, bd, fun H' ring kp => h x H' ring (fun b o e => kp b o (s0 b o e) (ne_of_none e hx)) hx⟩
/-- a method that raises nothing, at any depth -/
structure MethK (P : Program) (w : World) (K : PySem.W.Frag) (mg : Str → Option Value) (base : Heap) (k : Nat) (C : Addr) (x : Str) (ps : List Str) (sp : Sp) (f : Addr) (fd : FuncData) : Prop where
  m : Meth K C x f
  ok : FnOk P w K mg base CX0 k f fd ps sp
  b : Binds K fd ps []
def spLenV (K : PySem.W.Frag) (C : Addr) : Sp := fun vs H Q _ => ∃ (r a : Addr) (ls ns : List Int), vs = [.ref r, .ref a] ∧ RingW K C H r ls ∧ ls.length ≤ 8 ∧ (H a = some (.lst (ns.map V.int)) ∨ H a = some (.tup (ns.map V.int))) ∧ Lot ls.length ns ∧ ∀ H', Same H H' → Q (.int (lsum ls ns)) H'
theorem ok_lenVal {C f : Addr} {c : Cs} {fd : FuncData} (F : FnOk P w K mg base (L2.CX P w) 5 f fd ["self", "lot"] (spLenOf K C c)) : FnOk P w K mg base CX0 5 f fd ["self", "lot"] (spLenV K C) :=
  (fn_calm F).imp fun vs H Q E ⟨r, a, ls, ns, hv, ring, l8, ha, lot, q⟩ => ⟨r, .ref a, ls, hv, ring, l8, by
    have n8 : ns.length ≤ 8 := Nat.le_trans (lot_len lot) l8
    rcases ha with ha | ha
    · exact LotV.lst ha lot n8 q
    · exact LotV.tpl ha lot n8 q⟩
def spSortG (K : PySem.W.Frag) (C : Addr) : Sp := fun vs H Q _ => ∃ (r a : Addr) (ls ns : List Int), vs = [.ref r, .ref a] ∧ RingW K C H r ls ∧ ls.length ≤ 8 ∧ (H a = some (.lst (ns.map V.int)) ∨ H a = some (.tup (ns.map V.int))) ∧ Lot ls.length ns ∧ ∀ H', Same H H' → Q (.str (sortV ls ns)) H'
theorem ok_sortG {C f : Addr} {c : Cs} {fd : FuncData} (F : FnOk P w K mg base (L2.CX P w) 6 f fd ["self", "lot"] (spSortOf K C c)) : FnOk P w K mg base CX0 6 f fd ["self", "lot"] (spSortG K C) :=
  (fn_calm F).imp fun vs H Q E ⟨r, a, ls, ns, hv, ring, l8, ha, lot, q⟩ => ⟨r, .ref a, ls, hv, ring, l8, by
    have n8 : ns.length ≤ 8 := Nat.le_trans (lot_len lot) l8
    rcases ha with ha | ha
    · exact LotV.lst ha lot n8 q
    · exact LotV.tpl ha lot n8 q⟩
/-- references to lists of ints -/
def ML (H : Hp) : List V → List (List Int) → Prop := Paired fun x ns => ∃ a, x = V.ref a ∧ H a = some (.lst (ns.map V.int))
theorem ML.same {H H' : Hp} {xs : List V} {nss : List (List Int)} (h : ML H xs nss) (s : Same H H') : ML H' xs nss := par_imp (fun _ _ ⟨a, e, q⟩ => ⟨a, e, s _ _ q⟩) h
theorem par_take {α β : Type} {R : α → β → Prop} : ∀ {xs : List α} {ys : List β} (k : Nat), Paired R xs ys → Paired R (xs.take k) (ys.take k)
  | _, _, 0, _ => .nil
  | _, _, _ + 1, .nil => .nil
  | _, _, k + 1, .cons h t => .cons h (par_take k t)
theorem par_drop {α β : Type} {R : α → β → Prop} : ∀ {xs : List α} {ys : List β} (k : Nat), Paired R xs ys → Paired R (xs.drop k) (ys.drop k)
  | _, _, 0, h => h
  | _, _, _ + 1, .nil => .nil
  | _, _, k + 1, .cons h t => par_drop k t
theorem par_set {α β : Type} {R : α → β → Prop} {x : α} {y : β} (r : R x y) : ∀ {xs : List α} {ys : List β} (k : Nat), Paired R xs ys → Paired R (xs.set k x) (ys.set k y)
  | _, _, _, .nil => .nil
  | _, _, 0, .cons h t => .cons r t
  | _, _, k + 1, .cons h t => .cons h (par_set r k t)
theorem par_erase {α β : Type} {R : α → β → Prop} : ∀ {xs : List α} {ys : List β} (k : Nat), Paired R xs ys → Paired R (xs.eraseIdx k) (ys.eraseIdx k)
  | _, _, _, .nil => .nil
  | _, _, 0, .cons h t => t
  | _, _, k + 1, .cons h t => .cons h (par_erase k t)
/-- lists of ints other than D stand while D is written -/
theorem ML.mut {H : Hp} {D : Addr} {ws : List V} {xs : List V} {nss : List (List Int)} (h : ML H xs nss) (hD : ∀ a, V.ref a ∈ xs → a ≠ D) : ML (upd H D (.lst ws)) xs nss := by
  induction h with
  | nil => exact .nil
  | cons r t ih =>
    obtain ⟨a, e, q⟩ := r
    refine .cons ⟨a, e, ?_⟩ (ih fun b hb => hD b (List.mem_cons_of_mem _ hb))
    rw [upd_ne (hD a (by rw [e]; exact List.mem_cons_self ..))]
    exact q
def spTog (K : PySem.W.Frag) : Sp := fun vs H Q _ => ∃ (p l : Addr) (ls : List Int) (e : Addr × List Int) (n : Nat), vs = [.ref p, .ref l] ∧ n < 900000 ∧ PenAt K H p e n ∧ l ≠ p ∧ H l = some (.lst (ls.map V.int)) ∧ 4 ≤ ls.length ∧ ls.length ≤ 8 ∧ Bd 500000 ls ∧
  ∀ H', But p H H' → PenAt K H' p e (n + 1) → Q (.bl true) H'
abbrev nTG : List Str := ["_law_pen_here", "_law_lengths_here", "_law_ring", "_law_many", "_law_bar", "_law_at", "_law_news", "_law_new", "_law_lot", "_law_old"]
theorem scTG : FnScope nTG ["_law_pen_here", "_law_lengths_here"] (defScope sLwTogetherRight) := ⟨rfl, rfl, rfl, by decide +kernel, rfl, by decide +kernel, by decide +kernel⟩
theorem no_m {t : Addr} {ls : List Int} {m : Str} (h1 : ¬ m = "lengths") (h2 : ¬ m = "total") (h3 : ¬ m = "closes") (h4 : ¬ m = "is_clear") : (rf t ls).lookup m = none := rf_no t ls h1 h2 h3 h4
theorem ok_tog {C f fI fB fN fD fS fL m1 m2 m3 : Addr} {fd fdI fdB fdN fdD fdS fdL d1 d2 d3 : FuncData} (F : Fun K "_law_together_right" "_law_together_right" sLwTogetherRight f fd) (T : Bi mg) (R : RingC K mg C) (G : RingP P w K mg base C fI fB fN fdI fdB fdN) (D : DrawAt P w K mg base fD fdD)
    (SO : DefAt P w K mg base CX0 2 "_law_sort" ["_law_lengths_here", "_law_lot"] (spSort K) fS fdS) (LO : DefAt P w K mg base CX0 2 "_law_lots" ["_law_many"] (spLots K) fL fdL)
    (M1 : MethK P w K mg base 6 C "as_one" ["self", "bar"] (spAsOne K C) m1 d1) (M2 : MethK P w K mg base 6 C "sort_of" ["self", "lot"] (spSortG K C) m2 d2) (M3 : MethK P w K mg base 5 C "length_of" ["self", "lot"] (spLenV K C) m3 d3) : FnOk P w K mg base CX0 7 f fd ["_law_pen_here", "_law_lengths_here"] (spTog K) := by
  refine F.ok scTG (fun vs H Q E h => ?_) (fun cdv A outer s H vs Q E hr h => ?_)
  · obtain ⟨p, l, ls, e, n, rfl, _⟩ := h
    rfl
  · have nd := scTG.nd
    refine ⟨_, pss_cons (ps_par (i := 2) (j := 3) (by rfl) nd rfl rfl (by decide) rfl rfl (pa_cons (pe_make G.made G.ok (hr.mono (by decide)) (by rfl) R.g G.b .nil pass0 (pa_cons (pv 1) pa_nil)) (pa_cons (pe_callB call_len_seq (by rfl) T.len PySem.boot_len (pa_cons (pv 1) pa_nil)) pa_nil)) (by rfl))
      (pss_cons (ps_set (i := 4) nd rfl (Or.inl rfl) (pe_call D.ok (hr.mono (by decide)) rfl D.g D.kp D.b .nil pass0 (pa_cons (pv 0) (pa_cons (pv 3) pa_nil))))
      (pss_cons (ps_setLc (i := 6) (own := [("_law_at", 5)]) (g := gName 5) (tt := tYes) (te := tLst (tCons (tVar 5) tNil)) rfl nd rfl rfl (sw_true rfl rfl rfl (by decide +kernel)) (pi_range1 (by rfl) T.range (pa_cons (pv 3) pa_nil)) (blkOk_by (N := nTG) (sc := defScope sLwTogetherRight) (by decide +kernel)) (fun _ _ _ _ _ => pg_name (i := 5) nd rfl (Or.inl rfl)) (fun _ _ _ _ _ => pts_nil) (fun _ _ _ _ _ => pe_lst (pa_cons (pv 5) pa_nil)))
      (pss_cons (ps_asg (pe_callB cr_sortedI (by rfl) T.sorted (by decide +kernel) (pa_cons (pe_lst (pa_cons (pv 4) (pa_cons (pe_op op_mod (pe_callTy call_int1 (by rfl) T.int (by decide +kernel) (pa_cons (pe_op op_add (pv 4) pe_int) pa_nil)) (pv 3)) pa_nil))) pa_nil)) (pg_sub (pv 6) (pv 4) set_list))
      (pss_cut (ps_if (pt_cmpR op_eq (pv 4) (pe_op op_sub (pv 3) pe_int) (nomark _))
        (pss_one (ps_set (i := 6) nd rfl (Or.inl rfl) (pe_op op_cat (pe_lst (pa_cons (pe_ix ix_list (pv 6) (pv 4) (fun _ _ => rfl)) pa_nil)) (pe_slice sl_list (pv 6) (po_some pe_int) (po_some (pv 4))))))
        (pss_one (ps_expr (pe_bm PySem.F.plainAttrs_list PySem.F.slot_list_pop PySem.F.type_list_pop mt_popAt (pv 6) (pa_cons (pe_op op_add (pv 4) pe_int) pa_nil)))))
      (pss_cons (ps_set (i := 7) nd rfl (Or.inl rfl) (pe_meth (pv 2) R.cl M1.m M1.ok hr M1.b .nil pass0 (pa_cons (pv 4) pa_nil)))
      (pss_cons (ps_for PassesOwn.never rfl (pi_list (pe_call LO.ok (hr.mono (by decide)) rfl LO.g LO.kp LO.b .nil pass0 (pa_cons (pe_op op_sub (pv 3) pe_int) pa_nil))) (pg_name (i := 8) nd rfl (Or.inl rfl))
        (pss_cons (ps_set (i := 9) nd rfl (Or.inl rfl) (pe_lst pa_nil))
        (pss_cons (ps_for PassesOwn.never rfl (pi_tup (pv 8)) (pg_name (i := 5) nd rfl (Or.inl rfl)) (pss_one (ps_expr (pe_bm PySem.F.plainAttrs_list PySem.F.slot_list_extend PySem.F.type_list_extend mt_extend (pv 9) (pa_cons (pe_ix ix_list (pv 6) (pv 5) (fun _ _ => rfl)) pa_nil)))))
        (pss_one (ps_if (PW.pt (pw_or (pt_cmpR op_ne (pe_meth (pv 7) R.cl M2.m M2.ok hr M2.b .nil pass0 (pa_cons (pv 8) pa_nil)) (pe_call SO.ok (hr.mono (by decide)) rfl SO.g SO.kp SO.b .nil pass0 (pa_cons (pv 1) (pa_cons (pv 9) pa_nil))) (nomark _)) (pw_or1 (pt_cmpR op_ne (pe_meth (pv 7) R.cl M3.m M3.ok (hr.mono (by decide)) M3.b .nil pass0 (pa_cons (pv 8) pa_nil)) (pe_meth (pv 2) R.cl M3.m M3.ok (hr.mono (by decide)) M3.b .nil pass0 (pa_cons (pv 9) pa_nil)) (nomark _))))) (pss_one ps_never) pss_nil)))))
      (pss_cons (ps_if (PW.pt (pw_or (PW.pt (pw_and (pt_cmpR op_isBl (pe_fld (pv 7) rfl) pe_bl (nomark _)) (pw_and1 (pt_cmpR op_isBl (pe_fld (pv 2) rfl) pe_bl (nomark _))))) (pw_or1 (PW.pt (pw_and (pt_cmpR op_isBl (pe_fld (pv 2) rfl) pe_bl (nomark _)) (pw_and1 (pt_cmpR op_isBl (pe_fld (pv 7) rfl) pe_bl (nomark _)))))))) (pss_one ps_never) pss_nil)
      (pss_one (ps_ret (pe_cmpR op_eq (pe_fld (pv 7) rfl) (pe_fld (pv 2) rfl) (nomark _))))))))))), ?_⟩
    obtain ⟨p, l, ls, e, n, rfl, hn, pen, hlp, hl, l4, l8, bd, q⟩ := h
    have h0 : ∀ x ∈ ls, 0 ≤ x := fun x hx => by have := (bd x hx).1; omega
    have h2 : 2 ≤ ls.length := by omega
    refine ⟨_, rfl, madeL3 hl (by omega) l8 (bd.le (by decide)) fun r H1 ring s1 nr => ?_⟩
    have hl1 := s1 _ _ hl
    have pen1 := pen.same s1
    refine ⟨rfl, _, rfl, l, _, rfl, .inl (SqL.of hl1), _, _, rfl, ?_⟩
    rw [List.length_map]
    refine ⟨_, rfl, _, rfl, p, e, _, n, rfl, by omega, by omega, by omega, pen1, fun b H2 b0 b1 k2 pen2 => ?_⟩
    obtain ⟨b, rfl⟩ := Int.eq_ofNat_of_zero_le b0
    have hb : b < ls.length := by omega
    refine ⟨_, rfl, _, rfl, by omega, by omega, fun D hD => ?_⟩
    have hDp : D ≠ p := pen2.ne hD
    refine lc_range (lo := 0) (n := ((ls.length : Nat) : Int).toNat) (fun i H' => Same H2 H' ∧ ∃ xs, H' D = some (.lst xs) ∧ (∀ a, V.ref a ∈ xs → a ≠ D) ∧ ML H' xs (onesL i)) ⟨(Same.refl H2).new hD, [], upd_same, (fun a h => nomatch h), .nil⟩ ?_ ?_
    · rintro i H' hi ⟨s3, xs, h3, nD, ml⟩
      rw [Int.zero_add]
      refine ⟨rfl, _, rfl, (by show 1 ≤ sizeLine; decide), fun c hc => ?_⟩
      have hcD : c ≠ D := (ne_of_none h3 hc).symm
      have nD2 : ∀ a, V.ref a ∈ xs ++ [V.ref c] → a ≠ D := fun a ha => by
        rcases List.mem_append.mp ha with z | z
        · exact nD a z
        · rw [List.mem_singleton] at z
          rw [V.ref.inj z]; exact hcD
      refine ⟨xs, by rw [upd_ne (ne_of_none h3 hc)]; exact h3, ?_, (s3.new hc).mut hD, _, upd_same, nD2, ?_⟩
      · rw [par_len ml, ones_len]
        exact sm (by omega)
      · refine ML.mut ?_ nD2
        unfold onesL
        rw [range_snoc]
        exact par_app (ml.same ((Same.refl H').new hc)) (.cons ⟨c, rfl, upd_same⟩ .nil)
    rintro H3 ⟨s3, xs, h3, nD, ml⟩
    rw [Int.toNat_natCast] at ml
    have hxb : ∃ v, xs[b]? = some v := ⟨_, List.getElem?_eq_getElem (by rw [par_len ml, ones_len]; exact hb)⟩
    have xl : xs.length = ls.length := by rw [par_len ml, ones_len]
    -- news[bar] = sorted(..)
    refine ⟨_, rfl, _, rfl, _, _, rfl, rfl, .inl ⟨_, rfl, _, rfl, _, _, rfl, rfl, (show (0 : Int) < ls.length by omega), (by show 2 ≤ sizeLine; decide), fun c hc => ⟨c, [(b : Int), ((b : Int) + 1) % (ls.length : Int)], rfl, SqL.of upd_same, fun ns' p' pm' srt hp' => ?_⟩⟩⟩
    have en : (b + 1 = ls.length ∧ ns' = [0, (b : Int)]) ∨ (b + 1 < ls.length ∧ ns' = [(b : Int), (b : Int) + 1]) := by
      by_cases c : b + 1 = ls.length
      · refine .inl ⟨c, sorted_eq (pm'.trans ?_) srt ?_⟩
        · rw [show ((b : Int) + 1) = (ls.length : Int) by omega, Int.emod_self]
          exact List.Perm.swap ..
        · simp
      · refine .inr ⟨by omega, sorted_eq (pm'.trans ?_) srt ?_⟩
        · rw [Int.emod_eq_of_lt (by omega) (by omega)]
        · simp
          omega
    have hcD : c ≠ D := (ne_of_none h3 hc).symm
    have h3c : upd H3 c (.lst [.int (b : Int), .int (((b : Int) + 1) % (ls.length : Int))]) D = some (.lst xs) := by rw [upd_ne (ne_of_none h3 hc)]; exact h3
    have hpD : p' ≠ D := (ne_of_none h3c hp').symm
    have s4 : Same H2 (upd (upd H3 c (.lst [.int (b : Int), .int (((b : Int) + 1) % (ls.length : Int))])) p' (.lst (ns'.map V.int))) := (s3.new hc).new hp'
    have h4p : upd (upd H3 c (.lst [.int (b : Int), .int (((b : Int) + 1) % (ls.length : Int))])) p' (.lst (ns'.map V.int)) p' = some (.lst (ns'.map V.int)) := upd_same
    have h4 : upd (upd H3 c (.lst [.int (b : Int), .int (((b : Int) + 1) % (ls.length : Int))])) p' (.lst (ns'.map V.int)) D = some (.lst xs) := by rw [upd_ne hpD.symm]; exact h3c
    have ml4 := ml.same (((Same.refl H3).new (o := .lst [.int (b : Int), .int (((b : Int) + 1) % (ls.length : Int))]) hc).new (o := .lst (ns'.map V.int)) hp')
    generalize upd (upd H3 c (.lst [.int (b : Int), .int (((b : Int) + 1) % (ls.length : Int))])) p' (.lst (ns'.map V.int)) = H4 at s4 h4p h4 ml4 ⊢
    refine ⟨_, rfl, _, rfl, D, xs, b, b, rfl, rfl, h4, by rw [xl]; exact ixN_at (by omega) (by omega), ?_⟩
    have nD5 : ∀ a, V.ref a ∈ xs.set b (V.ref p') → a ≠ D := fun a ha => by
      rcases List.mem_or_eq_of_mem_set ha with z | z
      · exact nD a z
      · rw [V.ref.inj z]; exact hpD
    have ml5 : ML (upd H4 D (.lst (xs.set b (V.ref p')))) (xs.set b (V.ref p')) ((onesL ls.length).set b ns') := ML.mut (par_set (R := fun (x : V) (ns : List Int) => ∃ a, x = V.ref a ∧ H4 a = some (.lst (ns.map V.int))) ⟨p', rfl, h4p⟩ b ml4) nD5
    have s5 : Same H2 (upd H4 D (.lst (xs.set b (V.ref p')))) := s4.mut hD
    have h5 : upd H4 D (.lst (xs.set b (V.ref p'))) D = some (.lst (xs.set b (V.ref p'))) := upd_same
    have xl5 : (xs.set b (V.ref p')).length = ls.length := by rw [List.length_set, xl]
    generalize upd H4 D (.lst (xs.set b (V.ref p'))) = H5 at s5 h5 ml5 ⊢
    generalize xs.set b (V.ref p') = ys at xl5 h5 ml5 nD5 ⊢
    -- one of two forms
    refine ⟨fun σ' H' => ∃ (d : Addr) (zs : List V), σ' = [some (.ref p), some (.ref l), some (.ref r), some (.int (ls.length : Nat)), some (.int (b : Nat)), none, some (.ref d), none, none, none] ∧ Same H2 H' ∧ H' d = some (.lst zs) ∧ ML H' zs (newsL ls.length b), ?_, ?_⟩
    · refine ⟨_, rfl, _, rfl, _, _, rfl, rfl, rfl, _, rfl, ?_⟩
      rcases en with ⟨c, rfl⟩ | ⟨c, rfl⟩
      · refine iteDT (by rw [show (b : Int) = (ls.length : Int) - 1 by omega]) ?_
        have hyb : ys[b]? = some ys[b] := List.getElem?_eq_getElem (by omega)
        obtain ⟨y, hy, a, ea, ha⟩ := par_get ml5 hyb
        rw [List.getElem?_set_self (by rw [ones_len]; exact hb)] at hy
        obtain rfl := Option.some.inj hy
        refine ⟨_, rfl, _, rfl, D, ys, b, _, rfl, rfl, SqL.of h5, atI_nat hyb, (by show 1 ≤ sizeLine; decide), fun u hu => ?_⟩
        have s6 := s5.new (o := .lst [ys[b]]) hu
        have h5u : upd H5 u (.lst [ys[b]]) D = some (.lst ys) := by rw [upd_ne (ne_of_none h5 hu)]; exact h5
        refine ⟨_, rfl, _, rfl, _, rfl, _, rfl, D, ys, rfl, SqL.of h5u, fun v hv => ?_⟩
        rw [cut_mid ys (z := 1) (w := (b : Int)) (j := 1) (k := b) rfl rfl (by omega) (by omega)]
        have huv : upd (upd H5 u (.lst [ys[b]])) v (.lst ((ys.drop 1).take (b - 1))) u = some (.lst [ys[b]]) := by rw [upd_ne (ne_of_none upd_same hv)]; exact upd_same
        refine ⟨u, v, _, _, rfl, rfl, huv, upd_same, (by rw [List.length_take, List.length_drop, List.length_singleton]; exact Nat.le_of_lt (sm (by omega))), fun d hd => ⟨d, _, rfl, (s6.new hv).new hd, upd_same, ?_⟩⟩
        rw [← news_last (x := [0, (b : Int)]) h2 c]
        refine ML.same ?_ (((((Same.refl H5).new hu).new hv).new hd))
        exact par_app (.cons ⟨a, ea, ha⟩ .nil) (par_take (b - 1) (par_drop 1 ml5))
      · refine iteDF (fun z => by have := V.int.inj z; omega) ?_
        have hyb : ys[b + 1]? = some ys[b + 1] := List.getElem?_eq_getElem (by omega)
        refine ⟨_, rfl, .inl ⟨rfl, _, SqL.of h5⟩, _, rfl, _, _, rfl, rfl, D, ys, (b : Int) + 1, b + 1, _, rfl, rfl, h5, by omega, by omega, seqIndex_of (k := (b : Int) + 1) (by omega) (by omega), hyb, ?_⟩
        refine ⟨D, _, rfl, s5.mut hD, upd_same, ?_⟩
        rw [← news_else c]
        exact ML.mut (par_erase (b + 1) ml5) fun a ha => nD5 a (List.mem_of_mem_eraseIdx ha)
    rintro σ' H6 ⟨d, zs, rfl, s6, h6, ml6⟩
    clear h3 h5 ml ml5 nD nD5 xl xl5 en s3 s5 hxb pm' srt
    have ring6 := (ring.but k2 pen1).same s6
    have kb : But p H H6 := ((But.of s1).trans k2).trans (But.of s6)
    have pen6 := pen2.same s6
    have hl6 : H6 l = some (.lst (ls.map V.int)) := kb _ _ hlp hl
    obtain ⟨dx, t0, hr6, ht0⟩ := id ring6.weak
    have ol := oneL_len hb h2
    refine ⟨_, rfl, r, dx, _, rfl, hr6, no_m (by decide +kernel) (by decide +kernel) (by decide +kernel) (by decide +kernel), _, rfl, r, b, ls, rfl, ring6.weak, l4, l8, hb, one_bd bd h2 hb, fun r7 H7 ring7 s7 nr7 => ?_⟩
    -- all lots
    refine ⟨_, rfl, _, _, rfl, rfl, ls.length - 1, congrArg (fun z => [V.int z]) (by omega), by omega, by omega, fun p8 xs8 kf H8 s8 h8 la8 pm8 od8 => ⟨p8, rfl, ⟨_, SqL.of h8⟩, ?_⟩⟩
    have s68 := s7.trans s8
    have ring8 := ring6.weak.same s68
    have rin8 := ring7.same s8
    have hl8 := s68 _ _ hl6
    have hd8 := s68 _ _ h6
    have ml8 := ml6.same s68
    obtain ⟨dx7, t7, hr7, ht7⟩ := id rin8
    have hr8 := s68 _ _ hr6
    refine for_list (K := K) (a := p8) (xs := xs8) (fun i σ H' => ∃ (z5 z8 z9 : Option V), σ = [some (.ref p), some (.ref l), some (.ref r), some (.int (ls.length : Nat)), some (.int (b : Nat)), z5, some (.ref d), some (.ref r7), z8, z9] ∧ Same H8 H') ⟨none, none, none, rfl, Same.refl _⟩ (fun i σ H' _ ⟨_, _, _, _, s⟩ => SqL.of (s _ _ h8)) ?_ ?_
    · rintro i x σ H9 hi ⟨z5, z8, z9, rfl, s9⟩
      have hx := List.mem_of_getElem? hi
      obtain ⟨t, rfl, ht⟩ := la8 x hx
      have lin : kf (.ref t) ∈ lotsN (ls.length - 1) := pm8.mem_iff.mp (List.mem_map.mpr ⟨_, hx, rfl⟩)
      have lot := lotsN_lot lin
      generalize kf (.ref t) = m at ht lin lot
      have ht9 := s9 _ _ ht
      refine ⟨(by show 0 ≤ sizeLine; decide), fun o ho => ?_⟩
      have s10 : Same H9 (upd H9 o (.lst [])) := (Same.refl H9).new ho
      have h10 : upd H9 o (.lst []) o = some (.lst []) := upd_same
      generalize upd H9 o (.lst []) = H10 at s10 h10 ⊢
      refine ⟨_, rfl, t, rfl, ⟨_, .inl (.inl (s10 _ _ ht9))⟩, ?_⟩
      refine for_tup (K := K) (a := t) (xs := m.map V.int) (fun j σ H' => ∃ z5 : Option V, σ = [some (.ref p), some (.ref l), some (.ref r), some (.int (ls.length : Nat)), some (.int (b : Nat)), z5, some (.ref d), some (.ref r7), some (.ref t), some (.ref o)] ∧ Same H9 H' ∧ H' o = some (.lst (((m.take j).flatMap (olds ls.length b)).map V.int))) ⟨z5, rfl, s10, h10⟩ (fun j σ H' _ ⟨_, _, s, _⟩ => .inl (.inl (s _ _ ht9))) ?_ ?_
      · rintro j y σ H11 hj ⟨z5', rfl, s11, h11⟩
        obtain ⟨z, hz, rfl⟩ := int_at hj
        have zr := lot.2 z (List.mem_of_getElem? hz)
        obtain ⟨k, rfl⟩ := Int.eq_ofNat_of_zero_le zr.1
        have hk : k < ls.length - 1 := by omega
        have kl : k < zs.length := by rw [par_len ml8, news_len]; exact hk
        have hv : zs[k]? = some zs[k] := List.getElem?_eq_getElem kl
        obtain ⟨y, hy, a, ea, ha⟩ := par_get ml8 hv
        rw [news_get hk] at hy
        obtain rfl := Option.some.inj hy
        have s811 := s9.trans s11
        have lt := lot_len (old_lot h2 hb (lot_take (d := j) lot))
        have lo := olds_len ls.length b k
        refine ⟨_, rfl, .inl ⟨rfl, _, SqL.of h11⟩, _, rfl, _, rfl, d, zs, (k : Int), _, rfl, rfl, SqL.of (s811 _ _ hd8), atI_nat hv, o, a, _, _, rfl, by rw [ea], h11, s811 _ _ ha, ?_, ⟨_, rfl, s11.mut ho, ?_⟩⟩
        · rw [List.length_map, List.length_map]
          exact Nat.le_of_lt (sm (by omega))
        · rw [upd_same, ← take_snoc hz, List.flatMap_append, ← List.map_append]
          simp
      · rintro σ H11 ⟨z5', rfl, s11, h11⟩
        rw [List.length_map, List.take_length] at h11
        have s811 := s9.trans s11
        have hr11 := s811 _ _ hr7
        have old := old_lot h2 hb lot
        have l7 : (oneL ls b).length ≤ 8 := by omega
        have lot7 : Lot (oneL ls b).length m := by rw [show (oneL ls b).length = ls.length - 1 by omega]; exact lot
        refine ⟨_, rfl, r7, dx7, _, rfl, hr11, no_m (by decide +kernel) (by decide +kernel) (by decide +kernel) (by decide +kernel), _, rfl, r7, t, oneL ls b, m, rfl, rin8.same s811, l7, .inr (s11 _ _ ht9), lot7, fun H12 s12 => ?_⟩
        have s812 := s811.trans s12
        have h12 := s12 _ _ h11
        refine ⟨_, rfl, _, rfl, l, o, ls, _, rfl, SqL.of (s812 _ _ hl8), .inl (SqL.of h12), l8, Nat.le_trans (lot_len old) l8, old, fun H13 s13 => ?_⟩
        have s813 := s812.trans s13
        have h13 := s13 _ _ h12
        refine ⟨rfl, _, rfl, ?_⟩
        rw [one_sort h2 hb lot.2]
        refine iteBF (ne_vv _) ?_
        refine ⟨_, rfl, r7, dx7, _, rfl, s813 _ _ hr7, no_m (by decide +kernel) (by decide +kernel) (by decide +kernel) (by decide +kernel), _, rfl, r7, t, oneL ls b, m, rfl, rin8.same s813, l7, .inr ((s12.trans s13) _ _ (s11 _ _ ht9)), lot7, fun H14 s14 => ?_⟩
        have s814 := s813.trans s14
        refine ⟨_, rfl, r, dx, _, rfl, s814 _ _ hr8, no_m (by decide +kernel) (by decide +kernel) (by decide +kernel) (by decide +kernel), _, rfl, r, o, ls, _, rfl, ring8.same s814, l8, .inl (s14 _ _ h13), old, fun H15 s15 => ?_⟩
        refine ⟨rfl, _, rfl, ?_⟩
        rw [one_lsum h2 hb lot.2]
        exact iteBF (ne_vv _) ⟨_, _, _, rfl, s814.trans s15⟩
    · rintro σ H9 ⟨z5, z8, z9, rfl, s9⟩
      have hr9 := s9 _ _ hr8
      have hr79 := s9 _ _ hr7
      have k9 : But p H H9 := (kb.trans (But.of s68)).trans (But.of s9)
      have pen9 := (pen6.same s68).same s9
      refine ⟨_, rfl, r7, C, dx7, _, _, rfl, hr79, R.cl, R.nC, rf_closes _ _, _, _, rfl, rfl, _, rfl, ?_⟩
      have lv7 : levelB ls = false → levelB (oneL ls b) = false := fun e => by
        cases c : levelB (oneL ls b) with
        | false => rfl
        | true => rw [one_level h2 hb c] at e; cases e
      have fin : tRet (tOp rEq (tFld K (tVar 7) "total") (tFld K (tVar 2) "total")) { nx := fun x H' => Q V.non H', rt := Q } [some (.ref p), some (.ref l), some (.ref r), some (.int (ls.length : Nat)), some (.int (b : Nat)), z5, some (.ref d), some (.ref r7), z8, z9] H9 := by
        refine ⟨_, rfl, r7, C, dx7, _, _, rfl, hr79, R.cl, R.nT, rf_total _ _, _, rfl, r, C, dx, _, _, rfl, hr9, R.cl, R.nT, rf_total _ _, rfl, ?_⟩
        rw [one_sum h2 hb, decide_eq_true rfl]
        exact q H9 k9 pen9
      cases cA : closesB (oneL ls b) with
      | true =>
        refine ite2 (fun _ => ?_) (fun z => absurd rfl z)
        have cB := one_closes h0 h2 hb cA
        refine ⟨_, rfl, r, C, dx, _, _, rfl, hr9, R.cl, R.nC, rf_closes _ _, _, _, rfl, rfl, _, rfl, ?_⟩
        rw [cB]
        refine ite2 (fun z => absurd z (by decide)) (fun _ => ?_)
        refine ⟨_, rfl, r, C, dx, _, _, rfl, hr9, R.cl, R.nI, rf_clear _ _, _, _, rfl, rfl, _, rfl, ?_⟩
        cases lv : levelB ls with
        | true =>
          refine ite2 (fun z => absurd z (by decide)) (fun _ => iteF ?_)
          exact fin
        | false =>
          refine ite2 (fun _ => ?_) (fun z => absurd rfl z)
          refine ⟨_, rfl, r7, C, dx7, _, _, rfl, hr79, R.cl, R.nI, rf_clear _ _, _, _, rfl, rfl, _, rfl, ?_⟩
          rw [lv7 lv]
          refine iteF ?_
          exact fin
      | false =>
        refine ite2 (fun z => absurd z (by decide)) (fun _ => ?_)
        refine ⟨_, rfl, r, C, dx, _, _, rfl, hr9, R.cl, R.nI, rf_clear _ _, _, _, rfl, rfl, _, rfl, ?_⟩
        cases lv : levelB ls with
        | true =>
          refine ite2 (fun z => absurd z (by decide)) (fun _ => iteF ?_)
          exact fin
        | false =>
          refine ite2 (fun _ => ?_) (fun z => absurd rfl z)
          refine ⟨_, rfl, r7, C, dx7, _, _, rfl, hr79, R.cl, R.nI, rf_clear _ _, _, _, rfl, rfl, _, rfl, ?_⟩
          rw [lv7 lv]
          refine iteF ?_
          exact fin
end
end K
namespace K
open PySem L2 Rg LamX
open Evl (pss_cut)
def isWide (ls : List Int) (j : Nat) : Bool := decide (1 < ls.getD j 0)
def wideN (ls : List Int) (i : Nat) : List Int := natB ((List.range i).filter (isWide ls))
theorem wide_in {ls : List Int} {i : Nat} (h : isWide ls i = true) : wideN ls (i + 1) = wideN ls i ++ [(i : Int)] := by
  unfold wideN natB
  rw [List.range_succ, List.filter_append, List.map_append]
  simp [h]
theorem wide_out {ls : List Int} {i : Nat} (h : isWide ls i = false) : wideN ls (i + 1) = wideN ls i := by
  unfold wideN natB
  rw [List.range_succ, List.filter_append, List.map_append]
  simp [h]
theorem wide_len {ls : List Int} {i : Nat} : (wideN ls i).length ≤ i := by
  unfold wideN natB
  rw [List.length_map]
  exact Nat.le_trans (List.length_filter_le ..) (by rw [List.length_range]; exact Nat.le_refl _)
theorem wide_mem {ls : List Int} {i : Nat} {z : Int} (h : z ∈ wideN ls i) : ∃ j : Nat, z = j ∧ j < i ∧ 1 < ls.getD j 0 := by
  obtain ⟨j, hj, rfl⟩ := List.mem_map.mp h
  obtain ⟨h1, h2⟩ := List.mem_filter.mp hj
  exact ⟨j, rfl, List.mem_range.mp h1, of_decide_eq_true h2⟩
theorem two_len {ls : List Int} {b : Nat} {z : Int} (h : b < ls.length) : (twoL ls b z).length = ls.length + 1 := twoL_len h
theorem wide_some {ls : List Int} {x : Int} (h : x ∈ ls) (hx : 1 < x) : 1 ≤ (wideN ls ls.length).length := by
  obtain ⟨j, hj, rfl⟩ := List.getElem_of_mem h
  have m : (j : Int) ∈ wideN ls ls.length := List.mem_map.mpr ⟨j, List.mem_filter.mpr ⟨List.mem_range.mpr hj, decide_eq_true (by rw [getD_at hj]; exact hx)⟩, rfl⟩
  exact List.length_pos_of_mem m
section
variable {P : Program} {w : World} {K : PySem.W.Frag} {mg : Str → Option Value} {base : Heap}
def spTwo (K : PySem.W.Frag) : Sp := fun vs H Q _ => ∃ (p l : Addr) (ls : List Int) (e : Addr × List Int) (n : Nat), vs = [.ref p, .ref l] ∧ n < 900000 ∧ PenAt K H p e n ∧ l ≠ p ∧ H l = some (.lst (ls.map V.int)) ∧ 3 ≤ ls.length ∧ ls.length ≤ 7 ∧ Bd 1000000 ls ∧ (∃ x ∈ ls, 1 < x) ∧
  ∀ H', But p H H' → PenAt K H' p e (n + 2) → Q (.bl true) H'
abbrev nTW : List Str := ["_law_pen_here", "_law_lengths_here", "_law_ring", "_law_many", "_law_bar", "_law_new", "_law_lot", "_law_moved", "_law_at"]
theorem scTW : FnScope nTW ["_law_pen_here", "_law_lengths_here"] (defScope sLwTwoRight) := ⟨rfl, rfl, rfl, by decide +kernel, rfl, by decide +kernel, by decide +kernel⟩
theorem ok_two {C f fI fB fN fD fL fP m1 m2 m3 : Addr} {fd fdI fdB fdN fdD fdL fdP d1 d2 d3 : FuncData} (F : Fun K "_law_two_right" "_law_two_right" sLwTwoRight f fd) (T : Bi mg) (R : RingC K mg C) (G : RingP P w K mg base C fI fB fN fdI fdB fdN) (D : DrawAt P w K mg base fD fdD)
    (PK : DefAt P w K mg base CX0 3 "_law_pick" ["_law_pen_here", "_law_some"] (spPick K) fP fdP) (LO : DefAt P w K mg base CX0 2 "_law_lots" ["_law_many"] (spLots K) fL fdL)
    (M1 : MethK P w K mg base 6 C "in_two" ["self", "bar", "length"] (spInTwo K C) m1 d1) (M2 : MethK P w K mg base 6 C "sort_of" ["self", "lot"] (spSortG K C) m2 d2) (M3 : MethK P w K mg base 5 C "length_of" ["self", "lot"] (spLenV K C) m3 d3) : FnOk P w K mg base CX0 7 f fd ["_law_pen_here", "_law_lengths_here"] (spTwo K) := by
  refine F.ok scTW (fun vs H Q E h => ?_) (fun cdv A outer s H vs Q E hr h => ?_)
  · obtain ⟨p, l, ls, e, n, rfl, _⟩ := h
    rfl
  · have nd := scTW.nd
    refine ⟨_, pss_cons (ps_par (i := 2) (j := 3) (by rfl) nd rfl rfl (by decide) rfl rfl (pa_cons (pe_make G.made G.ok (hr.mono (by decide)) (by rfl) R.g G.b .nil pass0 (pa_cons (pv 1) pa_nil)) (pa_cons (pe_callB call_len_seq (by rfl) T.len PySem.boot_len (pa_cons (pv 1) pa_nil)) pa_nil)) (by rfl))
      (pss_cons (ps_set (i := 4) nd rfl (Or.inr rfl) (pe_call PK.ok (hr.mono (by decide)) rfl PK.g PK.kp PK.b .nil pass0 (pa_cons (pv 0) (pa_cons (pe_lc (own := [("_law_at", 8)]) (g := gName 8) (tt := tTest (tOp (rI0 fun i j => .bl (decide (j < i))) (tOp (rIxL K) (tVar 1) (tVar 8)) (tC (.int 1)))) (te := tVar 8) rfl nd (pi_range1 (by rfl) T.range (pa_cons (pv 3) pa_nil)) (blkOk_by (N := nTW) (sc := defScope sLwTwoRight) (by decide +kernel)) (fun _ _ _ _ _ => pg_name (i := 8) nd rfl (Or.inl rfl)) (fun _ _ _ _ _ => pts_one (pt_cmpR op_gt (pe_ix (r := rIxL K) ix_list (pv 1) (pv 8) (fun _ _ => rfl)) pe_int (nomark _))) (fun _ _ _ _ _ => pv 8)) pa_nil))))
      (pss_cons (ps_set (i := 5) nd rfl (Or.inl rfl) (pe_meth (pv 2) R.cl M1.m M1.ok hr M1.b .nil pass0 (pa_cons (pv 4) (pa_cons (pe_op op_add pe_int (pe_call D.ok (hr.mono (by decide)) rfl D.g D.kp D.b .nil pass0 (pa_cons (pv 0) (pa_cons (pe_op op_sub (pe_ix ix_list (pv 1) (pv 4) (fun _ _ => rfl)) pe_int) pa_nil)))) pa_nil))))
      (pss_cons (ps_for PassesOwn.never rfl (pi_list (pe_call LO.ok (hr.mono (by decide)) rfl LO.g LO.kp LO.b .nil pass0 (pa_cons (pv 3) pa_nil))) (pg_name (i := 6) nd rfl (Or.inl rfl))
        (pss_cut (ps_set (i := 7) nd rfl (Or.inl rfl) (pe_op op_cat (pe_lc (own := [("_law_at", 8)]) (g := gName 8) (tt := tYes) rfl nd (pi_tup (pv 6)) (blkOk_by (N := nTW) (sc := defScope sLwTwoRight) (by decide +kernel)) (fun _ _ _ _ _ => pg_name (i := 8) nd rfl (Or.inl rfl)) (fun _ _ _ _ _ => pts_nil) (fun _ _ _ _ _ => pe_op op_add (pv 8) (pe_callTy call_int1 (by rfl) T.int (by decide +kernel) (pa_cons (pe_cmpR op_gt (pv 8) (pv 4) (nomark _)) pa_nil))))
            (pe_ifExp (pt_cmpR op_in_seq (pv 4) (pv 6) (by rfl)) (pe_lst (pa_cons (pe_op op_add (pv 4) pe_int) pa_nil)) (pe_lst pa_nil))))
        (pss_one (ps_if (PW.pt (pw_or (pt_cmpR op_ne (pe_meth (pv 5) R.cl M2.m M2.ok hr M2.b .nil pass0 (pa_cons (pv 7) pa_nil)) (pe_meth (pv 2) R.cl M2.m M2.ok hr M2.b .nil pass0 (pa_cons (pv 6) pa_nil)) (nomark _)) (pw_or1 (pt_cmpR op_ne (pe_meth (pv 5) R.cl M3.m M3.ok (hr.mono (by decide)) M3.b .nil pass0 (pa_cons (pv 7) pa_nil)) (pe_meth (pv 2) R.cl M3.m M3.ok (hr.mono (by decide)) M3.b .nil pass0 (pa_cons (pv 6) pa_nil)) (nomark _))))) (pss_one ps_never) pss_nil))))
      (pss_one (ps_ret (pe_or (pe_cmpR op_isBl (pe_fld (pv 5) rfl) pe_bl (nomark _)) (pe_one (pe_cmpR op_isBl (pe_fld (pv 2) rfl) pe_bl (nomark _))))))))), ?_⟩
    obtain ⟨p, l, ls, e, n, rfl, hn, pen, hlp, hl, l3, l7, bd, ⟨x0, hx0, wx0⟩, q⟩ := h
    refine ⟨_, rfl, madeL3 hl (by omega) (by omega) bd fun r H1 ring s1 nr => ?_⟩
    have hl1 := s1 _ _ hl
    have pen1 := pen.same s1
    refine ⟨rfl, _, rfl, l, _, rfl, .inl (SqL.of hl1), _, _, rfl, ?_⟩
    rw [List.length_map]
    -- the bar
    refine ⟨_, rfl, _, rfl, _, rfl, by omega, by omega, fun D hD => ?_⟩
    have hDp : D ≠ p := pen1.ne hD
    refine lc_range (lo := 0) (n := ((ls.length : Nat) : Int).toNat) (fun i H' => Same H1 H' ∧ H' D = some (.lst ((wideN ls i).map V.int))) ⟨(Same.refl H1).new hD, upd_same⟩ ?_ ?_
    · rintro i H' hi ⟨s2, h2⟩
      rw [Int.toNat_natCast] at hi
      rw [Int.zero_add]
      refine ⟨rfl, _, rfl, _, rfl, l, _, _, _, rfl, rfl, SqL.of (s2 _ _ hl1), getL rfl hi, _, _, rfl, rfl, _, rfl, ?_⟩
      cases e : isWide ls i with
      | false => exact ite2 (fun z => by rw [show decide (1 < ls.getD i 0) = isWide ls i from rfl, e] at z; cases z) (fun _ => ⟨s2, by rw [wide_out e]; exact h2⟩)
      | true =>
        refine ite2 (fun _ => ?_) (fun z => absurd e z)
        refine ⟨_, rfl, _, h2, ?_, s2.mut hD, ?_⟩
        · have := wide_len (ls := ls) (i := i)
          rw [List.length_map]
          exact sm (by omega)
        · rw [upd_same, wide_in e, List.map_append]
          rfl
    rintro H2 ⟨s2, h2⟩
    rw [Int.toNat_natCast] at h2
    have pen2 := pen1.same s2
    have wl := wide_some hx0 wx0
    have wl2 := wide_len (ls := ls) (i := ls.length)
    refine ⟨p, D, e, _, n, rfl, SqL.of h2, hDp, by rw [List.length_map]; exact wl, by rw [List.length_map]; omega, by omega, pen2, fun i0 v H3 hv k3 pen3 => ?_⟩
    obtain ⟨z0, hz0, rfl⟩ := int_at hv
    obtain ⟨b, rfl, hb, wb⟩ := wide_mem (List.mem_of_getElem? hz0)
    have kb3 : But p H H3 := ((But.of s1).trans (But.of s2)).trans k3
    have hl3 : H3 l = some (.lst (ls.map V.int)) := kb3 _ _ hlp hl
    have ring3 := (ring.same s2).but k3 pen2
    obtain ⟨dx, t0, hr3, _⟩ := id ring3.weak
    refine ⟨_, rfl, r, dx, _, rfl, hr3, no_m (by decide +kernel) (by decide +kernel) (by decide +kernel) (by decide +kernel), _, rfl, ?_⟩
    have gb := bd.get hb
    refine ⟨_, rfl, _, rfl, _, rfl, l, _, _, _, rfl, rfl, SqL.of hl3, getL rfl hb, _, _, rfl, rfl, p, e, _, n + 1, rfl, by omega, by omega, by omega, pen3, fun z H4 z0 z1 k4 pen4 => ?_⟩
    have zz1 : 1 ≤ 1 + z := by omega
    have zz2 : 1 + z ≤ ls.getD b 0 - 1 := by omega
    have ring4 := ring3.but k4 pen3
    have kb4 := kb3.trans k4
    have hl4 : H4 l = some (.lst (ls.map V.int)) := kb4 _ _ hlp hl
    refine ⟨_, _, rfl, rfl, r, b, 1 + z, ls, rfl, ring4.weak, l3, l7, hb, zz1, zz2, two_bd bd hb zz1 zz2, fun r5 H5 ring5 s5 nr5 => ?_⟩
    obtain ⟨ms, hms⟩ : ∃ ms, ms = twoL ls b (1 + z) := ⟨_, rfl⟩
    have sortE : ∀ m, Lot ls.length m → sortV ms (movedL b m) = sortV ls m := fun m h => by rw [hms]; exact two_sort hb h
    have sumE : ∀ m, Lot ls.length m → lsum ms (movedL b m) = lsum ls m := fun m h => by rw [hms]; exact two_lsum hb h
    have closE : closesB ls = true → closesB ms = true := fun h => by rw [hms]; exact two_closes hb zz1 zz2 h
    have ml : ms.length = ls.length + 1 := by rw [hms]; exact two_len hb
    rw [← hms] at ring5
    refine ⟨_, rfl, ls.length, rfl, by omega, by omega, fun p8 xs8 kf H8 s8 h8 la8 pm8 od8 => ⟨p8, rfl, ⟨_, SqL.of h8⟩, ?_⟩⟩
    have s48 := s5.trans s8
    have ring8 := ring4.weak.same s48
    have rin8 := ring5.same s8
    obtain ⟨dx5, t5, hr5, _⟩ := id rin8
    obtain ⟨dx8, t8, hr8, _⟩ := id ring8
    refine for_list (K := K) (a := p8) (xs := xs8) (fun i σ H' => ∃ (z6 z7 : Option V), σ = [some (.ref p), some (.ref l), some (.ref r), some (.int (ls.length : Nat)), some (.int (b : Nat)), some (.ref r5), z6, z7, none] ∧ Same H8 H') ⟨none, none, rfl, Same.refl _⟩ (fun i σ H' _ ⟨_, _, _, s⟩ => SqL.of (s _ _ h8)) ?_ ?_
    · rintro i x σ H9 hi ⟨z6, z7, rfl, s9⟩
      have hx := List.mem_of_getElem? hi
      obtain ⟨t, rfl, ht⟩ := la8 x hx
      have lin : kf (.ref t) ∈ lotsN ls.length := pm8.mem_iff.mp (List.mem_map.mpr ⟨_, hx, rfl⟩)
      have lot := lotsN_lot lin
      have ll := lotsN_len _ _ lin
      generalize kf (.ref t) = m at ht lin lot ll
      have ht9 := s9 _ _ ht
      refine ⟨fun σ' H' => ∃ o : Addr, σ' = [some (.ref p), some (.ref l), some (.ref r), some (.int (ls.length : Nat)), some (.int (b : Nat)), some (.ref r5), some (.ref t), some (.ref o), none] ∧ Same H9 H' ∧ H' o = some (.lst ((movedL b m).map V.int)), ?_, ?_⟩
      · refine ⟨_, rfl, t, rfl, ⟨_, .inl (.inl ht9)⟩, fun D hD => ?_⟩
        refine lc_tup (K := K) (a := t) (xs := m.map V.int) (fun j H' => Same H9 H' ∧ H' D = some (.lst (((m.take j).map (up b)).map V.int))) ⟨(Same.refl H9).new hD, upd_same⟩ (fun j H' _ q => .inl (.inl (q.1 _ _ ht9))) ?_ ?_
        · rintro j y H10 hj ⟨s10, h10⟩
          obtain ⟨k, hk, rfl⟩ := int_at hj
          refine ⟨rfl, _, rfl, _, rfl, _, rfl, _, _, rfl, rfl, .inr ⟨_, rfl, _, _, rfl, rfl, _, h10, ?_, s10.mut hD, ?_⟩⟩
          · rw [List.length_map, List.length_map, List.length_take]
            exact sm (by omega)
          · rw [upd_same, ← take_snoc hk, List.map_append, List.map_append]
            unfold up
            simp only [decide_eq_true_eq]
            rfl
        rintro H10 ⟨s10, h10⟩
        rw [List.length_map, List.take_length] at h10
        have ht10 := s10 _ _ ht9
        refine ⟨_, rfl, _, rfl, t, _, rfl, .inr (.inl (.inl ht10)), rfl, flat_ints _, _, rfl, ?_⟩
        have eb : inV (.int (b : Int)) (m.map V.int) = hasI (b : Int) m := inV_int _ _
        dsimp only
        rw [eb]
        cases hh : hasI (b : Int) m with
        | true =>
          have hm : (b : Int) ∈ m := hasI_iff.mp hh
          have em : movedL b m = m.map (up b) ++ [(b : Int) + 1] := by unfold movedL; rw [if_pos hm]
          refine iteT ⟨_, rfl, _, _, rfl, rfl, (by show 1 ≤ sizeLine; decide), fun u hu => ?_⟩
          refine ⟨D, u, _, _, rfl, rfl, by rw [upd_ne (ne_of_none h10 hu)]; exact h10, upd_same, (by rw [List.length_map, List.length_map]; exact Nat.le_of_lt (sm (by show _ + 1 ≤ _; omega))), fun o ho => ⟨o, rfl, (s10.new hu).new ho, ?_⟩⟩
          rw [upd_same, em, List.map_append]
          rfl
        | false =>
          have hm : ¬ (b : Int) ∈ m := fun z => by rw [hasI_iff.mpr z] at hh; cases hh
          have em : movedL b m = m.map (up b) := by unfold movedL; rw [if_neg hm, List.append_nil]
          refine iteF ⟨(by show 0 ≤ sizeLine; decide), fun u hu => ?_⟩
          refine ⟨D, u, _, _, rfl, rfl, by rw [upd_ne (ne_of_none h10 hu)]; exact h10, upd_same, (by rw [List.length_map, List.length_map]; exact Nat.le_of_lt (sm (by show _ + 0 ≤ _; omega))), fun o ho => ⟨o, rfl, (s10.new hu).new ho, ?_⟩⟩
          rw [upd_same, em, List.append_nil]
      · rintro σ' H10 ⟨o, rfl, s10, h10⟩
        have s810 := s9.trans s10
        have ht10 := s10 _ _ ht9
        have mlot := moved_lot hb lot
        have l5 : ms.length ≤ 8 := by omega
        have mlot' : Lot ms.length (movedL b m) := by rw [ml]; exact mlot
        refine ⟨_, rfl, r5, dx5, _, rfl, s810 _ _ hr5, no_m (by decide +kernel) (by decide +kernel) (by decide +kernel) (by decide +kernel), _, rfl, r5, o, ms, _, rfl, rin8.same s810, l5, .inl h10, mlot', fun H11 s11 => ?_⟩
        have s811 := s810.trans s11
        refine ⟨_, rfl, r, dx8, _, rfl, s811 _ _ hr8, no_m (by decide +kernel) (by decide +kernel) (by decide +kernel) (by decide +kernel), _, rfl, r, t, ls, m, rfl, ring8.same s811, by omega, .inr (s11 _ _ ht10), lot, fun H12 s12 => ?_⟩
        have s812 := s811.trans s12
        refine ⟨rfl, _, rfl, ?_⟩
        rw [sortE m lot]
        refine iteBF (ne_vv _) ?_
        refine ⟨_, rfl, r5, dx5, _, rfl, s812 _ _ hr5, no_m (by decide +kernel) (by decide +kernel) (by decide +kernel) (by decide +kernel), _, rfl, r5, o, ms, _, rfl, rin8.same s812, l5, .inl ((s11.trans s12) _ _ h10), mlot', fun H13 s13 => ?_⟩
        have s813 := s812.trans s13
        refine ⟨_, rfl, r, dx8, _, rfl, s813 _ _ hr8, no_m (by decide +kernel) (by decide +kernel) (by decide +kernel) (by decide +kernel), _, rfl, r, t, ls, m, rfl, ring8.same s813, by omega, .inr (((s11.trans s12).trans s13) _ _ ht10), lot, fun H14 s14 => ?_⟩
        refine ⟨rfl, _, rfl, ?_⟩
        rw [sumE m lot]
        exact iteBF (ne_vv _) ⟨_, _, rfl, s813.trans s14⟩
    · rintro σ H9 ⟨z6, z7, rfl, s9⟩
      have hr9 := s9 _ _ hr8
      have hr59 := s9 _ _ hr5
      have k9 : But p H H9 := (kb4.trans (But.of s48)).trans (But.of s9)
      have pen9 := (pen4.same s48).same s9
      refine ⟨_, rfl, r5, C, dx5, _, _, rfl, hr59, R.cl, R.nC, rf_closes _ _, _, _, rfl, rfl, ?_⟩
      refine ⟨_, rfl, ?_⟩
      cases cM : closesB ms with
      | true => exact ite2 (fun _ => q H9 k9 pen9) (fun z => absurd rfl z)
      | false =>
        refine ite2 (fun z => absurd z (by decide)) (fun _ => ?_)
        have cL : closesB ls = false := by
          cases c : closesB ls with
          | false => rfl
          | true => rw [closE c] at cM; cases cM
        refine ⟨_, rfl, r, C, dx8, _, _, rfl, hr9, R.cl, R.nC, rf_closes _ _, _, _, rfl, rfl, ?_⟩
        rw [cL]
        exact q H9 k9 pen9
end
end K
namespace K
open PySem L2 Rg LamX
open Evl (pss_cut)
def Kp (h : Addr) (H H' : Hp) : Prop := ∀ b o, b ≠ h → H b = some o → (∀ ps, o ≠ .tbl ps) → H' b = some o
theorem Kp.of_but {h : Addr} {H H' : Hp} (b : But h H H') : Kp h H H' := fun a o n e _ => b a o n e
theorem Kp.ext {h : Addr} {H H1 H2 : Hp} (a : Kp h H H1) (e : ExtN H1 H2) : Kp h H H2 := fun b o n q t => e b o (a b o n q t) t
theorem Kp.same {h : Addr} {H H1 H2 : Hp} (a : Kp h H H1) (s : Same H1 H2) : Kp h H H2 := fun b o n q t => s b o (a b o n q t)
theorem Kp.but {h : Addr} {H H1 H2 : Hp} (a : Kp h H H1) (s : But h H1 H2) : Kp h H H2 := fun b o n q t => s b o n (a b o n q t)
theorem Kp.trans {h : Addr} {H H1 H2 : Hp} (a : Kp h H H1) (s : Kp h H1 H2) : Kp h H H2 := fun b o n q t => s b o n (a b o n q t) t
theorem tabS_but {h : Addr} {xs : List V} {H H' : Hp} {P : Addr} {q : Str} (t : TabS H P q) (b : But h H H') (hh : H h = some (.lst xs)) : TabS H' P q := by
  obtain ⟨ps, h1, h2, h3⟩ := t
  refine ⟨ps, b _ _ (fun e => ?_) h1, h2, fun pos cv hc => ?_⟩
  · rw [e, hh] at h1
    cases h1
  · obtain ⟨c, e1, e2⟩ := h3 pos cv hc
    refine ⟨c, e1, b _ _ (fun e => ?_) e2⟩
    rw [e, hh] at e2
    cases e2
theorem tabs_but {h : Addr} {xs : List V} {H H' : Hp} {T : List (Addr × Str)} (t : Tabs T H) (b : But h H H') (hh : H h = some (.lst xs)) : Tabs T H' := fun p hp => tabS_but (t p hp) b hh
theorem Same.ext {H H' : Hp} (s : Same H H') : ExtN H H' := ExtN.of s
theorem PenAt.ext {K : PySem.W.Frag} {H H' : Hp} {p : Addr} {e : Addr × List Int} {n : Nat} (h : PenAt K H p e n) (s : ExtN H H') : PenAt K H' p e n := by
  obtain ⟨a, r, h1, h5, h6, h7⟩ := h.ex
  refine ⟨⟨a, r, s _ _ h1 (fun _ z => nomatch z), h5, h6, h7⟩, ?_, h.np, h.ln⟩
  rcases h.sq with (z | ⟨o, z⟩) | z
  · exact .inl (.inl (s _ _ z (fun _ z => nomatch z)))
  · exact .inl (.inr ⟨o, s _ _ z (fun _ z => nomatch z)⟩)
  · exact .inr z
theorem all_ex (n : Nat) : ∃ L, AllL n L := by
  have z := PySem.W.sortLe_total (PyProof.Rows.listOrd PyProof.Rows.itemOrd) false (fun x : List Int => PySem.W.keyToks (PyData.tuple ((lotK x).map .int)))
  have pw := List.pairwise_mergeSort (le := PySem.W.dataLe false fun x => PyData.tuple ((lotK x).map .int)) (fun a b c => z.trans a b c) (fun a b => Bool.or_eq_true _ _ |>.mpr (z.total a b)) (lotsN n)
  refine ⟨_, List.mergeSort_perm .., pw.imp fun {u v} h => ?_⟩
  have h2 : (!PySem.W.dataLt (PyData.tuple ((lotK v).map .int)) (PyData.tuple ((lotK u).map .int))) = true := h
  rw [PySem.W.dataLt_tuple, ints_lt] at h2
  unfold LLe
  simpa using h2
section
variable {P : Program} {w : World} {K : PySem.W.Frag} {mg : Str → Option Value} {base : Heap}
theorem RingW.but {C p : Addr} {e : Addr × List Int} {n : Nat} {H H' : Hp} {r : Addr} {ls : List Int} (h : RingW K C H r ls) (b : But p H H') (pen : PenAt K H p e n) : RingW K C H' r ls := by
  obtain ⟨dx, t, h1, h2⟩ := h
  obtain ⟨_, _, hp, _⟩ := pen.ex
  refine ⟨dx, t, b _ _ (fun z => by rw [z, hp] at h1; cases h1) h1, ?_⟩
  rcases h2 with (h2 | ⟨o, h2⟩) | h2
  · exact .inl (.inl (b _ _ (fun z => by rw [z, hp] at h2; cases h2) h2))
  · exact .inl (.inr ⟨o, b _ _ (fun z => by rw [z, hp] at h2; cases h2) h2⟩)
  · exact .inr h2
theorem RingW.fresh {C D : Addr} {us ws : List V} {H : Hp} {r : Addr} {ls : List Int} (h : RingW K C H r ls) (hD : H D = some (.lst us)) : RingW K C (upd H D (.lst ws)) r ls := by
  obtain ⟨dx, t, h1, h2⟩ := h
  refine ⟨dx, t, by rw [upd_ne (fun z => by rw [z, hD] at h1; cases h1)]; exact h1, ?_⟩
  rcases h2 with (h2 | ⟨o, h2⟩) | h2
  · exact .inl (.inl (by rw [upd_ne (fun z => by rw [z, hD] at h2; cases h2)]; exact h2))
  · exact .inl (.inr ⟨o, by rw [upd_ne (fun z => by rw [z, hD] at h2; cases h2)]; exact h2⟩)
  · exact .inr h2
def spTc (K : PySem.W.Frag) (C : Addr) (T : List (Addr × Str)) (f : List Int → List (List Int) → List (List Int)) : Sp := fun vs H Q _ => ∃ (r : Addr) (ls : List Int), vs = [.ref r] ∧ RingW K C H r ls ∧ 3 ≤ ls.length ∧ ls.length ≤ 8 ∧ Tabs T H ∧
  ∀ (p : Addr) (xs : List V) (nss : List (List Int)) (H' : Hp), ExtN H H' → Tabs T H' → H' p = some (.tup xs) → TL H' xs nss → (∀ L, AllL ls.length L → nss = f ls L) → Q (.ref p) H'
theorem ok_tc {C cR f : Addr} {fd : FuncData} {T : List (Addr × Str)} {g : List Int → List (List Int) → List (List Int)} (F : FnOk P w K mg base (L2.CX P w) 8 f fd ["ring"] (spTold K C cR T g)) : FnOk P w K mg base CX0 8 f fd ["ring"] (spTc K C T g) :=
  (fn_calm F).imp fun vs H Q E ⟨r, ls, hv, a, b, c, d, q⟩ => ⟨.ref r, hv, .inl ⟨r, ls, rfl, a, b, c, d, q⟩⟩
theorem sh_bbi (a b : Bool) (c : Int) : SeqAt.shaped (.tuple [.bool a, .bool b, .int c]) = true := by
  simp [SeqAt.shaped, PyData.canLay0, PyData.canLayAll0, PyData.depth, PyData.depthAll]
theorem eq_bbi (a b : Bool) (c : Int) : PyData.eqv (.tuple [.bool a, .bool b, .int c]) (.tuple [.bool a, .bool b, .int c]) = true := by
  cases a <;> cases b <;> simp [PyData.eqv, PyData.eqvAll]
/-- which of the four a name holds -/
def gOf (f1 f2 f3 f4 : Addr) (f : Addr) : Option (List Int → List (List Int) → List (List Int)) := if f = f1 then some gShort else if f = f2 then some gLevel else if f = f3 then some gLeast else if f = f4 then some gGreat else none
theorem gOf_good {f1 f2 f3 f4 f : Addr} {g : List Int → List (List Int) → List (List Int)} (h : gOf f1 f2 f3 f4 f = some g) : Good g := by
  unfold gOf at h
  split at h
  · rw [← Option.some.inj h]; exact good_short
  · split at h
    · rw [← Option.some.inj h]; exact good_level
    · split at h
      · rw [← Option.some.inj h]; exact good_least
      · split at h
        · rw [← Option.some.inj h]; exact good_great
        · cases h
theorem gOf_some {f1 f2 f3 f4 f : Addr} (h : V.ref f ∈ [V.ref f1, .ref f2, .ref f3, .ref f4]) : ∃ g, gOf f1 f2 f3 f4 f = some g := by
  unfold gOf
  by_cases a : f = f1
  · exact ⟨_, if_pos a⟩
  rw [if_neg a]
  by_cases b : f = f2
  · exact ⟨_, if_pos b⟩
  rw [if_neg b]
  by_cases c : f = f3
  · exact ⟨_, if_pos c⟩
  rw [if_neg c]
  by_cases d : f = f4
  · exact ⟨_, if_pos d⟩
  simp at h
  exact absurd h (by simp [a, b, c, d])
def S4 (K : PySem.W.Frag) (C : Addr) (T : List (Addr × Str)) (f1 f2 f3 f4 : Addr) (f : Addr) : Option Sp := (gOf f1 f2 f3 f4 f).map fun g => spTc K C T g
theorem held4 {C f1 f2 f3 f4 : Addr} {d1 d2 d3 d4 : FuncData} {T : List (Addr × Str)} (SH : DefAt P w K mg base CX0 8 "short_lots" ["ring"] (spTc K C T gShort) f1 d1) (LV : DefAt P w K mg base CX0 8 "level_lots" ["ring"] (spTc K C T gLevel) f2 d2)
    (LE : DefAt P w K mg base CX0 8 "least_long" ["ring"] (spTc K C T gLeast) f3 d3) (GR : DefAt P w K mg base CX0 8 "greatest_short" ["ring"] (spTc K C T gGreat) f4 d4) : ∀ f sp, S4 K C T f1 f2 f3 f4 f = some sp → Held P w K mg base 8 f sp := by
  intro f sp h
  unfold S4 gOf at h
  split at h
  · rename_i e
    subst e
    obtain rfl := Option.some.inj h
    exact ⟨_, _, SH.ok, SH.kp, SH.b⟩
  · split at h
    · rename_i e
      subst e
      obtain rfl := Option.some.inj h
      exact ⟨_, _, LV.ok, LV.kp, LV.b⟩
    · split at h
      · rename_i e
        subst e
        obtain rfl := Option.some.inj h
        exact ⟨_, _, LE.ok, LE.kp, LE.b⟩
      · split at h
        · rename_i e
          subst e
          obtain rfl := Option.some.inj h
          exact ⟨_, _, GR.ok, GR.kp, GR.b⟩
        · cases h
/-- a row: a ring numbered anew, and the places -/
def RowAt (K : PySem.W.Frag) (C D p : Addr) (H : Hp) (ls : List Int) (x : V) : Prop := ∃ (u r o : Addr) (ns : List Int), x = .ref u ∧ H u = some (.tup [.ref r, .ref o]) ∧ RingW K C H r (ordL ls ns) ∧ H o = some (.lst (ns.map V.int)) ∧ ns.Perm (natB (List.range ls.length)) ∧ o ≠ D ∧ o ≠ p
theorem RowAt.ext {C D p : Addr} {H H' : Hp} {ls : List Int} {x : V} (h : RowAt K C D p H ls x) (e : ExtN H H') : RowAt K C D p H' ls x := by
  obtain ⟨u, r, o, ns, h1, h2, h3, h4, h5⟩ := h
  exact ⟨u, r, o, ns, h1, e _ _ h2 (fun _ z => nomatch z), h3.ext e, e _ _ h4 (fun _ z => nomatch z), h5⟩
theorem RowAt.mut {C D p : Addr} {us ws : List V} {H : Hp} {ls : List Int} {x : V} (h : RowAt K C D p H ls x) (hD : H D = some (.lst us)) : RowAt K C D p (upd H D (.lst ws)) ls x := by
  obtain ⟨u, r, o, ns, h1, h2, h3, h4, h5, h6, h7⟩ := h
  exact ⟨u, r, o, ns, h1, by rw [upd_ne (fun z => by rw [z, hD] at h2; cases h2)]; exact h2, h3.fresh hD, by rw [upd_ne h6]; exact h4, h5, h6, h7⟩
theorem RowAt.but {C D p : Addr} {e : Addr × List Int} {n : Nat} {H H' : Hp} {ls : List Int} {x : V} (h : RowAt K C D p H ls x) (b : But p H H') (pen : PenAt K H p e n) : RowAt K C D p H' ls x := by
  obtain ⟨u, r, o, ns, h1, h2, h3, h4, h5, h6, h7⟩ := h
  obtain ⟨_, _, hp, _⟩ := pen.ex
  exact ⟨u, r, o, ns, h1, b _ _ (fun z => by rw [z, hp] at h2; cases h2) h2, h3.but b pen, b _ _ h7 h4, h5, h6, h7⟩
def spAR (K : PySem.W.Frag) (T : List (Addr × Str)) : Sp := fun vs H Q _ => ∃ (p l : Addr) (ls : List Int) (e : Addr × List Int) (n : Nat), vs = [.ref p, .ref l] ∧ n < 800000 ∧ PenAt K H p e n ∧ l ≠ p ∧ H l = some (.lst (ls.map V.int)) ∧ 3 ≤ ls.length ∧ ls.length ≤ 8 ∧ Bd 1000000 ls ∧ Tabs T H ∧
  ∀ H', Kp p H H' → Tabs T H' → PenAt K H' p e (n + 10) → Q (.bl true) H'
abbrev nAW : List Str := ["_law_pen_here", "_law_lengths_here", "_law_ring", "_law_many", "_law_bar", "_law_rows", "_law_order", "_law_new", "_law_places", "_law_ask", "_law_at"]
theorem scAW : FnScope nAW ["_law_pen_here", "_law_lengths_here"] (defScope sLwAnewRight) := ⟨rfl, rfl, rfl, by decide +kernel, rfl, by decide +kernel, by decide +kernel⟩
theorem ok_ar {P1 P2 C f fI fB fN fD fM fA m1 m2 m3 f1 f2 f3 f4 : Addr} {fd fdI fdB fdN fdD fdM fdA e1 e2 e3 d1 d2 d3 d4 : FuncData} (F : Fun K "_law_anew_right" "_law_anew_right" sLwAnewRight f fd) (T : Bi mg) (R : RingC K mg C) (G : RingP P w K mg base C fI fB fN fdI fdB fdN) (D : DrawAt P w K mg base fD fdD)
    (MX : DefAt P w K mg base CX0 3 "_law_mixed" ["_law_pen_here", "_law_items"] (spMixed K) fM fdM) (LA : DefAt P w K mg base CX0 2 "_law_lots_anew" ["_law_lots_here", "_law_order"] (spAnew K) fA fdA)
    (M1 : MethK P w K mg base 6 C "begun_at" ["self", "bar"] (spBegun K C) m1 e1) (M2 : MethK P w K mg base 6 C "backwards" ["self"] (spBackw K C) m2 e2) (M3 : MethK P w K mg base 6 C "in_order" ["self", "order"] (spOrd K C) m3 e3)
    (SH : DefAt P w K mg base CX0 8 "short_lots" ["ring"] (spTc K C (T2 P1 P2) gShort) f1 d1) (LV : DefAt P w K mg base CX0 8 "level_lots" ["ring"] (spTc K C (T2 P1 P2) gLevel) f2 d2)
    (LE : DefAt P w K mg base CX0 8 "least_long" ["ring"] (spTc K C (T2 P1 P2) gLeast) f3 d3) (GR : DefAt P w K mg base CX0 8 "greatest_short" ["ring"] (spTc K C (T2 P1 P2) gGreat) f4 d4) : FnOk P w K mg base CX0 9 f fd ["_law_pen_here", "_law_lengths_here"] (spAR K (T2 P1 P2)) := by
  refine F.ok scAW (fun vs H Q E h => ?_) (fun cdv A outer s H vs Q E hr h => ?_)
  · obtain ⟨p, l, ls, e, n, rfl, _⟩ := h
    rfl
  · have nd := scAW.nd
    have A4 := held4 SH LV LE GR
    refine ⟨_, pss_cons (ps_asg (pe_tup (pa_cons (pe_make G.made G.ok (hr.mono (by decide)) (by rfl) R.g G.b .nil pass0 (pa_cons (pv 1) pa_nil)) (pa_cons (pe_callB call_len_seq (by rfl) T.len PySem.boot_len (pa_cons (pv 1) pa_nil)) pa_nil))) (pg_tup (by rfl) (pgs_cons (pg_name (i := 2) nd rfl (Or.inl rfl)) (pgs_cons (pg_name (i := 3) nd rfl (Or.inr rfl)) pgs_nil))))
      (pss_cons (ps_set (i := 4) nd rfl (Or.inr rfl) (pe_call D.ok (hr.mono (by decide)) rfl D.g D.kp D.b .nil pass0 (pa_cons (pv 0) (pa_cons (pv 3) pa_nil))))
      (pss_cons (ps_set (i := 5) nd rfl (Or.inl rfl) (pe_lst (pa_cons (pe_tup (pa_cons (pe_meth (pv 2) R.cl M1.m M1.ok (hr.mono (by decide)) M1.b .nil pass0 (pa_cons (pv 4) pa_nil)) (pa_cons (pe_lc (own := [("_law_at", 10)]) (g := gName 10) (tt := tYes) rfl nd (pi_range1 (by rfl) T.range (pa_cons (pv 3) pa_nil))
          (blkOk_by (N := nAW) (sc := defScope sLwAnewRight) (by decide +kernel)) (fun _ _ _ _ _ => pg_name (i := 10) nd rfl (Or.inl rfl)) (fun _ _ _ _ _ => pts_nil) (fun _ _ _ _ _ => pe_op op_mod (pe_callTy call_int1 (by rfl) T.int (by decide +kernel) (pa_cons (pe_op op_add (pv 4) (pv 10)) pa_nil)) (pv 3))) pa_nil))) pa_nil)))
      (pss_cons (ps_expr (pe_bm PySem.F.plainAttrs_list PySem.F.slot_list_append PySem.F.type_list_append mt_append (pv 5) (pa_cons (pe_tup (pa_cons (pe_meth0 (pv 2) R.cl M2.m M2.ok (hr.mono (by decide)) M2.b .nil pass0) (pa_cons (pe_lc (own := [("_law_at", 10)]) (g := gName 10) (tt := tYes) rfl nd (pi_range1 (by rfl) T.range (pa_cons (pv 3) pa_nil))
          (blkOk_by (N := nAW) (sc := defScope sLwAnewRight) (by decide +kernel)) (fun _ _ _ _ _ => pg_name (i := 10) nd rfl (Or.inl rfl)) (fun _ _ _ _ _ => pts_nil) (fun _ _ _ _ _ => pe_op op_mod (pe_callTy call_int1 (by rfl) T.int (by decide +kernel) (pa_cons (pe_op op_sub (pv 3) (pv 10)) pa_nil)) (pv 3))) pa_nil))) pa_nil)))
      (pss_cons (ps_set (i := 6) nd rfl (Or.inl rfl) (pe_call MX.ok (hr.mono (by decide)) rfl MX.g MX.kp MX.b .nil pass0 (pa_cons (pv 0) (pa_cons (pe_listRg rfl (by rfl) T.list (prg_1 (by rfl) T.range (pv 3))) pa_nil))))
      (pss_cons (ps_expr (pe_bm PySem.F.plainAttrs_list PySem.F.slot_list_append PySem.F.type_list_append mt_append (pv 5) (pa_cons (pe_tup (pa_cons (pe_meth (pv 2) R.cl M3.m M3.ok (hr.mono (by decide)) M3.b .nil pass0 (pa_cons (pv 6) pa_nil)) (pa_cons (pv 6) pa_nil))) pa_nil)))
      (pss_cons (ps_for PassesOwn.never rfl (pi_list (pv 5)) (pg_tup (by rfl) (pgs_cons (pg_name (i := 7) nd rfl (Or.inl rfl)) (pgs_cons (pg_name (i := 8) nd rfl (Or.inl rfl)) pgs_nil)))
        (pss_cons (ps_for PassesOwn.never rfl (pi_tup (pe_tup (pa_cons (pe_glob (v := .ref f1) rfl SH.g rfl) (pa_cons (pe_glob (v := .ref f2) rfl LV.g rfl) (pa_cons (pe_glob (v := .ref f3) rfl LE.g rfl) (pa_cons (pe_glob (v := .ref f4) rfl GR.g rfl) pa_nil)))))) (pg_name (i := 9) nd rfl (Or.inl rfl))
          (pss_one (ps_if (pt_cmpR (op_neD hr.units) (pe_callA (i := 9) A4 hr rfl (Or.inl rfl) (pa_cons (pv 7) pa_nil)) (pe_call LA.ok (hr.mono (by decide)) rfl LA.g LA.kp LA.b .nil pass0 (pa_cons (pe_callA (i := 9) A4 hr rfl (Or.inl rfl) (pa_cons (pv 2) pa_nil)) (pa_cons (pv 8) pa_nil))) (nomark _)) (pss_one ps_never) pss_nil)))
        (pss_one (ps_if (pt_cmpR (op_neD hr.units) (pe_tup (pa_cons (pe_fld (pv 7) rfl) (pa_cons (pe_fld (pv 7) rfl) (pa_cons (pe_fld (pv 7) rfl) pa_nil)))) (pe_tup (pa_cons (pe_fld (pv 2) rfl) (pa_cons (pe_fld (pv 2) rfl) (pa_cons (pe_fld (pv 2) rfl) pa_nil)))) (nomark _)) (pss_one ps_never) pss_nil))))
      (pss_one (ps_ret pe_bl)))))))), ?_⟩
    obtain ⟨p, l, ls, e, n, rfl, hn, pen, hlp, hl, l3, l8, bd, tab, q⟩ := h
    refine ⟨_, rfl, madeL3 hl l3 l8 bd fun r H1 ring s1 nr => ⟨rfl, ?_⟩⟩
    have hl1 := s1 _ _ hl
    refine ⟨_, rfl, l, _, rfl, .inl (SqL.of hl1), (by show 2 ≤ sizeLine; decide), fun t0 n0 => ⟨t0, _, rfl, .inl (.inl upd_same), rfl, _, _, rfl, _, _, rfl, rfl, ?_⟩⟩
    rw [List.length_map]
    have s2 := s1.new (o := .tup [.ref r, .int (ls.length : Nat)]) n0
    have ring2 := ring.same ((Same.refl H1).new (o := .tup [.ref r, .int (ls.length : Nat)]) n0)
    generalize upd H1 t0 (.tup [.ref r, .int (ls.length : Nat)]) = H2 at s2 ring2 ⊢
    have pen2 := pen.same s2
    -- bar
    refine ⟨_, rfl, _, rfl, p, e, _, n, rfl, by omega, by omega, by omega, pen2, fun b H3 b0 b1 k3 pen3 => ?_⟩
    obtain ⟨b, rfl⟩ := Int.eq_ofNat_of_zero_le b0
    have hb : b < ls.length := by omega
    have k03 : But p H H3 := (But.of s2).trans k3
    have ring3 := ring2.but k3 pen2
    have hl3 : H3 l = some (.lst (ls.map V.int)) := k03 _ _ hlp hl
    obtain ⟨dx, t, hr3, _⟩ := id ring3.weak
    -- begun
    refine ⟨_, rfl, r, dx, _, rfl, hr3, no_m (by decide +kernel) (by decide +kernel) (by decide +kernel) (by decide +kernel), _, rfl, r, b, ls, rfl, ring3.weak, l3, l8, bd, hb, fun r1 H4 rg1 s4 nr1 => ?_⟩
    rw [← begun_ord hb] at rg1
    refine ⟨_, rfl, _, rfl, by omega, by omega, fun o1 no1 => ?_⟩
    refine lc_range (lo := 0) (n := ((ls.length : Nat) : Int).toNat) (fun i H' => Same H4 H' ∧ H' o1 = some (.lst (((List.range i).map fun j : Nat => (((b + j) % ls.length : Nat) : Int)).map V.int))) ⟨(Same.refl H4).new no1, upd_same⟩ ?_ ?_
    · rintro i H' hi ⟨s5, h5⟩
      rw [Int.toNat_natCast] at hi
      rw [Int.zero_add]
      refine ⟨rfl, _, rfl, _, rfl, _, _, rfl, rfl, .inl ⟨_, rfl, _, rfl, _, _, rfl, rfl, (show (0 : Int) < ls.length by omega), ?_⟩⟩
      dsimp only
      rw [show ((b : Int) + (i : Int)) % (ls.length : Int) = (((b + i) % ls.length : Nat) : Int) by rw [← Int.natCast_add]; exact emod_nat _ _]
      refine ⟨_, h5, (by rw [List.length_map, List.length_map, List.length_range]; exact sm (by omega)), s5.mut no1, ?_⟩
      rw [upd_same, range_snoc, List.map_append]
      rfl
    rintro H5 ⟨s5, h5⟩
    rw [Int.toNat_natCast] at h5
    refine ⟨(by show 2 ≤ sizeLine; decide), fun u1 nu1 => ⟨(by show 1 ≤ sizeLine; decide), fun D nD => ?_⟩⟩
    have s45 : Same H4 (upd H5 u1 (.tup [.ref r1, .ref o1])) := s5.new nu1
    have h5' : upd H5 u1 (.tup [.ref r1, .ref o1]) o1 = some (.lst ((begunP ls.length b).map V.int)) := by rw [upd_ne (ne_of_none h5 nu1)]; exact h5
    have hu1 : upd H5 u1 (.tup [.ref r1, .ref o1]) u1 = some (.tup [.ref r1, .ref o1]) := upd_same
    generalize upd H5 u1 (.tup [.ref r1, .ref o1]) = H6 at s45 h5' hu1 nD ⊢
    have s36 : Same H3 H6 := s4.trans s45
    have nD3 := s36.free nD
    have nD0 : H D = none := k03.free (pen3.ne nD3) nD3
    have nDp : D ≠ p := pen3.ne nD3
    have s67 : Same H6 (upd H6 D (.lst [.ref u1])) := (Same.refl H6).new nD
    have hD7 : upd H6 D (.lst [.ref u1]) D = some (.lst [.ref u1]) := upd_same
    have row1 : RowAt K C D p (upd H6 D (.lst [.ref u1])) ls (.ref u1) := ⟨u1, r1, o1, begunP ls.length b, rfl, s67 _ _ hu1, (rg1.same s45).same s67, s67 _ _ h5', begun_perm hb, ne_of_none h5' nD, (pen3.same s4).ne no1⟩
    generalize upd H6 D (.lst [.ref u1]) = H7 at s67 hD7 row1 ⊢
    have s37 := s36.trans s67
    -- backwards
    refine ⟨_, rfl, .inl ⟨rfl, _, SqL.of hD7⟩, _, rfl, r, dx, _, rfl, s37 _ _ hr3, no_m (by decide +kernel) (by decide +kernel) (by decide +kernel) (by decide +kernel), r, ls, rfl, ring3.weak.same s37, l3, l8, bd, fun r2 H8 rg2 s8 nr2 => ?_⟩
    rw [← back_ord (by omega)] at rg2
    refine ⟨_, rfl, _, rfl, by omega, by omega, fun o2 no2 => ?_⟩
    refine lc_range (lo := 0) (n := ((ls.length : Nat) : Int).toNat) (fun i H' => Same H8 H' ∧ H' o2 = some (.lst (((List.range i).map fun j : Nat => (((ls.length - j) % ls.length : Nat) : Int)).map V.int))) ⟨(Same.refl H8).new no2, upd_same⟩ ?_ ?_
    · rintro i H' hi ⟨s5, h5⟩
      rw [Int.toNat_natCast] at hi
      rw [Int.zero_add]
      refine ⟨rfl, _, rfl, _, rfl, _, _, rfl, rfl, .inl ⟨_, rfl, _, rfl, _, _, rfl, rfl, (show (0 : Int) < ls.length by omega), ?_⟩⟩
      dsimp only
      rw [show ((ls.length : Int) - (i : Int)) % (ls.length : Int) = (((ls.length - i) % ls.length : Nat) : Int) by rw [show ((ls.length : Nat) : Int) - (i : Int) = ((ls.length - i : Nat) : Int) by omega]; exact emod_nat _ _]
      refine ⟨_, h5, (by rw [List.length_map, List.length_map, List.length_range]; exact sm (by omega)), s5.mut no2, ?_⟩
      rw [upd_same, range_snoc, List.map_append]
      rfl
    rintro H9 ⟨s9, h9⟩
    rw [Int.toNat_natCast] at h9
    refine ⟨(by show 2 ≤ sizeLine; decide), fun u2 nu2 => ?_⟩
    have s90 : Same H8 (upd H9 u2 (.tup [.ref r2, .ref o2])) := s9.new nu2
    have h10 : upd H9 u2 (.tup [.ref r2, .ref o2]) o2 = some (.lst ((backP ls.length).map V.int)) := by rw [upd_ne (ne_of_none h9 nu2)]; exact h9
    have hu2 : upd H9 u2 (.tup [.ref r2, .ref o2]) u2 = some (.tup [.ref r2, .ref o2]) := upd_same
    generalize upd H9 u2 (.tup [.ref r2, .ref o2]) = H10 at s90 h10 hu2 ⊢
    have s710 : Same H7 H10 := s8.trans s90
    have hD10 := s710 _ _ hD7
    refine ⟨D, [.ref u1], _, rfl, rfl, hD10, szl (by show 1 < 100000; decide), ?_⟩
    have row1' := row1.ext (ExtN.of s710)
    have row2 : RowAt K C D p H10 ls (.ref u2) := ⟨u2, r2, o2, backP ls.length, rfl, hu2, rg2.same s90, h10, back_perm, (ne_of_none (s8 _ _ hD7) no2).symm, (pen3.same (s37.trans s8)).ne no2⟩
    have s310 := s37.trans s710
    have s311 : Same H3 (upd H10 D (.lst ([.ref u1] ++ [.ref u2]))) := s310.mut nD3
    have hD11 : upd H10 D (.lst ([.ref u1] ++ [.ref u2])) D = some (.lst [.ref u1, .ref u2]) := upd_same
    have row1 : RowAt K C D p (upd H10 D (.lst ([.ref u1] ++ [.ref u2]))) ls (.ref u1) := row1'.mut hD10
    have row2 : RowAt K C D p (upd H10 D (.lst ([.ref u1] ++ [.ref u2]))) ls (.ref u2) := row2.mut hD10
    generalize upd H10 D (.lst ([.ref u1] ++ [.ref u2])) = H11 at s311 hD11 row1 row2 ⊢
    clear row1' s67 s45 s90 s710 s310 hD10 hD7 nu1 nu2 h9 h10
    have pen11 := pen3.same s311
    -- order
    have rg := rg_nat ls.length
    refine ⟨_, rfl, _, rfl, _, rfl, RgOk.of_le (by omega) (by omega) (by omega) (by omega), fun q0 hq0 => ?_⟩
    rw [rg]
    have hq0p : q0 ≠ p := pen11.ne hq0
    refine ⟨p, q0, e, _, n + 1, rfl, SqL.of upd_same, hq0p, by rw [List.length_map, natB_len]; omega, by omega, pen11.put hq0, fun q1 ys H13 pm hq1 k13 h13 pen13 => ?_⟩
    rw [List.length_map, natB_len] at pen13
    obtain ⟨ns, rfl, mp⟩ := perm_ints pm
    have nl : ns.length = ls.length := by rw [mp.length_eq, natB_len]
    have s1112 : Same H11 (upd H11 q0 (.lst ((natB (List.range ls.length)).map V.int))) := (Same.refl H11).new hq0
    have pen12 := pen11.put (o := .lst ((natB (List.range ls.length)).map V.int)) hq0
    have hD12 := s1112 _ _ hD11
    have hq1p : q1 ≠ p := pen12.ne hq1
    have hD13 : H13 D = some (.lst [.ref u1, .ref u2]) := k13 _ _ nDp (s1112 _ _ hD11)
    have row1 := (row1.ext (ExtN.of s1112)).but k13 pen12
    have row2 := (row2.ext (ExtN.of s1112)).but k13 pen12
    have ring13 := ((ring3.same s311).same s1112).but k13 pen12
    have k013 : But p H H13 := ((k03.trans (But.of s311)).trans (But.of s1112)).trans k13
    clear k13 pen12 s1112 hq0 hD11
    obtain ⟨dx13, t13, hr13, _⟩ := id ring13.weak
    refine ⟨_, rfl, .inl ⟨rfl, _, SqL.of hD13⟩, _, rfl, r, dx13, _, rfl, hr13, no_m (by decide +kernel) (by decide +kernel) (by decide +kernel) (by decide +kernel), _, rfl, r, q1, ls, ns, rfl, ring13.weak, l3, l8, bd, h13, mp, fun r3 H14 rg3 s14 nr3 => ⟨_, rfl, (by show 2 ≤ sizeLine; decide), fun u3 nu3 => ?_⟩⟩
    have s1315 : Same H13 (upd H14 u3 (.tup [.ref r3, .ref q1])) := s14.new nu3
    have row3 : RowAt K C D p (upd H14 u3 (.tup [.ref r3, .ref q1])) ls (.ref u3) := ⟨u3, r3, q1, ns, rfl, upd_same, rg3.weak.same ((Same.refl H14).new nu3), s1315 _ _ h13, mp, (ne_of_none hD12 hq1).symm, hq1p⟩
    generalize upd H14 u3 (.tup [.ref r3, .ref q1]) = H15 at s1315 row3 ⊢
    have hD15 := s1315 _ _ hD13
    refine ⟨D, [.ref u1, .ref u2], _, rfl, rfl, hD15, szl (by show 2 < 100000; decide), ?_⟩
    have row1 := (row1.ext (ExtN.of s1315)).mut (ws := [.ref u1, .ref u2] ++ [.ref u3]) hD15
    have row2 := (row2.ext (ExtN.of s1315)).mut (ws := [.ref u1, .ref u2] ++ [.ref u3]) hD15
    have row3 := row3.mut (ws := [.ref u1, .ref u2] ++ [.ref u3]) hD15
    have ring16 := (ring13.weak.same s1315).fresh (ws := [.ref u1, .ref u2] ++ [.ref u3]) hD15
    have k016 : But p H (upd H15 D (.lst ([.ref u1, .ref u2] ++ [.ref u3]))) := (k013.trans (But.of s1315)).mut nD0
    have pen16 : PenAt K (upd H15 D (.lst ([.ref u1, .ref u2] ++ [.ref u3]))) p e (n + 10) := PenAt.mono (PenAt.mut pen (pen13.same s1315) (k013.trans (But.of s1315)) nD0) (by omega)
    have hD16 : upd H15 D (.lst ([.ref u1, .ref u2] ++ [.ref u3])) D = some (.lst [.ref u1, .ref u2, .ref u3]) := upd_same
    generalize upd H15 D (.lst ([.ref u1, .ref u2] ++ [.ref u3])) = H16 at row1 row2 row3 ring16 k016 pen16 hD16 ⊢
    obtain ⟨a0, c0, hp0, _⟩ := pen.ex
    have tab16 := tabs_but tab k016 hp0
    have rows : ∀ x ∈ [V.ref u1, .ref u2, .ref u3], RowAt K C D p H16 ls x := fun x hx => by
      simp only [List.mem_cons, List.not_mem_nil, or_false] at hx
      rcases hx with rfl | rfl | rfl
      · exact row1
      · exact row2
      · exact row3
    clear row1 row2 row3 hD15 s1315 hD13 hr13 ring13 nu3 s14 h13 k013 pen13
    have h0 : ∀ x ∈ ls, 0 ≤ x := fun x hx => by have := (bd x hx).1; omega
    refine ⟨_, rfl, D, rfl, ⟨_, SqL.of hD16⟩, ?_⟩
    refine for_list (K := K) (a := D) (xs := [.ref u1, .ref u2, .ref u3]) (fun i σ H' => ∃ (z7 z8 z9 : Option V), σ = [some (.ref p), some (.ref l), some (.ref r), some (.int (ls.length : Nat)), some (.int (b : Nat)), some (.ref D), some (.ref q1), z7, z8, z9, none] ∧ ExtN H16 H' ∧ Tabs (T2 P1 P2) H') ⟨none, none, none, rfl, ExtN.refl _, tab16⟩ (fun i σ H' _ ⟨_, _, _, _, e, _⟩ => SqL.of (e _ _ hD16 (fun _ z => nomatch z))) ?_ ?_
    · rintro i x σ H17 hi ⟨z7, z8, z9, rfl, e17, t17⟩
      obtain ⟨u, r', o', ns', rfl, hu, rg', ho', mp', _, _⟩ := (rows x (List.mem_of_getElem? hi)).ext e17
      have ring17 := ring16.ext e17
      have ol2 := ordL_len2 mp'
      refine ⟨u, _, rfl, .inl (.inl hu), rfl, _, _, rfl, _, _, rfl, rfl, ?_⟩
      refine ⟨(by show 4 ≤ sizeLine; decide), fun v hv => ⟨v, rfl, ⟨_, .inl (.inl upd_same)⟩, ?_⟩⟩
      have s18 : Same H17 (upd H17 v (.tup [.ref f1, .ref f2, .ref f3, .ref f4])) := (Same.refl H17).new hv
      have hv18 : upd H17 v (.tup [.ref f1, .ref f2, .ref f3, .ref f4]) v = some (.tup [.ref f1, .ref f2, .ref f3, .ref f4]) := upd_same
      generalize upd H17 v (.tup [.ref f1, .ref f2, .ref f3, .ref f4]) = H18 at s18 hv18 ⊢
      refine for_tup (K := K) (a := v) (xs := [.ref f1, .ref f2, .ref f3, .ref f4]) (fun j σ H' => ∃ z9 : Option V, σ = [some (.ref p), some (.ref l), some (.ref r), some (.int (ls.length : Nat)), some (.int (b : Nat)), some (.ref D), some (.ref q1), some (.ref r'), some (.ref o'), z9, none] ∧ ExtN H18 H' ∧ Tabs (T2 P1 P2) H') ⟨z9, rfl, ExtN.refl _, t17.ext s18⟩ (fun j σ H' _ ⟨_, _, e, _⟩ => .inl (.inl (e _ _ hv18 (fun _ z => nomatch z)))) ?_ ?_
      · rintro j y σ H19 hj ⟨z9', rfl, e19, t19⟩
        have hy := List.mem_of_getElem? hj
        obtain ⟨f, rfl⟩ : ∃ f, y = .ref f := by
          simp only [List.mem_cons, List.not_mem_nil, or_false] at hy
          rcases hy with rfl | rfl | rfl | rfl
          · exact ⟨_, rfl⟩
          · exact ⟨_, rfl⟩
          · exact ⟨_, rfl⟩
          · exact ⟨_, rfl⟩
        obtain ⟨g, hg⟩ := gOf_some hy
        have good := gOf_good hg
        have hS : S4 K C (T2 P1 P2) f1 f2 f3 f4 f = some (spTc K C (T2 P1 P2) g) := by unfold S4; rw [hg]; rfl
        have e1719 := (ExtN.of s18).trans e19
        refine ⟨f, _, rfl, hS, _, rfl, r', _, rfl, rg'.ext e1719, by omega, by omega, t19, fun p20 xs20 n20 H20 e20 t20 h20 tl20 an20 => ?_⟩
        refine ⟨f, _, rfl, hS, _, rfl, r, ls, rfl, (ring17.ext e1719).ext e20, l3, l8, t20, fun p21 xs21 n21 H21 e21 t21 h21 tl21 an21 => ?_⟩
        obtain ⟨L, aL⟩ := all_ex ls.length
        have en20 := an20 L (by rw [ol2]; exact aL)
        have en21 := an21 L aL
        have ho21 : H21 o' = some (.lst (ns'.map V.int)) := ((e1719.trans e20).trans e21) _ _ ho' (fun _ z => nomatch z)
        have sub21 : ∀ m ∈ n21, m ∈ lotsN ls.length := fun m hm => by
          rw [en21] at hm
          exact (in_all aL).mp ((good.sub ls L).subset hm)
        have len21 : n21.length ≤ 256 := by
          rw [en21]
          refine Nat.le_trans (good.sub ls L).length_le ?_
          rw [aL.len]
          exact Nat.pow_le_pow_right (by decide) l8
        refine ⟨_, rfl, p21, o', ls.length, xs21, n21, ns', rfl, h21, tl21, len21, sub21, l8, ho21, mp', fun p22 ys22 mss H22 s22 h22 tl22 pm22 od22 => ?_⟩
        have e2022 := e21.trans (ExtN.of s22)
        rw [en21] at pm22
        have eq : n20 = mss := by rw [en20]; exact good.eq mp' h0 aL pm22 od22
        subst eq
        refine ⟨_, _, .tup (.inl (.inl (e2022 _ _ h20 (fun _ z => nomatch z)))) (tl_dp (tl20.ext e2022)), .tup (.inl (.inl h22)) (tl_dp tl22), tl_shapedT _, tl_shapedT _, _, rfl, iteBF (by rw [tl_eqT, decide_eq_true rfl]; rfl) ⟨_, rfl, (e19.trans e20).trans e2022, t21.ext s22⟩⟩
      · rintro σ H19 ⟨z9', rfl, e19, t19⟩
        have e1719 := (ExtN.of s18).trans e19
        obtain ⟨dx', t', hr', _⟩ := rg'.ext e1719
        obtain ⟨dx7, t7, hr7, _⟩ := ring17.ext e1719
        refine ⟨_, rfl, r', C, dx', _, _, rfl, hr', R.cl, R.nC, rf_closes _ _, _, rfl, r', C, dx', _, _, rfl, hr', R.cl, R.nI, rf_clear _ _, _, rfl, r', C, dx', _, _, rfl, hr', R.cl, R.nT, rf_total _ _, (by show 3 ≤ sizeLine; decide), fun v1 hv1 => ?_⟩
        rw [ordL_closes mp', ordL_level mp', ordL_sum mp']
        have s20 : Same H19 (upd H19 v1 (.tup [.bl (closesB ls), .bl (!levelB ls), .int ls.sum])) := (Same.refl H19).new hv1
        have hv20 : upd H19 v1 (.tup [.bl (closesB ls), .bl (!levelB ls), .int ls.sum]) v1 = some (.tup [.bl (closesB ls), .bl (!levelB ls), .int ls.sum]) := upd_same
        generalize upd H19 v1 (.tup [.bl (closesB ls), .bl (!levelB ls), .int ls.sum]) = H20 at s20 hv20 ⊢
        have hr20 := s20 _ _ hr7
        refine ⟨_, rfl, r, C, dx7, _, _, rfl, hr20, R.cl, R.nC, rf_closes _ _, _, rfl, r, C, dx7, _, _, rfl, hr20, R.cl, R.nI, rf_clear _ _, _, rfl, r, C, dx7, _, _, rfl, hr20, R.cl, R.nT, rf_total _ _, (by show 3 ≤ sizeLine; decide), fun v2 hv2 => ?_⟩
        have s21 := s20.new (o := .tup [.bl (closesB ls), .bl (!levelB ls), .int ls.sum]) hv2
        refine ⟨_, _, .tup (.inl (.inl (((Same.refl H20).new hv2) _ _ hv20))) (.cons (.bl _) (.cons (.bl _) (.cons (.int _) .nil))), .tup (.inl (.inl upd_same)) (.cons (.bl _) (.cons (.bl _) (.cons (.int _) .nil))), sh_bbi _ _ _, sh_bbi _ _ _, _, rfl, iteBF (by rw [eq_bbi]; rfl) ⟨_, _, _, rfl, e17.trans (e1719.trans (ExtN.of s21)), t19.ext s21⟩⟩
    · rintro σ H17 ⟨z7, z8, z9, rfl, e17, t17⟩
      exact q H17 ((Kp.of_but k016).ext e17) t17 (pen16.ext e17)
end
end K
namespace K
open PySem L2 Rg LamX
open Evl (pss_cut)
section
variable {P : Program} {w : World} {K : PySem.W.Frag} {mg : Str → Option Value} {base : Heap}
abbrev nLaw : List Str := ["_law_script", "_law_pen_here", "_law_lap", "_law_lengths_here"]
theorem scLaw : FnScope nLaw ["_law_script"] (defScope sLaw) := ⟨rfl, rfl, rfl, by decide +kernel, rfl, by decide +kernel, by decide +kernel⟩
def spLaw (K : PySem.W.Frag) (P1 P2 : Addr) : Sp := fun vs H Q _ => ∃ (a : Addr) (ns : List Int), vs = [.ref a] ∧ SqL K H a (ns.map V.int) ∧ ns.length ≤ 63 ∧ Tabs (T2 P1 P2) H ∧ ∀ H', Q (.bl true) H'
theorem ok_law {P1 P2 f fP fL fT fW fA : Addr} {fd fdP fdL fdT fdW fdA : FuncData} (F : Fun K "law" "law" sLaw f fd) (T : Bi mg)
    (PN : DefAt P w K mg base CX0 2 "_law_pen" ["_law_script"] (spPen K) fP fdP) (LN : DefAt P w K mg base CX0 3 "_law_lengths" ["_law_pen_here"] (spLengths K) fL fdL)
    (TG : DefAt P w K mg base CX0 7 "_law_together_right" ["_law_pen_here", "_law_lengths_here"] (spTog K) fT fdT) (TW : DefAt P w K mg base CX0 7 "_law_two_right" ["_law_pen_here", "_law_lengths_here"] (spTwo K) fW fdW)
    (AR : DefAt P w K mg base CX0 9 "_law_anew_right" ["_law_pen_here", "_law_lengths_here"] (spAR K (T2 P1 P2)) fA fdA) : FnOk P w K mg base CX0 11 f fd ["_law_script"] (spLaw K P1 P2) := by
  refine F.ok scLaw (fun vs H Q E h => ?_) (fun cdv A outer s H vs Q E hr h => ?_)
  · obtain ⟨a, ns, rfl, _⟩ := h
    rfl
  · have nd := scLaw.nd
    refine ⟨_, (pss_cons (ps_set (i := 1) nd rfl (Or.inl rfl) (pe_call PN.ok (hr.mono (by decide)) rfl PN.g PN.kp PN.b .nil pass0 (pa_cons (pv 0) pa_nil)))
      (pss_cons (ps_for PassesOwn.never rfl (pi_range1 (by rfl) T.range (pa_cons pe_int pa_nil)) (pg_name (i := 2) nd rfl (Or.inl rfl))
        (pss_cons (ps_set (i := 3) nd rfl (Or.inl rfl) (pe_call LN.ok (hr.mono (by decide)) rfl LN.g LN.kp LN.b .nil pass0 (pa_cons (pv 1) pa_nil)))
        (pss_cut (ps_if (PW.pt (pw_and (pt_cmpR op_gt (pe_callB call_len_seq (by rfl) T.len PySem.boot_len (pa_cons (pv 3) pa_nil)) pe_int (nomark _)) (pw_and (pt_cmpR op_le (pe_callB (cr_max rfl) (by rfl) T.max (by decide +kernel) (pa_cons (pv 3) pa_nil)) pe_int (nomark _)) (pw_and1 (pt_not (pt_val (pe_call TG.ok (hr.mono (by decide)) rfl TG.g TG.kp TG.b .nil pass0 (pa_cons (pv 1) (pa_cons (pv 3) pa_nil))))))))) (pss_one ps_never) pss_nil)
        (pss_cut (ps_if (PW.pt (pw_and (pt_cmpR op_lt (pe_callB call_len_seq (by rfl) T.len PySem.boot_len (pa_cons (pv 3) pa_nil)) pe_int (nomark _)) (pw_and (pt_cmpR op_gt (pe_callB (cr_max rfl) (by rfl) T.max (by decide +kernel) (pa_cons (pv 3) pa_nil)) pe_int (nomark _)) (pw_and1 (pt_not (pt_val (pe_call TW.ok (hr.mono (by decide)) rfl TW.g TW.kp TW.b .nil pass0 (pa_cons (pv 1) (pa_cons (pv 3) pa_nil))))))))) (pss_one ps_never) pss_nil)
        (pss_one (ps_if (pt_not (pt_val (pe_call AR.ok (hr.mono (by decide)) rfl AR.g AR.kp AR.b .nil pass0 (pa_cons (pv 1) (pa_cons (pv 3) pa_nil))))) (pss_one ps_never) pss_nil))))))
      (pss_one (ps_ret pe_bl)))), ?_⟩
    obtain ⟨a, ns, rfl, hs, hl, tab, q⟩ := h
    refine ⟨_, rfl, a, ns, rfl, hs, hl, fun p e H1 s1 np pen1 => ?_⟩
    have tab1 := tab.ext s1
    refine ⟨_, rfl, by decide, by decide, ?_⟩
    refine for_range (lo := 0) (n := (2 : Int).toNat) (fun i σ H' => ∃ (z2 z3 : Option V), σ = [some (.ref a), some (.ref p), z2, z3] ∧ PenAt K H' p e (i * 50) ∧ Tabs (T2 P1 P2) H') ⟨none, none, rfl, by simpa using pen1, tab1⟩ ?_ ?_
    · rintro i σ H' hi ⟨z2, z3, rfl, pen, tab'⟩
      have hi2 : i < 2 := hi
      refine ⟨_, rfl, p, e, _, rfl, by omega, pen, fun l ls H2 l3 l8 bd nl b2 hl2 pen2 => ?_⟩
      obtain ⟨pl, hpl⟩ := pen.some
      have tab2 := tabs_but tab' b2 hpl
      have nlp : l ≠ p := pen.ne nl
      obtain ⟨pl2, hp2⟩ := pen2.some
      rw [Int.zero_add]
      refine ⟨fun σ' H3 => σ' = [some (.ref a), some (.ref p), some (.int (i : Nat)), some (.ref l)] ∧ PenAt K H3 p e (i * 50 + 31) ∧ Tabs (T2 P1 P2) H3 ∧ H3 l = some (.lst (ls.map V.int)), ?_, ?_⟩
      · refine ⟨_, rfl, l, _, rfl, .inl (SqL.of hl2), _, _, rfl, rfl, _, rfl, ?_⟩
        rw [List.length_map]
        refine ite2 (fun c1 => ?_) (fun _ => iteF ⟨rfl, pen2.mono (by omega), tab2, hl2⟩)
        have c1' := of_decide_eq_true c1
        refine ⟨_, rfl, l, ls, rfl, SqL.of hl2, by omega, fun m hm hx => ⟨_, _, rfl, rfl, _, rfl, ?_⟩⟩
        refine ite2 (fun c2 => ?_) (fun _ => iteF ⟨rfl, pen2.mono (by omega), tab2, hl2⟩)
        have c2' := of_decide_eq_true c2
        exact ⟨_, rfl, _, rfl, p, l, ls, e, _, rfl, by omega, pen2, nlp, hl2, by omega, l8, (fun x h => ⟨(bd x h).1, Int.le_trans (hx x h) c2'⟩), fun H3 b3 pen3 => ⟨_, rfl, iteF ⟨rfl, pen3, tabs_but tab2 b3 hp2, b3 _ _ nlp hl2⟩⟩⟩
      rintro σ' H3 ⟨rfl, pen3, tab3, hl3⟩
      obtain ⟨pl3, hp3⟩ := pen3.some
      refine ⟨fun σ' H4 => σ' = [some (.ref a), some (.ref p), some (.int (i : Nat)), some (.ref l)] ∧ PenAt K H4 p e (i * 50 + 33) ∧ Tabs (T2 P1 P2) H4 ∧ H4 l = some (.lst (ls.map V.int)), ?_, ?_⟩
      · refine ⟨_, rfl, l, _, rfl, .inl (SqL.of hl3), _, _, rfl, rfl, _, rfl, ?_⟩
        rw [List.length_map]
        refine ite2 (fun c1 => ?_) (fun _ => iteF ⟨rfl, pen3.mono (by omega), tab3, hl3⟩)
        have c1' := of_decide_eq_true c1
        refine ⟨_, rfl, l, ls, rfl, SqL.of hl3, by omega, fun m hm hx => ⟨_, _, rfl, rfl, _, rfl, ?_⟩⟩
        refine ite2 (fun c2 => ?_) (fun _ => iteF ⟨rfl, pen3.mono (by omega), tab3, hl3⟩)
        have c2' := of_decide_eq_true c2
        exact ⟨_, rfl, _, rfl, p, l, ls, e, _, rfl, by omega, pen3, nlp, hl3, l3, by omega, bd, ⟨m, hm, c2'⟩, fun H4 b4 pen4 => ⟨_, rfl, iteF ⟨rfl, pen4, tabs_but tab3 b4 hp3, b4 _ _ nlp hl3⟩⟩⟩
      rintro σ' H4 ⟨rfl, pen4, tab4, hl4⟩
      exact ⟨_, rfl, _, rfl, p, l, ls, e, _, rfl, by omega, pen4, nlp, hl4, l3, l8, bd, tab4, fun H5 k5 tab5 pen5 => ⟨_, rfl, iteF ⟨_, _, rfl, pen5.mono (by omega), tab5⟩⟩⟩
    · rintro σ H2 ⟨z2, z3, rfl, pen2, tab2⟩
      exact q H2
end
end K
namespace K
open PySem L2 Rg LamX
section
variable {P : Program} {w : World} {K : PySem.W.Frag} {mg : Str → Option Value} {base : Heap}
theorem scBadRing : FnScope ["self", "part"] ["self", "part"] (defScope sBadRingInit) := ⟨rfl, rfl, rfl, by decide +kernel, rfl, by decide +kernel, by decide +kernel⟩
theorem ok_badRingI {f : Addr} {fd : FuncData} (F : Fun K "__init__" "BadRing.__init__" sBadRingInit f fd) : FnOk P w K mg base CX0 1 f fd ["self", "part"] (spIni K "part") := by
  refine F.ok scBadRing (fun vs H Q E h => ?_) (fun cdv A outer s H vs Q E hr h => ?_)
  · obtain ⟨a, C, v, rfl, _⟩ := h
    rfl
  · refine ⟨_, pss_one (ps_ost (pv 0) (pv 1)), ?_⟩
    obtain ⟨a, C, v, rfl, o, n, ha, k⟩ := h
    exact ⟨_, rfl, _, rfl, a, C, rfl, o, n, .inl ⟨ha, fun d h1 h2 => k d h1 h2⟩⟩
end
theorem code_hd {K : PySem.W.Frag} {c P : Addr} {o : Obj} (l : K.lookup c = some o) (h : PySem.W.codeHdIn [(c, o)] c P = true) : PySem.W.codeHdIn K c P = true := by
  have e : List.lookup c [(c, o)] = some o := by simp [List.lookup]
  unfold PySem.W.codeHdIn at h ⊢
  rw [e] at h
  rw [l]
  exact h
theorem lookup_out {K : PySem.W.Frag} {P : Addr} : ∀ {as : List Addr}, as = K.map (·.1) → P ∉ as → K.lookup P = none := by
  intro as e h
  subst e
  induction K with
  | nil => rfl
  | cons x r ih =>
    obtain ⟨a, o⟩ := x
    rw [List.map_cons, List.mem_cons, not_or] at h
    have hne : (P == a) = false := by simpa using h.1
    rw [List.lookup_cons, hne]
    exact ih h.2
theorem out_of {K : Params → PySem.W.Frag} {as : List Addr} {e : ∀ P, as = (K P).map (·.1)} {ts : List Addr} {w : World} {h : Heap} (_ : (PySem.W.kmHook K as e ts).says w h) {P : Addr} (hP : P ∉ as) : (K w.params).lookup P = none := lookup_out (e w.params) hP


theorem all_mk {l : PySem.W.OpenLaw} {w : World} {K : PySem.W.Frag} {h : Heap} {mg : Str → Option Value} {fa : Addr} (X : K.In h) (G : h.Ns mainGlobals mg) (hfa : mg "law" = some (.ref fa))
    {C eR eL eN eT f0 f1 f2 f3 f4 f5 f6 f7 f8 f9 f10 f11 f12 f13 f14 f15 f16 f17 f18 f19 cIO f20 f21 f22 f23 f24 f25 f26 f27 f28 f29 f30 f31 f32 f33 fm0 fm1 fm2 fm3 fm4 fm5 fm6 fm7 fm8 fm9 fm10 fm11 fm12 P2 : Addr} {od0 an0 od1 an1 od2 an2 od3 an3 od4 an4 od5 an5 od6 an6 od7 an7 od8 an8 od9 an9 od10 an10 od11 an11 od12 an12 od13 an13 od14 an14 od15 an15 od16 an16 od17 an17 od18 an18 od19 an19 od20 an20 od21 an21 od22 an22 od23 an23 od24 an24 od25 an25 od26 an26 od27 an27 od28 an28 od29 an29 od30 an30 od31 an31 od32 an32 od33 an33 odm0 anm0 odm1 anm1 odm2 anm2 odm3 anm3 odm4 anm4 odm5 anm5 odm6 anm6 odm7 anm7 odm8 anm8 odm9 anm9 odm10 anm10 odm11 anm11 odm12 anm12 odc2 : Option Addr} {sl0 sl1 sl2 sl3 sl4 sl5 sl6 sl7 sl8 sl9 sl10 sl11 sl12 sl13 sl14 sl15 sl16 sl17 sl18 sl19 sl20 sl21 sl22 sl23 sl24 sl25 sl26 sl27 sl28 sl29 sl30 sl31 sl32 sl33 slm0 slm1 slm2 slm3 slm4 slm5 slm6 slm7 slm8 slm9 slm10 slm11 slm12 slc2 : Array (Option Value)} {oc0 kV0 dc0 pm0 ct0 cd0 oc1 kV1 dc1 pm1 ct1 cd1 oc2 kV2 dc2 pm2 ct2 cd2 oc3 kV3 dc3 pm3 ct3 cd3 oc4 kV4 dc4 pm4 ct4 cd4 oc5 kV5 dc5 pm5 ct5 cd5 oc6 kV6 dc6 pm6 ct6 cd6 oc7 kV7 dc7 pm7 ct7 cd7 oc8 kV8 dc8 pm8 ct8 cd8 oc9 kV9 dc9 pm9 ct9 cd9 oc10 kV10 dc10 pm10 ct10 cd10 oc11 kV11 dc11 pm11 ct11 cd11 oc12 kV12 dc12 pm12 ct12 cd12 oc13 kV13 dc13 pm13 ct13 cd13 oc14 kV14 dc14 pm14 ct14 cd14 oc15 kV15 dc15 pm15 ct15 cd15 oc16 kV16 dc16 pm16 ct16 cd16 oc17 kV17 dc17 pm17 ct17 cd17 oc18 kV18 dc18 pm18 ct18 cd18 oc19 kV19 dc19 pm19 ct19 oc20 kV20 dc20 pm20 ct20 cd20 oc21 kV21 dc21 pm21 ct21 cd21 oc22 kV22 dc22 pm22 ct22 cd22 oc23 kV23 dc23 pm23 ct23 cd23 oc24 kV24 dc24 pm24 ct24 cd24 oc25 kV25 dc25 pm25 ct25 cd25 oc26 kV26 dc26 pm26 ct26 cd26 oc27 kV27 dc27 pm27 ct27 cd27 oc28 kV28 dc28 pm28 ct28 cd28 oc29 kV29 dc29 pm29 ct29 cd29 oc30 kV30 dc30 pm30 ct30 cd30 oc31 kV31 dc31 pm31 ct31 cd31 oc32 kV32 dc32 pm32 ct32 cd32 oc33 kV33 dc33 pm33 ct33 cd33 ocm0 kVm0 dcm0 pmm0 ctm0 cdm0 ocm1 kVm1 dcm1 pmm1 ctm1 cdm1 ocm2 kVm2 dcm2 pmm2 ctm2 cdm2 ocm3 kVm3 dcm3 pmm3 ctm3 cdm3 ocm4 kVm4 dcm4 pmm4 ctm4 cdm4 ocm5 kVm5 dcm5 pmm5 ctm5 cdm5 ocm6 kVm6 dcm6 pmm6 ctm6 cdm6 ocm7 kVm7 dcm7 pmm7 ctm7 cdm7 ocm8 kVm8 dcm8 pmm8 ctm8 cdm8 ocm9 kVm9 dcm9 pmm9 ctm9 cdm9 ocm10 kVm10 dcm10 pmm10 ctm10 cdm10 ocm11 kVm11 dcm11 pmm11 ctm11 cdm11 ocm12 kVm12 dcm12 pmm12 ctm12 cdm12 : Value} {tkMOST_LENGTH tkLEAST_BARS tkMOST_BARS : Tok} {vsc2 : Array Value}
    {nmeR nmeL nmeN nmeT qqeR qqeL qqeN qqeT : Str} {NeR NeL NeN NeT : Addr} {bseR bseL bseN bseT : List Value} {bmeR bmeL bmeN bmeT : List Value} {sneR sneL sneN sneT : List Str} {subeR subeL subeN subeT : List Value} {abeR abeL abeN abeT : Bool} {coleR coleL coleN coleT : Option Bool} {ddeR ddeL ddeN ddeT : Option Addr} {k0eR k1eR k2eR k3eR k5eR k0eL k1eL k2eL k3eL k5eL k0eN k1eN k2eN k3eN k5eN k0eT k1eT k2eT k3eT k5eT : Option Value}
    (aC : PySem.W.nsIn K mainGlobals "Ring" = some (some (.ref C)))
    (aeR : PySem.W.nsIn K mainGlobals "BadRing" = some (some (.ref eR)))
    (aeL : PySem.W.nsIn K mainGlobals "BadLot" = some (some (.ref eL)))
    (aeN : PySem.W.nsIn K mainGlobals "NoBar" = some (some (.ref eN)))
    (aeT : PySem.W.nsIn K mainGlobals "Twice" = some (some (.ref eT)))
    (a0 : PySem.W.nsIn K mainGlobals "is_integer" = some (some (.ref f0)))
    (l0 : K.lookup f0 = some ⟨oc0, od0, .func (PySem.W.fnOf "is_integer" "is_integer" (defArgs sIsInteger) (defBody sIsInteger) (defScope sIsInteger) .none kV0 dc0 pm0 an0 cd0 ct0), sl0⟩)
    (c0 : PySem.W.codeIn K cd0 "is_integer" = true)
    (k0 : PySem.W.keepIn K (.ref f0) = true)
    (a1 : PySem.W.nsIn K mainGlobals "is_within" = some (some (.ref f1)))
    (l1 : K.lookup f1 = some ⟨oc1, od1, .func (PySem.W.fnOf "is_within" "is_within" (defArgs sIsWithin) (defBody sIsWithin) (defScope sIsWithin) .none kV1 dc1 pm1 an1 cd1 ct1), sl1⟩)
    (c1 : PySem.W.codeIn K cd1 "is_within" = true)
    (k1 : PySem.W.keepIn K (.ref f1) = true)
    (a2 : PySem.W.nsIn K mainGlobals "is_list" = some (some (.ref f2)))
    (l2 : K.lookup f2 = some ⟨oc2, od2, .func (PySem.W.fnOf "is_list" "is_list" (defArgs sIsList) (defBody sIsList) (defScope sIsList) .none kV2 dc2 pm2 an2 cd2 ct2), sl2⟩)
    (c2 : PySem.W.codeIn K cd2 "is_list" = true)
    (k2 : PySem.W.keepIn K (.ref f2) = true)
    (a3 : PySem.W.nsIn K mainGlobals "is_numbers" = some (some (.ref f3)))
    (l3 : K.lookup f3 = some ⟨oc3, od3, .func (PySem.W.fnOf "is_numbers" "is_numbers" (defArgs sIsNumbers) (defBody sIsNumbers) (defScope sIsNumbers) .none kV3 dc3 pm3 an3 cd3 ct3), sl3⟩)
    (c3 : PySem.W.codeIn K cd3 "is_numbers" = true)
    (k3 : PySem.W.keepIn K (.ref f3) = true)
    (a4 : PySem.W.nsIn K mainGlobals "fixed" = some (some (.ref f4)))
    (l4 : K.lookup f4 = some ⟨oc4, od4, .func (PySem.W.fnOf "fixed" "fixed" (defArgs sFixed) (defBody sFixed) (defScope sFixed) .none kV4 dc4 pm4 an4 cd4 ct4), sl4⟩)
    (c4 : PySem.W.codeIn K cd4 "fixed" = true)
    (k4 : PySem.W.keepIn K (.ref f4) = true)
    (a5 : PySem.W.nsIn K mainGlobals "first_twice" = some (some (.ref f5)))
    (l5 : K.lookup f5 = some ⟨oc5, od5, .func (PySem.W.fnOf "first_twice" "first_twice" (defArgs sFirstTwice) (defBody sFirstTwice) (defScope sFirstTwice) .none kV5 dc5 pm5 an5 cd5 ct5), sl5⟩)
    (c5 : PySem.W.codeIn K cd5 "first_twice" = true)
    (k5 : PySem.W.keepIn K (.ref f5) = true)
    (a6 : PySem.W.nsIn K mainGlobals "twice_at" = some (some (.ref f6)))
    (l6 : K.lookup f6 = some ⟨oc6, od6, .func (PySem.W.fnOf "twice_at" "twice_at" (defArgs sTwiceAt) (defBody sTwiceAt) (defScope sTwiceAt) .none kV6 dc6 pm6 an6 cd6 ct6), sl6⟩)
    (c6 : PySem.W.codeIn K cd6 "twice_at" = true)
    (k6 : PySem.W.keepIn K (.ref f6) = true)
    (a7 : PySem.W.nsIn K mainGlobals "want_number" = some (some (.ref f7)))
    (l7 : K.lookup f7 = some ⟨oc7, od7, .func (PySem.W.fnOf "want_number" "want_number" (defArgs sWantNumber) (defBody sWantNumber) (defScope sWantNumber) .none kV7 dc7 pm7 an7 cd7 ct7), sl7⟩)
    (c7 : PySem.W.codeIn K cd7 "want_number" = true)
    (k7 : PySem.W.keepIn K (.ref f7) = true)
    (a8 : PySem.W.nsIn K mainGlobals "want_bar" = some (some (.ref f8)))
    (l8 : K.lookup f8 = some ⟨oc8, od8, .func (PySem.W.fnOf "want_bar" "want_bar" (defArgs sWantBar) (defBody sWantBar) (defScope sWantBar) .none kV8 dc8 pm8 an8 cd8 ct8), sl8⟩)
    (c8 : PySem.W.codeIn K cd8 "want_bar" = true)
    (k8 : PySem.W.keepIn K (.ref f8) = true)
    (a9 : PySem.W.nsIn K mainGlobals "want_lot" = some (some (.ref f9)))
    (l9 : K.lookup f9 = some ⟨oc9, od9, .func (PySem.W.fnOf "want_lot" "want_lot" (defArgs sWantLot) (defBody sWantLot) (defScope sWantLot) .none kV9 dc9 pm9 an9 cd9 ct9), sl9⟩)
    (c9 : PySem.W.codeIn K cd9 "want_lot" = true)
    (k9 : PySem.W.keepIn K (.ref f9) = true)
    (a10 : PySem.W.nsIn K mainGlobals "sort_by" = some (some (.ref f10)))
    (l10 : K.lookup f10 = some ⟨oc10, od10, .func (PySem.W.fnOf "sort_by" "sort_by" (defArgs sSortBy) (defBody sSortBy) (defScope sSortBy) .none kV10 dc10 pm10 an10 cd10 ct10), sl10⟩)
    (c10 : PySem.W.codeIn K cd10 "sort_by" = true)
    (k10 : PySem.W.keepIn K (.ref f10) = true)
    (a11 : PySem.W.nsIn K mainGlobals "are_lengths" = some (some (.ref f11)))
    (l11 : K.lookup f11 = some ⟨oc11, od11, .func (PySem.W.fnOf "are_lengths" "are_lengths" (defArgs sAreLengths) (defBody sAreLengths) (defScope sAreLengths) .none kV11 dc11 pm11 an11 cd11 ct11), sl11⟩)
    (c11 : PySem.W.codeIn K cd11 "are_lengths" = true)
    (k11 : PySem.W.keepIn K (.ref f11) = true)
    (a12 : PySem.W.nsIn K mainGlobals "has_level" = some (some (.ref f12)))
    (l12 : K.lookup f12 = some ⟨oc12, od12, .func (PySem.W.fnOf "has_level" "has_level" (defArgs sHasLevel) (defBody sHasLevel) (defScope sHasLevel) .none kV12 dc12 pm12 an12 cd12 ct12), sl12⟩)
    (c12 : PySem.W.codeIn K cd12 "has_level" = true)
    (k12 : PySem.W.keepIn K (.ref f12) = true)
    (a13 : PySem.W.nsIn K mainGlobals "want_ring" = some (some (.ref f13)))
    (l13 : K.lookup f13 = some ⟨oc13, od13, .func (PySem.W.fnOf "want_ring" "want_ring" (defArgs sWantRing) (defBody sWantRing) (defScope sWantRing) .none kV13 dc13 pm13 an13 cd13 ct13), sl13⟩)
    (c13 : PySem.W.codeIn K cd13 "want_ring" = true)
    (k13 : PySem.W.keepIn K (.ref f13) = true)
    (a14 : PySem.W.nsIn K mainGlobals "lots_of" = some (some (.ref f14)))
    (l14 : K.lookup f14 = some ⟨oc14, od14, .func (PySem.W.fnOf "lots_of" "lots_of" (defArgs sLotsOf) (defBody sLotsOf) (defScope sLotsOf) .none kV14 dc14 pm14 an14 cd14 ct14), sl14⟩)
    (c14 : PySem.W.codeIn K cd14 "lots_of" = true)
    (k14 : PySem.W.keepIn K (.ref f14) = true)
    (a15 : PySem.W.nsIn K mainGlobals "short_lots" = some (some (.ref f15)))
    (l15 : K.lookup f15 = some ⟨oc15, od15, .func (PySem.W.fnOf "short_lots" "short_lots" (defArgs sShortLots) (defBody sShortLots) (defScope sShortLots) .none kV15 dc15 pm15 an15 cd15 ct15), sl15⟩)
    (c15 : PySem.W.codeIn K cd15 "short_lots" = true)
    (k15 : PySem.W.keepIn K (.ref f15) = true)
    (a16 : PySem.W.nsIn K mainGlobals "level_lots" = some (some (.ref f16)))
    (l16 : K.lookup f16 = some ⟨oc16, od16, .func (PySem.W.fnOf "level_lots" "level_lots" (defArgs sLevelLots) (defBody sLevelLots) (defScope sLevelLots) .none kV16 dc16 pm16 an16 cd16 ct16), sl16⟩)
    (c16 : PySem.W.codeIn K cd16 "level_lots" = true)
    (k16 : PySem.W.keepIn K (.ref f16) = true)
    (a17 : PySem.W.nsIn K mainGlobals "least_long" = some (some (.ref f17)))
    (l17 : K.lookup f17 = some ⟨oc17, od17, .func (PySem.W.fnOf "least_long" "least_long" (defArgs sLeastLong) (defBody sLeastLong) (defScope sLeastLong) .none kV17 dc17 pm17 an17 cd17 ct17), sl17⟩)
    (c17 : PySem.W.codeIn K cd17 "least_long" = true)
    (k17 : PySem.W.keepIn K (.ref f17) = true)
    (a18 : PySem.W.nsIn K mainGlobals "greatest_short" = some (some (.ref f18)))
    (l18 : K.lookup f18 = some ⟨oc18, od18, .func (PySem.W.fnOf "greatest_short" "greatest_short" (defArgs sGreatestShort) (defBody sGreatestShort) (defScope sGreatestShort) .none kV18 dc18 pm18 an18 cd18 ct18), sl18⟩)
    (c18 : PySem.W.codeIn K cd18 "greatest_short" = true)
    (k18 : PySem.W.keepIn K (.ref f18) = true)
    (a19 : PySem.W.nsIn K mainGlobals "in_order" = some (some (.ref f19)))
    (l19 : K.lookup f19 = some ⟨oc19, od19, .func (PySem.W.fnOf "in_order" "in_order" (defArgs sInOrder) (defBody sInOrder) (defScope sInOrder) .none kV19 dc19 pm19 an19 (.ref cIO) ct19), sl19⟩)
    (c19 : PySem.W.codeIn K (.ref cIO) "in_order" = true)
    (k19 : PySem.W.keepIn K (.ref f19) = true)
    (a20 : PySem.W.nsIn K mainGlobals "lots_by_sort" = some (some (.ref f20)))
    (l20 : K.lookup f20 = some ⟨oc20, od20, .func (PySem.W.fnOf "lots_by_sort" "lots_by_sort" (defArgs sLotsBySort) (defBody sLotsBySort) (defScope sLotsBySort) .none kV20 dc20 pm20 an20 cd20 ct20), sl20⟩)
    (c20 : PySem.W.codeIn K cd20 "lots_by_sort" = true)
    (k20 : PySem.W.keepIn K (.ref f20) = true)
    (a21 : PySem.W.nsIn K mainGlobals "lots_less" = some (some (.ref f21)))
    (l21 : K.lookup f21 = some ⟨oc21, od21, .func (PySem.W.fnOf "lots_less" "lots_less" (defArgs sLotsLess) (defBody sLotsLess) (defScope sLotsLess) .none kV21 dc21 pm21 an21 cd21 ct21), sl21⟩)
    (c21 : PySem.W.codeIn K cd21 "lots_less" = true)
    (k21 : PySem.W.keepIn K (.ref f21) = true)
    (a22 : PySem.W.nsIn K mainGlobals "_law_pen" = some (some (.ref f22)))
    (l22 : K.lookup f22 = some ⟨oc22, od22, .func (PySem.W.fnOf "_law_pen" "_law_pen" (defArgs sLwPen) (defBody sLwPen) (defScope sLwPen) .none kV22 dc22 pm22 an22 cd22 ct22), sl22⟩)
    (c22 : PySem.W.codeIn K cd22 "_law_pen" = true)
    (k22 : PySem.W.keepIn K (.ref f22) = true)
    (a23 : PySem.W.nsIn K mainGlobals "_law_draw" = some (some (.ref f23)))
    (l23 : K.lookup f23 = some ⟨oc23, od23, .func (PySem.W.fnOf "_law_draw" "_law_draw" (defArgs sLwDraw) (defBody sLwDraw) (defScope sLwDraw) .none kV23 dc23 pm23 an23 cd23 ct23), sl23⟩)
    (c23 : PySem.W.codeIn K cd23 "_law_draw" = true)
    (k23 : PySem.W.keepIn K (.ref f23) = true)
    (a24 : PySem.W.nsIn K mainGlobals "_law_pick" = some (some (.ref f24)))
    (l24 : K.lookup f24 = some ⟨oc24, od24, .func (PySem.W.fnOf "_law_pick" "_law_pick" (defArgs sLwPick) (defBody sLwPick) (defScope sLwPick) .none kV24 dc24 pm24 an24 cd24 ct24), sl24⟩)
    (c24 : PySem.W.codeIn K cd24 "_law_pick" = true)
    (k24 : PySem.W.keepIn K (.ref f24) = true)
    (a25 : PySem.W.nsIn K mainGlobals "_law_lengths" = some (some (.ref f25)))
    (l25 : K.lookup f25 = some ⟨oc25, od25, .func (PySem.W.fnOf "_law_lengths" "_law_lengths" (defArgs sLwLengths) (defBody sLwLengths) (defScope sLwLengths) .none kV25 dc25 pm25 an25 cd25 ct25), sl25⟩)
    (c25 : PySem.W.codeIn K cd25 "_law_lengths" = true)
    (k25 : PySem.W.keepIn K (.ref f25) = true)
    (a26 : PySem.W.nsIn K mainGlobals "_law_lots" = some (some (.ref f26)))
    (l26 : K.lookup f26 = some ⟨oc26, od26, .func (PySem.W.fnOf "_law_lots" "_law_lots" (defArgs sLwLots) (defBody sLwLots) (defScope sLwLots) .none kV26 dc26 pm26 an26 cd26 ct26), sl26⟩)
    (c26 : PySem.W.codeIn K cd26 "_law_lots" = true)
    (k26 : PySem.W.keepIn K (.ref f26) = true)
    (a27 : PySem.W.nsIn K mainGlobals "_law_sort" = some (some (.ref f27)))
    (l27 : K.lookup f27 = some ⟨oc27, od27, .func (PySem.W.fnOf "_law_sort" "_law_sort" (defArgs sLwSort) (defBody sLwSort) (defScope sLwSort) .none kV27 dc27 pm27 an27 cd27 ct27), sl27⟩)
    (c27 : PySem.W.codeIn K cd27 "_law_sort" = true)
    (k27 : PySem.W.keepIn K (.ref f27) = true)
    (a28 : PySem.W.nsIn K mainGlobals "_law_mixed" = some (some (.ref f28)))
    (l28 : K.lookup f28 = some ⟨oc28, od28, .func (PySem.W.fnOf "_law_mixed" "_law_mixed" (defArgs sLwMixed) (defBody sLwMixed) (defScope sLwMixed) .none kV28 dc28 pm28 an28 cd28 ct28), sl28⟩)
    (c28 : PySem.W.codeIn K cd28 "_law_mixed" = true)
    (k28 : PySem.W.keepIn K (.ref f28) = true)
    (a29 : PySem.W.nsIn K mainGlobals "_law_together_right" = some (some (.ref f29)))
    (l29 : K.lookup f29 = some ⟨oc29, od29, .func (PySem.W.fnOf "_law_together_right" "_law_together_right" (defArgs sLwTogetherRight) (defBody sLwTogetherRight) (defScope sLwTogetherRight) .none kV29 dc29 pm29 an29 cd29 ct29), sl29⟩)
    (c29 : PySem.W.codeIn K cd29 "_law_together_right" = true)
    (k29 : PySem.W.keepIn K (.ref f29) = true)
    (a30 : PySem.W.nsIn K mainGlobals "_law_two_right" = some (some (.ref f30)))
    (l30 : K.lookup f30 = some ⟨oc30, od30, .func (PySem.W.fnOf "_law_two_right" "_law_two_right" (defArgs sLwTwoRight) (defBody sLwTwoRight) (defScope sLwTwoRight) .none kV30 dc30 pm30 an30 cd30 ct30), sl30⟩)
    (c30 : PySem.W.codeIn K cd30 "_law_two_right" = true)
    (k30 : PySem.W.keepIn K (.ref f30) = true)
    (a31 : PySem.W.nsIn K mainGlobals "_law_lots_anew" = some (some (.ref f31)))
    (l31 : K.lookup f31 = some ⟨oc31, od31, .func (PySem.W.fnOf "_law_lots_anew" "_law_lots_anew" (defArgs sLwLotsAnew) (defBody sLwLotsAnew) (defScope sLwLotsAnew) .none kV31 dc31 pm31 an31 cd31 ct31), sl31⟩)
    (c31 : PySem.W.codeIn K cd31 "_law_lots_anew" = true)
    (k31 : PySem.W.keepIn K (.ref f31) = true)
    (a32 : PySem.W.nsIn K mainGlobals "_law_anew_right" = some (some (.ref f32)))
    (l32 : K.lookup f32 = some ⟨oc32, od32, .func (PySem.W.fnOf "_law_anew_right" "_law_anew_right" (defArgs sLwAnewRight) (defBody sLwAnewRight) (defScope sLwAnewRight) .none kV32 dc32 pm32 an32 cd32 ct32), sl32⟩)
    (c32 : PySem.W.codeIn K cd32 "_law_anew_right" = true)
    (k32 : PySem.W.keepIn K (.ref f32) = true)
    (a33 : PySem.W.nsIn K mainGlobals "law" = some (some (.ref f33)))
    (l33 : K.lookup f33 = some ⟨oc33, od33, .func (PySem.W.fnOf "law" "law" (defArgs sLaw) (defBody sLaw) (defScope sLaw) .none kV33 dc33 pm33 an33 cd33 ct33), sl33⟩)
    (c33 : PySem.W.codeIn K cd33 "law" = true)
    (k33 : PySem.W.keepIn K (.ref f33) = true)
    (am0 : PySem.W.findIn K (.ref C) "__init__" = some (some (.ref fm0)))
    (im0 : PySem.W.isFn K (.ref fm0) = true)
    (lm0 : K.lookup fm0 = some ⟨ocm0, odm0, .func (PySem.W.fnOf "__init__" "Ring.__init__" (defArgs sRingInit) (defBody sRingInit) (defScope sRingInit) .none kVm0 dcm0 pmm0 anm0 cdm0 ctm0), slm0⟩)
    (cm0 : PySem.W.codeIn K cdm0 "Ring.__init__" = true)
    (km0 : PySem.W.keepIn K (.ref fm0) = true)
    (am1 : PySem.W.findIn K (.ref C) "__len__" = some (some (.ref fm1)))
    (im1 : PySem.W.isFn K (.ref fm1) = true)
    (lm1 : K.lookup fm1 = some ⟨ocm1, odm1, .func (PySem.W.fnOf "__len__" "Ring.__len__" (defArgs sRingLen) (defBody sRingLen) (defScope sRingLen) .none kVm1 dcm1 pmm1 anm1 cdm1 ctm1), slm1⟩)
    (cm1 : PySem.W.codeIn K cdm1 "Ring.__len__" = true)
    (km1 : PySem.W.keepIn K (.ref fm1) = true)
    (am2 : PySem.W.findIn K (.ref C) "length_of" = some (some (.ref fm2)))
    (im2 : PySem.W.isFn K (.ref fm2) = true)
    (lm2 : K.lookup fm2 = some ⟨ocm2, odm2, .func (PySem.W.fnOf "length_of" "Ring.length_of" (defArgs sRingLengthOf) (defBody sRingLengthOf) (defScope sRingLengthOf) .none kVm2 dcm2 pmm2 anm2 cdm2 ctm2), slm2⟩)
    (cm2 : PySem.W.codeIn K cdm2 "Ring.length_of" = true)
    (km2 : PySem.W.keepIn K (.ref fm2) = true)
    (am3 : PySem.W.findIn K (.ref C) "sort_of" = some (some (.ref fm3)))
    (im3 : PySem.W.isFn K (.ref fm3) = true)
    (lm3 : K.lookup fm3 = some ⟨ocm3, odm3, .func (PySem.W.fnOf "sort_of" "Ring.sort_of" (defArgs sRingSortOf) (defBody sRingSortOf) (defScope sRingSortOf) .none kVm3 dcm3 pmm3 anm3 cdm3 ctm3), slm3⟩)
    (cm3 : PySem.W.codeIn K cdm3 "Ring.sort_of" = true)
    (km3 : PySem.W.keepIn K (.ref fm3) = true)
    (am4 : PySem.W.findIn K (.ref C) "begun_at" = some (some (.ref fm4)))
    (im4 : PySem.W.isFn K (.ref fm4) = true)
    (lm4 : K.lookup fm4 = some ⟨ocm4, odm4, .func (PySem.W.fnOf "begun_at" "Ring.begun_at" (defArgs sRingBegunAt) (defBody sRingBegunAt) (defScope sRingBegunAt) .none kVm4 dcm4 pmm4 anm4 cdm4 ctm4), slm4⟩)
    (cm4 : PySem.W.codeIn K cdm4 "Ring.begun_at" = true)
    (km4 : PySem.W.keepIn K (.ref fm4) = true)
    (am5 : PySem.W.findIn K (.ref C) "backwards" = some (some (.ref fm5)))
    (im5 : PySem.W.isFn K (.ref fm5) = true)
    (lm5 : K.lookup fm5 = some ⟨ocm5, odm5, .func (PySem.W.fnOf "backwards" "Ring.backwards" (defArgs sRingBackwards) (defBody sRingBackwards) (defScope sRingBackwards) .none kVm5 dcm5 pmm5 anm5 cdm5 ctm5), slm5⟩)
    (cm5 : PySem.W.codeIn K cdm5 "Ring.backwards" = true)
    (km5 : PySem.W.keepIn K (.ref fm5) = true)
    (am6 : PySem.W.findIn K (.ref C) "in_order" = some (some (.ref fm6)))
    (im6 : PySem.W.isFn K (.ref fm6) = true)
    (lm6 : K.lookup fm6 = some ⟨ocm6, odm6, .func (PySem.W.fnOf "in_order" "Ring.in_order" (defArgs sRingInOrder) (defBody sRingInOrder) (defScope sRingInOrder) .none kVm6 dcm6 pmm6 anm6 cdm6 ctm6), slm6⟩)
    (cm6 : PySem.W.codeIn K cdm6 "Ring.in_order" = true)
    (km6 : PySem.W.keepIn K (.ref fm6) = true)
    (am7 : PySem.W.findIn K (.ref C) "as_one" = some (some (.ref fm7)))
    (im7 : PySem.W.isFn K (.ref fm7) = true)
    (lm7 : K.lookup fm7 = some ⟨ocm7, odm7, .func (PySem.W.fnOf "as_one" "Ring.as_one" (defArgs sRingAsOne) (defBody sRingAsOne) (defScope sRingAsOne) .none kVm7 dcm7 pmm7 anm7 cdm7 ctm7), slm7⟩)
    (cm7 : PySem.W.codeIn K cdm7 "Ring.as_one" = true)
    (km7 : PySem.W.keepIn K (.ref fm7) = true)
    (am8 : PySem.W.findIn K (.ref C) "in_two" = some (some (.ref fm8)))
    (im8 : PySem.W.isFn K (.ref fm8) = true)
    (lm8 : K.lookup fm8 = some ⟨ocm8, odm8, .func (PySem.W.fnOf "in_two" "Ring.in_two" (defArgs sRingInTwo) (defBody sRingInTwo) (defScope sRingInTwo) .none kVm8 dcm8 pmm8 anm8 cdm8 ctm8), slm8⟩)
    (cm8 : PySem.W.codeIn K cdm8 "Ring.in_two" = true)
    (km8 : PySem.W.keepIn K (.ref fm8) = true)
    (am9 : PySem.W.findIn K (.ref eR) "__init__" = some (some (.ref fm9)))
    (im9 : PySem.W.isFn K (.ref fm9) = true)
    (lm9 : K.lookup fm9 = some ⟨ocm9, odm9, .func (PySem.W.fnOf "__init__" "BadRing.__init__" (defArgs sBadRingInit) (defBody sBadRingInit) (defScope sBadRingInit) .none kVm9 dcm9 pmm9 anm9 cdm9 ctm9), slm9⟩)
    (cm9 : PySem.W.codeIn K cdm9 "BadRing.__init__" = true)
    (km9 : PySem.W.keepIn K (.ref fm9) = true)
    (tim9 : PySem.W.typeIn K (.ref fm9) = some (.type "function"))
    (am10 : PySem.W.findIn K (.ref eL) "__init__" = some (some (.ref fm10)))
    (im10 : PySem.W.isFn K (.ref fm10) = true)
    (lm10 : K.lookup fm10 = some ⟨ocm10, odm10, .func (PySem.W.fnOf "__init__" "BadLot.__init__" (defArgs sBadLotInit) (defBody sBadLotInit) (defScope sBadLotInit) .none kVm10 dcm10 pmm10 anm10 cdm10 ctm10), slm10⟩)
    (cm10 : PySem.W.codeIn K cdm10 "BadLot.__init__" = true)
    (km10 : PySem.W.keepIn K (.ref fm10) = true)
    (tim10 : PySem.W.typeIn K (.ref fm10) = some (.type "function"))
    (am11 : PySem.W.findIn K (.ref eN) "__init__" = some (some (.ref fm11)))
    (im11 : PySem.W.isFn K (.ref fm11) = true)
    (lm11 : K.lookup fm11 = some ⟨ocm11, odm11, .func (PySem.W.fnOf "__init__" "Missing.__init__" (defArgs sMissingInit) (defBody sMissingInit) (defScope sMissingInit) .none kVm11 dcm11 pmm11 anm11 cdm11 ctm11), slm11⟩)
    (cm11 : PySem.W.codeIn K cdm11 "Missing.__init__" = true)
    (km11 : PySem.W.keepIn K (.ref fm11) = true)
    (tim11 : PySem.W.typeIn K (.ref fm11) = some (.type "function"))
    (am12 : PySem.W.findIn K (.ref eT) "__init__" = some (some (.ref fm12)))
    (im12 : PySem.W.isFn K (.ref fm12) = true)
    (lm12 : K.lookup fm12 = some ⟨ocm12, odm12, .func (PySem.W.fnOf "__init__" "Twice.__init__" (defArgs sTwiceInit) (defBody sTwiceInit) (defScope sTwiceInit) .none kVm12 dcm12 pmm12 anm12 cdm12 ctm12), slm12⟩)
    (cm12 : PySem.W.codeIn K cdm12 "Twice.__init__" = true)
    (km12 : PySem.W.keepIn K (.ref fm12) = true)
    (tim12 : PySem.W.typeIn K (.ref fm12) = some (.type "function"))
    (rpg : PySem.W.plainGet K C Str.empty = true)
    (rhd : PySem.W.hasDictIn K C = true)
    (rpo : PySem.W.plainOver K C = true)
    (rsa : PySem.W.findIn K (.ref C) "__setattr__" = some (some (.builtin "object.__setattr__")))
    (rmk : PySem.W.makesIn K C = true)
    (rkc : PySem.W.keepIn K (.ref C) = true)
    (rn1 : PySem.W.findIn K (.ref C) "lengths" = some none)
    (rn2 : PySem.W.findIn K (.ref C) "total" = some none)
    (rn3 : PySem.W.findIn K (.ref C) "closes" = some none)
    (rn4 : PySem.W.findIn K (.ref C) "is_clear" = some none)
    (rha : PySem.W.findIn K (.ref C) "__class__" = some (some (.builtin "object.__class__")))
    (rhn : PySem.W.specialIn K (.builtin "object.__class__") "__get__" = some (some (.builtin "getset_descriptor.__get__")))
    (rht : PySem.W.takesIn K (.builtin "object.__class__") = some true)
    (rhm : PySem.W.mroIn K C (.type "object") = some true)
    (z_int : PySem.W.nsIn K mainGlobals "int" = some none)
    (z_len : PySem.W.nsIn K mainGlobals "len" = some none)
    (z_abs : PySem.W.nsIn K mainGlobals "abs" = some none)
    (z_list : PySem.W.nsIn K mainGlobals "list" = some none)
    (z_tuple : PySem.W.nsIn K mainGlobals "tuple" = some none)
    (z_bool : PySem.W.nsIn K mainGlobals "bool" = some none)
    (z_range : PySem.W.nsIn K mainGlobals "range" = some none)
    (z_sum : PySem.W.nsIn K mainGlobals "sum" = some none)
    (z_max : PySem.W.nsIn K mainGlobals "max" = some none)
    (z_all : PySem.W.nsIn K mainGlobals "all" = some none)
    (z_any : PySem.W.nsIn K mainGlobals "any" = some none)
    (z_sorted : PySem.W.nsIn K mainGlobals "sorted" = some none)
    (z_enumerate : PySem.W.nsIn K mainGlobals "enumerate" = some none)
    (z_isinstance : PySem.W.nsIn K mainGlobals "isinstance" = some none)
    (g_MOST_LENGTH : PySem.W.nsIn K mainGlobals "MOST_LENGTH" = some (some (.int 1000000 tkMOST_LENGTH)))
    (g_LEAST_BARS : PySem.W.nsIn K mainGlobals "LEAST_BARS" = some (some (.int 3 tkLEAST_BARS)))
    (g_MOST_BARS : PySem.W.nsIn K mainGlobals "MOST_BARS" = some (some (.int 8 tkMOST_BARS)))
    (xeR : K.lookup eR = some (excClassObj nmeR qqeR eR NeR bseR bmeR true sneR subeR abeR coleR ddeR k0eR k1eR k2eR k3eR k5eR "ValueError.__new__"))
    (rveR : PySem.HandSPX.refsVE bmeR = true)
    (saeR : PySem.W.findIn K (.ref eR) "__setattr__" = some (some (.builtin "object.__setattr__")))
    (eCeR : PySem.W.subIn K (.ref eR) (.type "BaseException") = some true)
    (tCeR : PySem.W.typeIn K (.ref eR) = some (.type "type"))
    (kCeR : PySem.W.keepIn K (.ref eR) = true)
    (nfeRpart : PySem.W.findIn K (.ref eR) "part" = some none)
    (xeL : K.lookup eL = some (excClassObj nmeL qqeL eL NeL bseL bmeL true sneL subeL abeL coleL ddeL k0eL k1eL k2eL k3eL k5eL "ValueError.__new__"))
    (rveL : PySem.HandSPX.refsVE bmeL = true)
    (saeL : PySem.W.findIn K (.ref eL) "__setattr__" = some (some (.builtin "object.__setattr__")))
    (eCeL : PySem.W.subIn K (.ref eL) (.type "BaseException") = some true)
    (tCeL : PySem.W.typeIn K (.ref eL) = some (.type "type"))
    (kCeL : PySem.W.keepIn K (.ref eL) = true)
    (nfeLpart : PySem.W.findIn K (.ref eL) "part" = some none)
    (xeN : K.lookup eN = some (excClassObj nmeN qqeN eN NeN bseN bmeN true sneN subeN abeN coleN ddeN k0eN k1eN k2eN k3eN k5eN "ValueError.__new__"))
    (rveN : PySem.HandSPX.refsVE bmeN = true)
    (saeN : PySem.W.findIn K (.ref eN) "__setattr__" = some (some (.builtin "object.__setattr__")))
    (eCeN : PySem.W.subIn K (.ref eN) (.type "BaseException") = some true)
    (tCeN : PySem.W.typeIn K (.ref eN) = some (.type "type"))
    (kCeN : PySem.W.keepIn K (.ref eN) = true)
    (nfeNvalue : PySem.W.findIn K (.ref eN) "value" = some none)
    (xeT : K.lookup eT = some (excClassObj nmeT qqeT eT NeT bseT bmeT true sneT subeT abeT coleT ddeT k0eT k1eT k2eT k3eT k5eT "ValueError.__new__"))
    (rveT : PySem.HandSPX.refsVE bmeT = true)
    (saeT : PySem.W.findIn K (.ref eT) "__setattr__" = some (some (.builtin "object.__setattr__")))
    (eCeT : PySem.W.subIn K (.ref eT) (.type "BaseException") = some true)
    (tCeT : PySem.W.typeIn K (.ref eT) = some (.type "type"))
    (kCeT : PySem.W.keepIn K (.ref eT) = true)
    (nfeTvalue : PySem.W.findIn K (.ref eT) "value" = some none)
    (lc2 : K.lookup cIO = some ⟨.type "code", odc2, .fields vsc2, slc2⟩)
    (hdc2 : PySem.W.codeHdIn [(cIO, ⟨.type "code", odc2, .fields vsc2, slc2⟩)] cIO P2 = true)
    (nT2 : K.lookup P2 = none)
    (hT2 : h.get? P2 = some { cls := .none, data := .fields #[] }) :
    LawAtS l w K CX0 11 63 "_law_script" mg fa h := by
  have e := hfa.symm.trans (PySem.W.mg_of X G a33)
  cases e
  have gl : ∀ {x : Str} {v : Value}, PySem.W.nsIn K mainGlobals x = some (some v) → mg x = some v := fun q => PySem.W.mg_of X G q
  have T : Bi mg := ⟨PySem.W.mg_none_of X G z_int, PySem.W.mg_none_of X G z_len, PySem.W.mg_none_of X G z_abs, PySem.W.mg_none_of X G z_list, PySem.W.mg_none_of X G z_tuple, PySem.W.mg_none_of X G z_bool, PySem.W.mg_none_of X G z_range, PySem.W.mg_none_of X G z_sum, PySem.W.mg_none_of X G z_max, PySem.W.mg_none_of X G z_all, PySem.W.mg_none_of X G z_any, PySem.W.mg_none_of X G z_sorted, PySem.W.mg_none_of X G z_enumerate, PySem.W.mg_none_of X G z_isinstance⟩
  have N : Nm mg := ⟨⟨_, gl g_MOST_LENGTH⟩, ⟨_, gl g_LEAST_BARS⟩, ⟨_, gl g_MOST_BARS⟩⟩
  have R : RingC K mg C := ⟨⟨rpg, rhd, rpo, rsa⟩, rn1, rn2, rn3, rn4, gl aC, rha, rhn, rht, rhm⟩
  have oeR : OexC K eR := ⟨⟨_, _, _, _, _, _, _, _, _, _, _, _, _, _, _, xeR, rveR⟩, saeR, eCeR, tCeR, kCeR⟩
  have oeL : OexC K eL := ⟨⟨_, _, _, _, _, _, _, _, _, _, _, _, _, _, _, xeL, rveL⟩, saeL, eCeL, tCeL, kCeL⟩
  have oeN : OexC K eN := ⟨⟨_, _, _, _, _, _, _, _, _, _, _, _, _, _, _, xeN, rveN⟩, saeN, eCeN, tCeN, kCeN⟩
  have oeT : OexC K eT := ⟨⟨_, _, _, _, _, _, _, _, _, _, _, _, _, _, _, xeT, rveT⟩, saeT, eCeT, tCeT, kCeT⟩
  have F0 := fun_mk (st := sIsInteger) l0 c0 k0
  have b0 := F0.binds (ps := ["value"]) fun _ _ _ _ _ _ us hl => match us, hl with | [_], _ => rfl
  have F1 := fun_mk (st := sIsWithin) l1 c1 k1
  have b1 := F1.binds (ps := ["value", "least", "most"]) fun _ _ _ _ _ _ us hl => match us, hl with | [_, _, _], _ => rfl
  have F2 := fun_mk (st := sIsList) l2 c2 k2
  have b2 := F2.binds (ps := ["value"]) fun _ _ _ _ _ _ us hl => match us, hl with | [_], _ => rfl
  have F3 := fun_mk (st := sIsNumbers) l3 c3 k3
  have b3 := F3.binds (ps := ["value"]) fun _ _ _ _ _ _ us hl => match us, hl with | [_], _ => rfl
  have F4 := fun_mk (st := sFixed) l4 c4 k4
  have b4 := F4.binds (ps := ["value"]) fun _ _ _ _ _ _ us hl => match us, hl with | [_], _ => rfl
  have F5 := fun_mk (st := sFirstTwice) l5 c5 k5
  have b5 := F5.binds (ps := ["values"]) fun _ _ _ _ _ _ us hl => match us, hl with | [_], _ => rfl
  have F6 := fun_mk (st := sTwiceAt) l6 c6 k6
  have b6 := F6.binds (ps := ["values"]) fun _ _ _ _ _ _ us hl => match us, hl with | [_], _ => rfl
  have F7 := fun_mk (st := sWantNumber) l7 c7 k7
  have b7 := F7.binds (ps := ["value", "least", "most", "part"]) fun _ _ _ _ _ _ us hl => match us, hl with | [_, _, _, _], _ => rfl
  have F8 := fun_mk (st := sWantBar) l8 c8 k8
  have b8 := F8.binds (ps := ["value", "many"]) fun _ _ _ _ _ _ us hl => match us, hl with | [_, _], _ => rfl
  have F9 := fun_mk (st := sWantLot) l9 c9 k9
  have b9 := F9.binds (ps := ["value", "many", "part"]) fun _ _ _ _ _ _ us hl => match us, hl with | [_, _, _], _ => rfl
  have F10 := fun_mk (st := sSortBy) l10 c10 k10
  have b10 := F10.binds (ps := ["excess"]) fun _ _ _ _ _ _ us hl => match us, hl with | [_], _ => rfl
  have F11 := fun_mk (st := sAreLengths) l11 c11 k11
  have b11 := F11.binds (ps := ["value"]) fun _ _ _ _ _ _ us hl => match us, hl with | [_], _ => rfl
  have F12 := fun_mk (st := sHasLevel) l12 c12 k12
  have b12 := F12.binds (ps := ["lengths"]) fun _ _ _ _ _ _ us hl => match us, hl with | [_], _ => rfl
  have F13 := fun_mk (st := sWantRing) l13 c13 k13
  have b13 := F13.binds (ps := ["value", "part"]) fun _ _ _ _ _ _ us hl => match us, hl with | [_, _], _ => rfl
  have F14 := fun_mk (st := sLotsOf) l14 c14 k14
  have b14 := F14.binds (ps := ["many"]) fun _ _ _ _ _ _ us hl => match us, hl with | [_], _ => rfl
  have F15 := fun_mk (st := sShortLots) l15 c15 k15
  have b15 := F15.binds (ps := ["ring"]) fun _ _ _ _ _ _ us hl => match us, hl with | [_], _ => rfl
  have F16 := fun_mk (st := sLevelLots) l16 c16 k16
  have b16 := F16.binds (ps := ["ring"]) fun _ _ _ _ _ _ us hl => match us, hl with | [_], _ => rfl
  have F17 := fun_mk (st := sLeastLong) l17 c17 k17
  have b17 := F17.binds (ps := ["ring"]) fun _ _ _ _ _ _ us hl => match us, hl with | [_], _ => rfl
  have F18 := fun_mk (st := sGreatestShort) l18 c18 k18
  have b18 := F18.binds (ps := ["ring"]) fun _ _ _ _ _ _ us hl => match us, hl with | [_], _ => rfl
  have F19 : FunC K "in_order" "in_order" sInOrder f19 _ cIO := ⟨⟨_, _, _, _, _, _, _, _, rfl, l19, c19⟩⟩
  have F190 := fun_mk (st := sInOrder) l19 c19 k19
  have b19 := F190.binds (ps := ["lots"]) fun _ _ _ _ _ _ us hl => match us, hl with | [_], _ => rfl
  have F20 := fun_mk (st := sLotsBySort) l20 c20 k20
  have b20 := F20.binds (ps := ["ring", "sort"]) fun _ _ _ _ _ _ us hl => match us, hl with | [_, _], _ => rfl
  have F21 := fun_mk (st := sLotsLess) l21 c21 k21
  have b21 := F21.binds (ps := ["lot"]) fun _ _ _ _ _ _ us hl => match us, hl with | [_], _ => rfl
  have F22 := fun_mk (st := sLwPen) l22 c22 k22
  have b22 := F22.binds (ps := ["_law_script"]) fun _ _ _ _ _ _ us hl => match us, hl with | [_], _ => rfl
  have F23 := fun_mk (st := sLwDraw) l23 c23 k23
  have b23 := F23.binds (ps := ["_law_pen_here", "_law_many"]) fun _ _ _ _ _ _ us hl => match us, hl with | [_, _], _ => rfl
  have F24 := fun_mk (st := sLwPick) l24 c24 k24
  have b24 := F24.binds (ps := ["_law_pen_here", "_law_some"]) fun _ _ _ _ _ _ us hl => match us, hl with | [_, _], _ => rfl
  have F25 := fun_mk (st := sLwLengths) l25 c25 k25
  have b25 := F25.binds (ps := ["_law_pen_here"]) fun _ _ _ _ _ _ us hl => match us, hl with | [_], _ => rfl
  have F26 := fun_mk (st := sLwLots) l26 c26 k26
  have b26 := F26.binds (ps := ["_law_many"]) fun _ _ _ _ _ _ us hl => match us, hl with | [_], _ => rfl
  have F27 := fun_mk (st := sLwSort) l27 c27 k27
  have b27 := F27.binds (ps := ["_law_lengths_here", "_law_lot"]) fun _ _ _ _ _ _ us hl => match us, hl with | [_, _], _ => rfl
  have F28 := fun_mk (st := sLwMixed) l28 c28 k28
  have b28 := F28.binds (ps := ["_law_pen_here", "_law_items"]) fun _ _ _ _ _ _ us hl => match us, hl with | [_, _], _ => rfl
  have F29 := fun_mk (st := sLwTogetherRight) l29 c29 k29
  have b29 := F29.binds (ps := ["_law_pen_here", "_law_lengths_here"]) fun _ _ _ _ _ _ us hl => match us, hl with | [_, _], _ => rfl
  have F30 := fun_mk (st := sLwTwoRight) l30 c30 k30
  have b30 := F30.binds (ps := ["_law_pen_here", "_law_lengths_here"]) fun _ _ _ _ _ _ us hl => match us, hl with | [_, _], _ => rfl
  have F31 := fun_mk (st := sLwLotsAnew) l31 c31 k31
  have b31 := F31.binds (ps := ["_law_lots_here", "_law_order"]) fun _ _ _ _ _ _ us hl => match us, hl with | [_, _], _ => rfl
  have F32 := fun_mk (st := sLwAnewRight) l32 c32 k32
  have b32 := F32.binds (ps := ["_law_pen_here", "_law_lengths_here"]) fun _ _ _ _ _ _ us hl => match us, hl with | [_, _], _ => rfl
  have F33 := fun_mk (st := sLaw) l33 c33 k33
  have b33 := F33.binds (ps := ["_law_script"]) fun _ _ _ _ _ _ us hl => match us, hl with | [_], _ => rfl
  have Fm0 := fun_mk (st := sRingInit) lm0 cm0 km0
  have bm0 := Fm0.binds (ps := ["self", "lengths"]) fun _ _ _ _ _ _ us hl => match us, hl with | [_, _], _ => rfl
  have Fm1 := fun_mk (st := sRingLen) lm1 cm1 km1
  have bm1 := Fm1.binds (ps := ["self"]) fun _ _ _ _ _ _ us hl => match us, hl with | [_], _ => rfl
  have Fm2 := fun_mk (st := sRingLengthOf) lm2 cm2 km2
  have bm2 := Fm2.binds (ps := ["self", "lot"]) fun _ _ _ _ _ _ us hl => match us, hl with | [_, _], _ => rfl
  have Fm3 := fun_mk (st := sRingSortOf) lm3 cm3 km3
  have bm3 := Fm3.binds (ps := ["self", "lot"]) fun _ _ _ _ _ _ us hl => match us, hl with | [_, _], _ => rfl
  have Fm4 := fun_mk (st := sRingBegunAt) lm4 cm4 km4
  have bm4 := Fm4.binds (ps := ["self", "bar"]) fun _ _ _ _ _ _ us hl => match us, hl with | [_, _], _ => rfl
  have Fm5 := fun_mk (st := sRingBackwards) lm5 cm5 km5
  have bm5 := Fm5.binds (ps := ["self"]) fun _ _ _ _ _ _ us hl => match us, hl with | [_], _ => rfl
  have Fm6 := fun_mk (st := sRingInOrder) lm6 cm6 km6
  have bm6 := Fm6.binds (ps := ["self", "order"]) fun _ _ _ _ _ _ us hl => match us, hl with | [_, _], _ => rfl
  have Fm7 := fun_mk (st := sRingAsOne) lm7 cm7 km7
  have bm7 := Fm7.binds (ps := ["self", "bar"]) fun _ _ _ _ _ _ us hl => match us, hl with | [_, _], _ => rfl
  have Fm8 := fun_mk (st := sRingInTwo) lm8 cm8 km8
  have bm8 := Fm8.binds (ps := ["self", "bar", "length"]) fun _ _ _ _ _ _ us hl => match us, hl with | [_, _, _], _ => rfl
  have Fm9 := fun_mk (st := sBadRingInit) lm9 cm9 km9
  have bm9 := Fm9.binds (ps := ["self", "part"]) fun _ _ _ _ _ _ us hl => match us, hl with | [_, _], _ => rfl
  have Fm10 := fun_mk (st := sBadLotInit) lm10 cm10 km10
  have bm10 := Fm10.binds (ps := ["self", "part"]) fun _ _ _ _ _ _ us hl => match us, hl with | [_, _], _ => rfl
  have Fm11 := fun_mk (st := sMissingInit) lm11 cm11 km11
  have bm11 := Fm11.binds (ps := ["self", "value"]) fun _ _ _ _ _ _ us hl => match us, hl with | [_, _], _ => rfl
  have Fm12 := fun_mk (st := sTwiceInit) lm12 cm12 km12
  have bm12 := Fm12.binds (ps := ["self", "value"]) fun _ _ _ _ _ _ us hl => match us, hl with | [_, _], _ => rfl
  refine ⟨PySem.W.fnOf "law" "law" (defArgs sLaw) (defBody sLaw) (defScope sLaw) .none kV33 dc33 pm33 an33 cd33 ct33, [(cIO, P2)], spLaw K P2 P2, fun p hp => ?_, fun p hp => ?_, fun p hp => ?_, fun s v => .of_eq rfl, fun H a ns hl _ hT' hs => ?_, fun base KB GB TB => ?_⟩
  · rw [List.mem_singleton.mp hp]; exact hT2
  · rw [List.mem_singleton.mp hp]; exact nT2
  · rw [List.mem_singleton.mp hp]; exact PySem.W.codeHd_of_K X (code_hd lc2 hdc2)
  · refine ⟨a, ns, rfl, hs, by omega, fun p hp => ?_, fun _ => rfl⟩
    rw [List.mem_singleton.mp hp]
    exact TabS.nil (hT' _ (List.mem_singleton.mpr rfl))
  · have tb2 := TB _ (List.mem_singleton.mpr rfl)
    have hm2 : (P2, qIO) ∈ T2 P2 P2 := List.mem_singleton.mpr rfl
    have hu2 : ∀ p ∈ T2 P2 P2, p.1 = P2 → p.2 = qIO := fun p hp e => by rw [List.mem_singleton.mp hp]
    have dInt := (⟨ok_isInt F0 T, gl a0, k0, b0⟩ : DefAt l.prog w K mg base _ _ "is_integer" _ _ _ _)
    have dList := (⟨ok_isList F2 T, gl a2, k2, b2⟩ : DefAt l.prog w K mg base _ _ "is_list" _ _ _ _)
    have dWith := (⟨ok_within F1 dInt, gl a1, k1, b1⟩ : DefAt l.prog w K mg base _ _ "is_within" _ _ _ _)
    have dNO := (⟨ok_numsO F3 T dInt dList, gl a3, k3, b3⟩ : DefAt l.prog w K mg base _ _ "is_numbers" _ _ _ _)
    have dNL := (⟨ok_numsL F3 T dInt dList, gl a3, k3, b3⟩ : DefAt l.prog w K mg base _ _ "is_numbers" _ _ _ _)
    have dNT := (⟨ok_numsT F3 T dInt dList, gl a3, k3, b3⟩ : DefAt l.prog w K mg base _ _ "is_numbers" _ _ _ _)
    have eR' : ErrAt l.prog w K mg base "BadRing" "part" eR fm9 _ := ⟨oeR, am9, tim9, nfeRpart, gl aeR, bm9, ok_badRingI Fm9⟩
    have eL' : ErrAt l.prog w K mg base "BadLot" "part" eL fm10 _ := ⟨oeL, am10, tim10, nfeLpart, gl aeL, bm10, ok_badLotI Fm10⟩
    have eN' : ErrAt l.prog w K mg base "NoBar" "value" eN fm11 _ := ⟨oeN, am11, tim11, nfeNvalue, gl aeN, bm11, ok_missingI Fm11⟩
    have eT' : ErrAt l.prog w K mg base "Twice" "value" eT fm12 _ := ⟨oeT, am12, tim12, nfeTvalue, gl aeT, bm12, ok_twiceI Fm12⟩
    have dFx := (⟨ok_fixed F4 T, gl a4, k4, b4⟩ : DefAt l.prog w K mg base _ _ "fixed" _ _ _ _)
    have dAtL := (⟨ok_taL F6 T dFx, gl a6, k6, b6⟩ : DefAt l.prog w K mg base _ _ "twice_at" _ _ _ _)
    have dAtT := (⟨ok_taT F6 T dFx, gl a6, k6, b6⟩ : DefAt l.prog w K mg base _ _ "twice_at" _ _ _ _)
    have dTwL := (⟨ok_twL F5 dFx dAtL, gl a5, k5, b5⟩ : DefAt l.prog w K mg base _ _ "first_twice" _ _ _ _)
    have dTwT := (⟨ok_twT F5 dFx dAtT, gl a5, k5, b5⟩ : DefAt l.prog w K mg base _ _ "first_twice" _ _ _ _)
    have dWB := (⟨ok_wantBar F8 dWith eN', gl a8, k8, b8⟩ : DefAt l.prog w K mg base _ _ "want_bar" _ _ _ _)
    have w1 := ok_wlO (c := ⟨eL, eN, eT⟩) F9 T dNO dWB dTwL eL' eT'
    have w2 := ok_wlL (c := ⟨eL, eN, eT⟩) F9 T dNL dWB dTwL eL' eT'
    have w3 := ok_wlT (c := ⟨eL, eN, eT⟩) F9 T dNT dWB dTwT eL' eT'
    have dWL := (⟨ok_wl w1 w2 w3, gl a9, k9, b9⟩ : DefAt l.prog w K mg base _ _ "want_lot" _ _ _ _)
    have dSB := (⟨ok_sortBy F10, gl a10, k10, b10⟩ : DefAt l.prog w K mg base _ _ "sort_by" _ _ _ _)
    have dAL := (⟨ok_areL F11 T N dWith dList, gl a11, k11, b11⟩ : DefAt l.prog w K mg base _ _ "are_lengths" _ _ _ _)
    have dAT := (⟨ok_areT F11 T N dWith dList, gl a11, k11, b11⟩ : DefAt l.prog w K mg base _ _ "are_lengths" _ _ _ _)
    have dHL := (⟨ok_hasL F12 T, gl a12, k12, b12⟩ : DefAt l.prog w K mg base _ _ "has_level" _ _ _ _)
    have dNum := (⟨ok_numV F7 dWith, gl a7, k7, b7⟩ : DefAt l.prog w K mg base _ _ "want_number" _ _ _ _)
    have dBar := (⟨ok_barV F8 dWith, gl a8, k8, b8⟩ : DefAt l.prog w K mg base _ _ "want_bar" _ _ _ _)
    have Gp : RingP l.prog w K mg base C fm0 _ _ _ _ _ := ⟨⟨rmk, am0, im0, rkc⟩, fn_or (ok_ri (P := l.prog) (w := w) (base := base) Fm0 T N R dAL dHL) (ok_riT (P := l.prog) (w := w) (base := base) Fm0 T N R dAT dHL), bm0, dBar, dNum⟩
    have NL := ok_rlen (P := l.prog) (w := w) (base := base) Fm1 T R
    have gLO := ok_lenOf (P := l.prog) (w := w) (base := base) Fm2 T R dWL
    have gSO := ok_sortOf (P := l.prog) (w := w) (base := base) Fm3 R ⟨am2, im2, km2⟩ gLO bm2 dSB
    have MS : MethV l.prog w K mg base C "sort_of" _ _ fm3 _ := ⟨⟨am3, im3, km3⟩, ok_sortVal gSO, bm3⟩
    have mSort : MethK l.prog w K mg base 6 C "sort_of" _ _ fm3 _ := ⟨⟨am3, im3, km3⟩, ok_sortG gSO, bm3⟩
    have mLen : MethK l.prog w K mg base 5 C "length_of" _ _ fm2 _ := ⟨⟨am2, im2, km2⟩, ok_lenVal gLO, bm2⟩
    have mBeg : MethK l.prog w K mg base 6 C "begun_at" _ _ fm4 _ := ⟨⟨am4, im4, km4⟩, ok_begun Fm4 T R Gp, bm4⟩
    have mBck : MethK l.prog w K mg base 6 C "backwards" _ _ fm5 _ := ⟨⟨am5, im5, km5⟩, ok_backw Fm5 T R Gp, bm5⟩
    have mOrd : MethK l.prog w K mg base 6 C "in_order" _ _ fm6 _ := ⟨⟨am6, im6, km6⟩, ok_ord Fm6 T R Gp dNL, bm6⟩
    have mOne : MethK l.prog w K mg base 6 C "as_one" _ _ fm7 _ := ⟨⟨am7, im7, km7⟩, ok_asOne Fm7 T R Gp, bm7⟩
    have mTwo : MethK l.prog w K mg base 6 C "in_two" _ _ fm8 _ := ⟨⟨am8, im8, km8⟩, ok_inTwo Fm8 T R Gp, bm8⟩
    have dWR := (⟨ok_wantR F13 T R eR', gl a13, k13, b13⟩ : DefAt l.prog w K mg base _ _ "want_ring" _ _ _ _)
    have dIO := (⟨ok_inOrd (P1 := P2) F19 T tb2 hm2 hu2, gl a19, k19, b19⟩ : DefAt l.prog w K mg base _ _ "in_order" _ _ _ _)
    have dLO := (⟨ok_lotsOf (P1 := P2) F14 T N dNum dIO, gl a14, k14, b14⟩ : DefAt l.prog w K mg base _ _ "lots_of" _ _ _ _)
    have dBY := (⟨ok_by (P1 := P2) F20 T R dLO MS ⟨am1, im1, km1⟩ NL bm1, gl a20, k20, b20⟩ : DefAt l.prog w K mg base _ _ "lots_by_sort" _ _ _ _)
    have dLL := (⟨ok_less F21 T, gl a21, k21, b21⟩ : DefAt l.prog w K mg base _ _ "lots_less" _ _ _ _)
    have dS1 := (⟨ok_short (P1 := P2) F15 dWR dBY, gl a15, k15, b15⟩ : DefAt l.prog w K mg base _ _ "short_lots" _ _ _ _)
    have dS2 := (⟨ok_level (P1 := P2) F16 dWR dBY, gl a16, k16, b16⟩ : DefAt l.prog w K mg base _ _ "level_lots" _ _ _ _)
    have dS3 := (⟨ok_ll (P1 := P2) F17 T dWR dBY dLL, gl a17, k17, b17⟩ : DefAt l.prog w K mg base _ _ "least_long" _ _ _ _)
    have dS4 := (⟨ok_gs (P1 := P2) F18 T dWR dBY dLL, gl a18, k18, b18⟩ : DefAt l.prog w K mg base _ _ "greatest_short" _ _ _ _)
    have dT1 := (⟨ok_tc dS1.ok, gl a15, k15, b15⟩ : DefAt l.prog w K mg base _ _ "short_lots" _ _ _ _)
    have dT2 := (⟨ok_tc dS2.ok, gl a16, k16, b16⟩ : DefAt l.prog w K mg base _ _ "level_lots" _ _ _ _)
    have dT3 := (⟨ok_tc dS3.ok, gl a17, k17, b17⟩ : DefAt l.prog w K mg base _ _ "least_long" _ _ _ _)
    have dT4 := (⟨ok_tc dS4.ok, gl a18, k18, b18⟩ : DefAt l.prog w K mg base _ _ "greatest_short" _ _ _ _)
    have dDr : DrawAt l.prog w K mg base _ _ := ⟨ok_draw F23 T, gl a23, k23, b23⟩
    have dPn := (⟨ok_pen F22 T, gl a22, k22, b22⟩ : DefAt l.prog w K mg base _ _ "_law_pen" _ _ _ _)
    have dPk := (⟨ok_pick F24 T dDr, gl a24, k24, b24⟩ : DefAt l.prog w K mg base _ _ "_law_pick" _ _ _ _)
    have dLn := (⟨ok_lengths F25 T dDr, gl a25, k25, b25⟩ : DefAt l.prog w K mg base _ _ "_law_lengths" _ _ _ _)
    have dLs := (⟨ok_lots F26 T, gl a26, k26, b26⟩ : DefAt l.prog w K mg base _ _ "_law_lots" _ _ _ _)
    have dSo := (⟨ok_sort F27 T, gl a27, k27, b27⟩ : DefAt l.prog w K mg base _ _ "_law_sort" _ _ _ _)
    have dMx := (⟨ok_mixed F28 T dDr, gl a28, k28, b28⟩ : DefAt l.prog w K mg base _ _ "_law_mixed" _ _ _ _)
    have dAn := (⟨ok_anew F31 T, gl a31, k31, b31⟩ : DefAt l.prog w K mg base _ _ "_law_lots_anew" _ _ _ _)
    have dTg := (⟨ok_tog F29 T R Gp dDr dSo dLs mOne mSort mLen, gl a29, k29, b29⟩ : DefAt l.prog w K mg base _ _ "_law_together_right" _ _ _ _)
    have dTw := (⟨ok_two F30 T R Gp dDr dPk dLs mTwo mSort mLen, gl a30, k30, b30⟩ : DefAt l.prog w K mg base _ _ "_law_two_right" _ _ _ _)
    have dAR := (⟨ok_ar (P1 := P2) F32 T R Gp dDr dMx dAn mBeg mBck mOrd dT1 dT2 dT3 dT4, gl a32, k32, b32⟩ : DefAt l.prog w K mg base _ _ "_law_anew_right" _ _ _ _)
    exact ok_law (P1 := P2) F33 T dPn dLn dTg dTw dAR
end K
open PySem PySem.W PyProof.Rows in
set_option maxRecDepth 100000 in
set_option maxHeartbeats 0 in
theorem PySem.Challenge.cw_ringbars_k10_bars_put_together_holds : PySem.Challenge.rw_ringbars_k10_bars_put_together.Holds := by
  w_on; o_law; k_head; (case hw => w_witness2)
  k_fill
  refine LamX.walk_ofTs (l := PySem.Challenge.rw_ringbars_k10_bars_put_together) (n := 63) (k := 11) (x := "_law_script") (CX := fun _ => L2.CX0) rfl (by decide) rfl ⟨rfl, by decide, by decide⟩ (fun w h Y => PySem.W.km_in_of Y) ?F (fun _ _ _ _ _ z => z)
  case F =>
    intro w mg fa h Y KX G hmg
    refine' K.all_mk KX G hmg ?aC ?aeR ?aeL ?aeN ?aeT ?a0 ?l0 ?c0 ?k0 ?a1 ?l1 ?c1 ?k1 ?a2 ?l2 ?c2 ?k2 ?a3 ?l3 ?c3 ?k3 ?a4 ?l4 ?c4 ?k4 ?a5 ?l5 ?c5 ?k5 ?a6 ?l6 ?c6 ?k6 ?a7 ?l7 ?c7 ?k7 ?a8 ?l8 ?c8 ?k8 ?a9 ?l9 ?c9 ?k9 ?a10 ?l10 ?c10 ?k10 ?a11 ?l11 ?c11 ?k11 ?a12 ?l12 ?c12 ?k12 ?a13 ?l13 ?c13 ?k13 ?a14 ?l14 ?c14 ?k14 ?a15 ?l15 ?c15 ?k15 ?a16 ?l16 ?c16 ?k16 ?a17 ?l17 ?c17 ?k17 ?a18 ?l18 ?c18 ?k18 ?a19 ?l19 ?c19 ?k19 ?a20 ?l20 ?c20 ?k20 ?a21 ?l21 ?c21 ?k21 ?a22 ?l22 ?c22 ?k22 ?a23 ?l23 ?c23 ?k23 ?a24 ?l24 ?c24 ?k24 ?a25 ?l25 ?c25 ?k25 ?a26 ?l26 ?c26 ?k26 ?a27 ?l27 ?c27 ?k27 ?a28 ?l28 ?c28 ?k28 ?a29 ?l29 ?c29 ?k29 ?a30 ?l30 ?c30 ?k30 ?a31 ?l31 ?c31 ?k31 ?a32 ?l32 ?c32 ?k32 ?a33 ?l33 ?c33 ?k33 ?am0 ?im0 ?lm0 ?cm0 ?km0 ?am1 ?im1 ?lm1 ?cm1 ?km1 ?am2 ?im2 ?lm2 ?cm2 ?km2 ?am3 ?im3 ?lm3 ?cm3 ?km3 ?am4 ?im4 ?lm4 ?cm4 ?km4 ?am5 ?im5 ?lm5 ?cm5 ?km5 ?am6 ?im6 ?lm6 ?cm6 ?km6 ?am7 ?im7 ?lm7 ?cm7 ?km7 ?am8 ?im8 ?lm8 ?cm8 ?km8 ?am9 ?im9 ?lm9 ?cm9 ?km9 ?tim9 ?am10 ?im10 ?lm10 ?cm10 ?km10 ?tim10 ?am11 ?im11 ?lm11 ?cm11 ?km11 ?tim11 ?am12 ?im12 ?lm12 ?cm12 ?km12 ?tim12 ?rpg ?rhd ?rpo ?rsa ?rmk ?rkc ?rn1 ?rn2 ?rn3 ?rn4 ?rha ?rhn ?rht ?rhm ?z_int ?z_len ?z_abs ?z_list ?z_tuple ?z_bool ?z_range ?z_sum ?z_max ?z_all ?z_any ?z_sorted ?z_enumerate ?z_isinstance ?g_MOST_LENGTH ?g_LEAST_BARS ?g_MOST_BARS ?xeR ?rveR ?saeR ?eCeR ?tCeR ?kCeR ?nfeRpart ?xeL ?rveL ?saeL ?eCeL ?tCeL ?kCeL ?nfeLpart ?xeN ?rveN ?saeN ?eCeN ?tCeN ?kCeN ?nfeNvalue ?xeT ?rveT ?saeT ?eCeT ?tCeT ?kCeT ?nfeTvalue ?lc2 ?hdc2 ?nT2 ?hT2
    (case hT2 => exact PySem.W.km_tabs_of Y _ (List.mem_cons_self ..))
    (case aC => k_is)
    (case aeR => k_is)
    (case aeL => k_is)
    (case aeN => k_is)
    (case aeT => k_is)
    (case a0 => k_is)
    (case l0 => k_is)
    (case c0 => k_is)
    (case k0 => k_is)
    (case a1 => k_is)
    (case l1 => k_is)
    (case c1 => k_is)
    (case k1 => k_is)
    (case a2 => k_is)
    (case l2 => k_is)
    (case c2 => k_is)
    (case k2 => k_is)
    (case a3 => k_is)
    (case l3 => k_is)
    (case c3 => k_is)
    (case k3 => k_is)
    (case a4 => k_is)
    (case l4 => k_is)
    (case c4 => k_is)
    (case k4 => k_is)
    (case a5 => k_is)
    (case l5 => k_is)
    (case c5 => k_is)
    (case k5 => k_is)
    (case a6 => k_is)
    (case l6 => k_is)
    (case c6 => k_is)
    (case k6 => k_is)
    (case a7 => k_is)
    (case l7 => k_is)
    (case c7 => k_is)
    (case k7 => k_is)
    (case a8 => k_is)
    (case l8 => k_is)
    (case c8 => k_is)
    (case k8 => k_is)
    (case a9 => k_is)
    (case l9 => k_is)
    (case c9 => k_is)
    (case k9 => k_is)
    (case a10 => k_is)
    (case l10 => k_is)
    (case c10 => k_is)
    (case k10 => k_is)
    (case a11 => k_is)
    (case l11 => k_is)
    (case c11 => k_is)
    (case k11 => k_is)
    (case a12 => k_is)
    (case l12 => k_is)
    (case c12 => k_is)
    (case k12 => k_is)
    (case a13 => k_is)
    (case l13 => k_is)
    (case c13 => k_is)
    (case k13 => k_is)
    (case a14 => k_is)
    (case l14 => k_is)
    (case c14 => k_is)
    (case k14 => k_is)
    (case a15 => k_is)
    (case l15 => k_is)
    (case c15 => k_is)
    (case k15 => k_is)
    (case a16 => k_is)
    (case l16 => k_is)
    (case c16 => k_is)
    (case k16 => k_is)
    (case a17 => k_is)
    (case l17 => k_is)
    (case c17 => k_is)
    (case k17 => k_is)
    (case a18 => k_is)
    (case l18 => k_is)
    (case c18 => k_is)
    (case k18 => k_is)
    (case a19 => k_is)
    (case l19 => k_is)
    (case c19 => k_is)
    (case k19 => k_is)
    (case a20 => k_is)
    (case l20 => k_is)
    (case c20 => k_is)
    (case k20 => k_is)
    (case a21 => k_is)
    (case l21 => k_is)
    (case c21 => k_is)
    (case k21 => k_is)
    (case a22 => k_is)
    (case l22 => k_is)
    (case c22 => k_is)
    (case k22 => k_is)
    (case a23 => k_is)
    (case l23 => k_is)
    (case c23 => k_is)
    (case k23 => k_is)
    (case a24 => k_is)
    (case l24 => k_is)
    (case c24 => k_is)
    (case k24 => k_is)
    (case a25 => k_is)
    (case l25 => k_is)
    (case c25 => k_is)
    (case k25 => k_is)
    (case a26 => k_is)
    (case l26 => k_is)
    (case c26 => k_is)
    (case k26 => k_is)
    (case a27 => k_is)
    (case l27 => k_is)
    (case c27 => k_is)
    (case k27 => k_is)
    (case a28 => k_is)
    (case l28 => k_is)
    (case c28 => k_is)
    (case k28 => k_is)
    (case a29 => k_is)
    (case l29 => k_is)
    (case c29 => k_is)
    (case k29 => k_is)
    (case a30 => k_is)
    (case l30 => k_is)
    (case c30 => k_is)
    (case k30 => k_is)
    (case a31 => k_is)
    (case l31 => k_is)
    (case c31 => k_is)
    (case k31 => k_is)
    (case a32 => k_is)
    (case l32 => k_is)
    (case c32 => k_is)
    (case k32 => k_is)
    (case a33 => k_is)
    (case l33 => k_is)
    (case c33 => k_is)
    (case k33 => k_is)
    (case am0 => k_is)
    (case im0 => k_is)
    (case lm0 => k_is)
    (case cm0 => k_is)
    (case km0 => k_is)
    (case am1 => k_is)
    (case im1 => k_is)
    (case lm1 => k_is)
    (case cm1 => k_is)
    (case km1 => k_is)
    (case am2 => k_is)
    (case im2 => k_is)
    (case lm2 => k_is)
    (case cm2 => k_is)
    (case km2 => k_is)
    (case am3 => k_is)
    (case im3 => k_is)
    (case lm3 => k_is)
    (case cm3 => k_is)
    (case km3 => k_is)
    (case am4 => k_is)
    (case im4 => k_is)
    (case lm4 => k_is)
    (case cm4 => k_is)
    (case km4 => k_is)
    (case am5 => k_is)
    (case im5 => k_is)
    (case lm5 => k_is)
    (case cm5 => k_is)
    (case km5 => k_is)
    (case am6 => k_is)
    (case im6 => k_is)
    (case lm6 => k_is)
    (case cm6 => k_is)
    (case km6 => k_is)
    (case am7 => k_is)
    (case im7 => k_is)
    (case lm7 => k_is)
    (case cm7 => k_is)
    (case km7 => k_is)
    (case am8 => k_is)
    (case im8 => k_is)
    (case lm8 => k_is)
    (case cm8 => k_is)
    (case km8 => k_is)
    (case am9 => k_is)
    (case im9 => k_is)
    (case lm9 => k_is)
    (case cm9 => k_is)
    (case km9 => k_is)
    (case tim9 => k_is)
    (case am10 => k_is)
    (case im10 => k_is)
    (case lm10 => k_is)
    (case cm10 => k_is)
    (case km10 => k_is)
    (case tim10 => k_is)
    (case am11 => k_is)
    (case im11 => k_is)
    (case lm11 => k_is)
    (case cm11 => k_is)
    (case km11 => k_is)
    (case tim11 => k_is)
    (case am12 => k_is)
    (case im12 => k_is)
    (case lm12 => k_is)
    (case cm12 => k_is)
    (case km12 => k_is)
    (case tim12 => k_is)
    (case rpg => k_is)
    (case rhd => k_is)
    (case rpo => k_is)
    (case rsa => k_is)
    (case rmk => k_is)
    (case rkc => k_is)
    (case rn1 => k_is)
    (case rn2 => k_is)
    (case rn3 => k_is)
    (case rn4 => k_is)
    (case rha => k_is)
    (case rhn => k_is)
    (case rht => k_is)
    (case rhm => k_is)
    (case z_int => k_is)
    (case z_len => k_is)
    (case z_abs => k_is)
    (case z_list => k_is)
    (case z_tuple => k_is)
    (case z_bool => k_is)
    (case z_range => k_is)
    (case z_sum => k_is)
    (case z_max => k_is)
    (case z_all => k_is)
    (case z_any => k_is)
    (case z_sorted => k_is)
    (case z_enumerate => k_is)
    (case z_isinstance => k_is)
    (case g_MOST_LENGTH => k_is)
    (case g_LEAST_BARS => k_is)
    (case g_MOST_BARS => k_is)
    (case xeR => k_is)
    (case rveR => first | (with_reducible rfl) | decide +kernel | k_is)
    (case saeR => k_is)
    (case eCeR => k_is)
    (case tCeR => k_is)
    (case kCeR => k_is)
    (case nfeRpart => k_is)
    (case xeL => k_is)
    (case rveL => first | (with_reducible rfl) | decide +kernel | k_is)
    (case saeL => k_is)
    (case eCeL => k_is)
    (case tCeL => k_is)
    (case kCeL => k_is)
    (case nfeLpart => k_is)
    (case xeN => k_is)
    (case rveN => first | (with_reducible rfl) | decide +kernel | k_is)
    (case saeN => k_is)
    (case eCeN => k_is)
    (case tCeN => k_is)
    (case kCeN => k_is)
    (case nfeNvalue => k_is)
    (case xeT => k_is)
    (case rveT => first | (with_reducible rfl) | decide +kernel | k_is)
    (case saeT => k_is)
    (case eCeT => k_is)
    (case tCeT => k_is)
    (case kCeT => k_is)
    (case nfeTvalue => k_is)
    (case lc2 => k_is)
    (case hdc2 => first | rfl | decide +kernel | with_unfolding_all rfl)
    (case nT2 => exact K.out_of Y (by decide +kernel))
