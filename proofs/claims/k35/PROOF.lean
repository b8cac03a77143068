import PyProof.Rows.All
import Wide.All
import OpenK.AllK
import Wide.FinOn
import HandS.ForMost
import HandS.IsInst
import HandS.Strs
import HandS.ExcInit
import HandS.ExcField
import HandS.ExcIs
import HandS.TryOnly
import HandS.Lambda
import HandS.EndTab
import HandS.Flow
import HandS.SortInts
import HandS.SortRule
import HandS.SortKw
import KE.KTupSum
import HandS.NamedTupSort
import PyProof.P3Eq
import HandS.ReCall
import KE.SortKeyHeap
import HandS.Walk
import KE.GoesEnum
import HandS.Deep
import PyProof.P3In
import KE.KDictPairs
import HandS.Dict
import KE.KExcIs
import HandS.DictComp
import KE.GoesZip
import KE.KDictZip
import HandS.Zip
import PyProof.ReprRoads
import PyProof.CallFns
import HandS.Evl
import HandS.WordsExc
import HandS.TupAny
import HandS.Conv
import HandS.Style
import KE.SortData
import HandS.Words
import PyProof.Rows.RegFStrParts
import KE.KNestM
import PySem.Challenge.RW_ringbars_k35_rounds_by_one_exchange
set_option Elab.async false
set_option linter.all false
set_option maxRecDepth 100000
set_option maxHeartbeats 4000000
/-! ## rules of our own, for what the rings' program says and the layer has no rule for -/
namespace Rg
open PySem PySem.Spec PyProof.Rows L2

/-! ### f(k = v, ..), oj.m(k = v, ..) -/
section
variable {X : Cx} {CX : CXT} {k : Nat} {f C : Addr} {fd : FuncData} {ps ks : List Str} {sp : Sp} {E : XK} {x m : Str} {p pos apos : Pos} {oj : Expr} {kws : List Keyword} {ta : TE} {tkn : TA}
variable {g : List Value → List Value → List Value} {gV : List V → List V → List V}
theorem pe_callK0 (F : FnOk X.prog X.w X.K X.mg X.base CX k f fd ps sp) (hr : Room k X.A) (hg : Gl X x) (hmm : X.mg x = some (.ref f)) (hk : PySem.W.keepIn X.K (.ref f) = true) (hb : KBinds X.K fd ps ks g gV) (hx : Passes CX X E)
    (hkw : PK X kws tkn) (hall : (backToKw pos (keywordEach kws X.env)).all (·.1.isSome) = true := by rfl) (hks : (backToKw pos (keywordEach kws X.env)).filterMap (·.1) = ks := by rfl)
    (hdb : (x == ("__debug__" : Str)) = false := by decide)
    (hpl : ((backTo pos (starEach [] X.env)).any (·.1) || (backToKw pos (keywordEach kws X.env)).any (·.1.isNone)) = false := by rfl) :
    PE X (.Call (.Name x p) [] kws pos) (tCallK sp gV E tNil tkn) := by
  refine ⟨fun pns s σs Hh Qq Iv h => ?_⟩
  refine wpAny_Call_Name_kw (ld_glob Iv hg hmm ?_ hdb)
  refine PySem.W.callWith_KW0 (h₀ := X.base) Iv.ok.mod.kin hk hall ?_ hpl
  refine thn (hkw.run pos pns s σs Hh _ Iv h) fun kvs2 sh2 ⟨zvs, H2, I2, rlz, q2⟩ => ⟨I2.kIn, ?_⟩
  rw [hks]
  exact run_fnk (us := []) (vs := []) F hr hb hx I2 .nil rlz q2
/-- oj.m(k = v, ..) -/
def tMethK (C : Addr) (m : Str) (sp : Sp) (gV : List V → List V → List V) (E : XK) (ta : TE) (tkn : TA) : TE := fun σs Hh Qq => ta σs Hh fun x H1 => ∃ a dx fs, x = .ref a ∧ H1 a = some (.ins C dx fs) ∧ fs.lookup m = none ∧
  tkn σs H1 fun zvs H2 => sp (gV [.ref a] zvs) H2 Qq E
theorem pe_methK0 {pl : Sem Bool} (he : PE X oj ta) (c : Cls X.K C) (hmm : Meth X.K C m f) (F : FnOk X.prog X.w X.K X.mg X.base CX k f fd ps sp) (hr : Room k X.A) (hb : KBinds X.K fd ps ks g gV) (hx : Passes CX X E)
    (hkw : PK X kws tkn) (hall : (backToKw pos (keywordEach kws X.env)).all (·.1.isSome) = true := by rfl) (hks : (backToKw pos (keywordEach kws X.env)).filterMap (·.1) = ks := by rfl)
    (hpl : ((backTo pos (starEach [] X.env)).any (·.1) || (backToKw pos (keywordEach kws X.env)).any (·.1.isNone)) = false := by rfl)
    (ht : eval (.Call (.Attribute oj m apos) [] kws pos) X.env = (do
      let ov ← eval oj X.env
      standAt apos.atName
      let (f, first) ← holding [ov] (getMethod ov m pl)
      callWith pos f first (backTo pos (starEach [] X.env)) (backToKw pos (keywordEach kws X.env))) := by rfl) :
    PE X (.Call (.Attribute oj m apos) [] kws pos) (tMethK C m sp gV E ta tkn) := by
  refine ⟨fun pns s σs Hh Qq Iv h => ?_⟩
  refine PySem.W.methodCall_KW (pl := pl) (thn (he.run pns s σs Hh _ Iv h) fun u sh1 ⟨x, H1, I1, rlx, a, dx, fs, ex, eqa, l, qq⟩ => ?_) ht
  subst ex
  obtain rfl : u = Value.ref a := rlx
  refine getmeth_ok I1 eqa c hmm l ?_
  refine PySem.W.callWith_KW0 (first := [.ref a]) (h₀ := X.base) Iv.ok.mod.kin hmm.kp hall ?_ hpl
  refine thn (hkw.run pos pns sh1 σs H1 _ I1 qq) fun kvs2 sh2 ⟨zvs, H2, I2, rlz, q2⟩ => ⟨I2.kIn, ?_⟩
  rw [hks]
  exact run_fnk (us := [.ref a]) (vs := [.ref a]) F hr hb hx I2 (.cons rfl .nil) rlz q2
end

/-! ### len(oj), the instance's own __len__ -/
section
variable {X : Cx} {k : Nat} {f : Addr} {fd : FuncData} {sp : Sp}
def rLenO (K : PySem.W.Frag) (f : Addr) (sp : Sp) : List V → Hp → VK → Prop := fun vxs Hh Qq => ∃ a C dx fs, vxs = [.ref a] ∧ Hh a = some (.ins C dx fs) ∧ PySem.W.findIn K (.ref C) "__len__" = some (some (.ref f)) ∧ PySem.W.isFn K (.ref f) = true ∧
  sp [.ref a] Hh (fun v H' => ∃ n : Int, v = .int n ∧ 0 ≤ n ∧ n < 2 ^ 63 ∧ Qq (.int n) H') E0
theorem call_lenO (F : FnOk X.prog X.w X.K X.mg X.base CX0 k f fd ["self"] sp) (hr : Room (k + 1) X.A) (hb : Binds X.K fd ["self"] []) : CallR X (.builtin "len") (rLenO X.K f sp) := by
  intro pns s σs Hh vxs uvs Qq Iv r h
  obtain ⟨a, C, dx, fs, rfl, eqa, hs, hf, qq⟩ := h
  obtain ⟨u, rfl, rlu⟩ := vals1 r
  obtain rfl : u = Value.ref a := rlu
  obtain ⟨mA, O, _, _, _, _⟩ := ins_get Iv.hok eqa
  obtain ⟨m, fr⟩ := Iv.fr
  obtain ⟨od, hod⟩ : ∃ od, s.heap.get? dx = some od := let ⟨oj, _, _, e', _⟩ := O.ns; ⟨oj, e'⟩
  refine PySem.W.len_K fr Iv.ok.mod.kin (ox := PySem.W.instObj C dx) (C := C) (od := some od) ⟨O.obj, rfl, rfl, hod⟩ hs hf ?_
  have hlst : ([Value.ref a] ++ []).length = (["self"] : List Str).length := rfl
  refine wpAny_call (codeAny_mono (F.run X.A.in1 X.stack s Hh ⟨[.ref a], []⟩ [.ref a] [.ref a] _ E0 hr.in1 Iv.env0.in1 (hb s [.ref a] Iv.kIn hlst) (.cons rfl .nil) qq) fun r s' hsq => ?_)
  cases r with
  | error e => exact hsq.elim
  | ok fl =>
    cases fl with
    | ret u =>
      obtain ⟨v, H', I3, rlv, n, ev, h0, hh1, q3⟩ := Iv.after hsq
      subst ev
      obtain ⟨t, rfl⟩ := rlv
      exact ⟨⟨h0, hh1⟩, ⟨.int n, H', I3.tok _, ⟨_, rfl⟩, q3⟩⟩
    | next => exact False.elim hsq
    | brk => exact False.elim hsq
    | cont => exact False.elim hsq
end

/-! ### sum, max of a tuple of ints; vls index -/
section
variable {prog : Program} {w : World} {A : Around} {E : Value → Shared → Prop} {s : Shared} {l : Addr} {vls : List Value} {nms : List Int} {Qq : Value → Shared → Prop}
theorem isTuple_of {h : Heap} (x : IsTup h l vls.toArray) : h.IsTuple l vls.toArray := x
theorem sumT_raw (hcal : A.handled = none) (hlst : s.heap.IsTuple l vls.toArray) (hint : IntsAre vls nms)
    (h : ∀ h' tkn t', (∀ b oj, s.heap.get? b = some oj → h'.get? b = some oj) → Qq (.int nms.sum t') { s with heap := h', toks := tkn }) : wpAny (model prog w) A (call (.builtin "sum") [.ref l]) Qq E s := by
  obtain ⟨vxs, e⟩ := hint.allInts.items
  have hnn : numsOf (intItems vxs).toList = nms := by rw [← e]; exact hint.numsOf
  rw [nums_intItems] at hnn
  rw [e] at hlst
  refine PySem.W.ktm_sumG hcal hlst fun h' tkn t' hk => ?_
  have := h h' tkn t' hk
  rw [preSum_eq, List.take_of_length_le (by simp), hnn]; exact this
end
section
variable {X : Cx}
def rSumT (K : PySem.W.Frag) : List V → Hp → VK → Prop := fun vs Hh Qq => ∃ (a : Addr) (nms : List Int), vs = [V.ref a] ∧ SqT K Hh a (nms.map V.int) ∧ Qq (.int nms.sum) Hh
theorem cr_sumT (hc : X.calm = true) : CallR X (.builtin "sum") (rSumT X.K) := by
  intro pns s σs Hh vs uvs Qq Iv r h
  obtain ⟨a, nms, rfl, hs, qq⟩ := h
  obtain ⟨vls, rlv, hlst, _⟩ := Iv.tuple hs
  rw [Vals.ref1 r]
  exact sumT_raw (Iv.ok.hd hc) (isTuple_of hlst) rlv.ints fun h' tkn t' hk => ⟨.int _, Hh, Iv.kept hk, ⟨_, rfl⟩, qq⟩
end
end Rg
namespace Rg
open PySem PySem.Spec PyProof.Rows L2
/-! ### max of a tuple of ints, vls index, isinstance of a caught error with fields -/
section
variable {prog : Program} {w : World} {A : Around} {E : Value → Shared → Prop} {s : Shared} {l : Addr} {vls : List Value} {nms : List Int} {Qq : Value → Shared → Prop}
theorem max_intTup {vxs : Array (Int × Tok)} (hcal : A.handled = none) (ht : s.heap.IsTuple l (intItems vxs)) (hpos : 0 < vxs.size)
    (h : ∀ v h' tkn, (intItems vxs)[argBest (fun i j => decide (numAt vxs i > numAt vxs j)) (vxs.size - 1)]? = some v → (∀ b oj, s.heap.get? b = some oj → h'.get? b = some oj) → Qq v { s with heap := h', toks := tkn }) :
    wpAny (model prog w) A (call (.builtin "max") [.ref l]) Qq E s := by
  obtain ⟨oj, hob, hc, n, hd⟩ := id ht
  have hI : l ≠ s.heap.objs.size := Nat.ne_of_lt (Heap.lt_size hob)
  refine call_max_walk (wpAny_pyIter_tuple ht ?_)
  refine ⟨s.heap.objs.size, _, _, _, _, _, _, rfl, Walks.tuple (A := A.in1) hcal _ l hI (intItems vxs), ⟨⟨_, Heap.get?_push_size _ rfl, rfl, rfl⟩, ht.at fun oj e => Heap.get?_push_of_some _ e⟩, fun b hb => ?_, by simpa [intItems] using hpos, CmpOf.ints_gt (numAt vxs) (fun _ _ => intItems_at), fun v h' tkn hP hk => ?_⟩
  · rcases List.mem_cons.mp hb with rfl | hb
    · exact Heap.lt_size (Heap.get?_push_size _ rfl)
    · obtain rfl := List.mem_singleton.mp hb
      exact Heap.lt_size (Heap.get?_push_of_some _ hob)
  · refine h v h' tkn (by simpa [intItems] using hP) fun b oj e => ?_
    exact hk b oj (fun hb => absurd (Heap.lt_size e) ((List.mem_singleton.mp hb) ▸ Nat.lt_irrefl _)) (Heap.get?_push_of_some _ e)
theorem maxT_raw (hcal : A.handled = none) (hlst : s.heap.IsTuple l vls.toArray) (hint : IntsAre vls nms) (hpos : 0 < nms.length)
    (h : ∀ h' tkn M t', (∀ b oj, s.heap.get? b = some oj → h'.get? b = some oj) → M ∈ nms → (∀ a, a ∈ nms → a ≤ M) → Qq (.int M t') { s with heap := h', toks := tkn }) : wpAny (model prog w) A (call (.builtin "max") [.ref l]) Qq E s := by
  obtain ⟨vxs, e⟩ := hint.allInts.items
  have hnn : numsOf (intItems vxs).toList = nms := by rw [← e]; exact hint.numsOf
  rw [nums_intItems] at hnn
  subst hnn
  rw [e] at hlst
  have hsz : 0 < vxs.size := by simpa using hpos
  refine max_intTup hcal hlst hsz fun v h' tkn hval hk => ?_
  obtain ⟨t, rfl⟩ := intItems_at hval
  obtain ⟨hh1, hh2⟩ := argBest_gt (numAt vxs) (vxs.size - 1)
  refine h h' tkn _ t hk ?_ fun a ha => ?_
  · rw [numAt_eq]; exact PySem.getD_mem (by rw [List.length_map, Array.length_toList]; omega)
  · obtain ⟨j, hjj, rfl⟩ := mem_getD ha
    rw [List.length_map, Array.length_toList] at hjj
    rw [← numAt_eq]; exact hh2 j (by omega)
end
section
variable {X : Cx}
def rMaxT (K : PySem.W.Frag) : List V → Hp → VK → Prop := fun vs Hh Qq => ∃ (a : Addr) (nms : List Int), vs = [V.ref a] ∧ SqT K Hh a (nms.map V.int) ∧ 0 < nms.length ∧ ∀ m, m ∈ nms → (∀ y, y ∈ nms → y ≤ m) → Qq (.int m) Hh
theorem cr_maxT (hc : X.calm = true) : CallR X (.builtin "max") (rMaxT X.K) := by
  intro pns s σs Hh vs uvs Qq Iv r h
  obtain ⟨a, nms, rfl, hs, hpos, qq⟩ := h
  obtain ⟨vls, rlv, hlst, _⟩ := Iv.tuple hs
  rw [Vals.ref1 r]
  exact maxT_raw (Iv.ok.hd hc) (isTuple_of hlst) rlv.ints hpos fun h' tkn m t' hk hh1 hh2 => ⟨.int _, Hh, Iv.kept hk, ⟨_, rfl⟩, qq m hh1 hh2⟩
theorem flat_ints (yms : List Int) : (yms.map V.int).all flatV = true := by
  rw [List.all_map]
  exact List.all_eq_true.mpr fun _ _ => rfl
def rTIdx (K : PySem.W.Frag) : V → List V → Hp → VK → Prop := fun x vxs Hh Qq => ∃ (p : Addr) (yms : List Int) (z : Int) (j : Nat), x = .ref p ∧ vxs = [.int z] ∧ SqT K Hh p (yms.map V.int) ∧ yms[j]? = some z ∧ (∀ m, m < j → yms[m]? ≠ some z) ∧ Qq (.int (j : Nat)) Hh
theorem mt_tupIdx : MtR X "tuple.index" (rTIdx X.K) := by
  intro pns s σs Hh x vxs v uvs Qq Iv rlx rs h
  obtain ⟨p, yms, z, j, rfl, rfl, hsq, hatj, hnot, qq⟩ := h
  cases rlx
  obtain ⟨u, rfl, t, rfl⟩ := vals1 rs
  obtain ⟨vls, r, pl, hszz⟩ := Iv.tuple hsq
  obtain ⟨⟨cls, dct, dta, slt⟩, hob, hc, n, hd⟩ := pl
  simp only at hc hd
  subst hc
  subst hd
  have hlst : vls.toArray.size = yms.length := by rw [List.size_toArray, ← r.length, List.length_map]
  have hjj : j < vls.toArray.size := by rw [hlst]; exact (List.getElem?_eq_some_iff.mp hatj).1
  have at' : ∀ (m : Nat) (hmm : m < vls.toArray.size), ∃ y t', yms[m]? = some y ∧ vls.toArray[m] = Value.int y t' := fun m hmm => by
    have hm' : m < yms.length := by rw [← hlst]; exact hmm
    obtain ⟨w, hwv, t', hw'⟩ := r.get (i := m) (x := .int yms[m]) (by simp [hm'])
    refine ⟨yms[m], t', List.getElem?_eq_getElem hm', ?_⟩
    have e := (List.getElem?_eq_some_iff.mp hwv).2
    rw [← hw', ← e]
    simp
  refine call_meets PySem.F.slot_tuple_index ⟨_, hob, rfl⟩ PySem.F.entry_tuple_index (PySem.F.args_tuple_index_2 _ _) (TI.tuple_indexAt p vls.toArray n dct slt (.int z t) (eqU (.int z)) j hjj ?_ ?_)
    ⟨hob, fun w hwv => mem_eqAt (x := .int z) ⟨t, rfl⟩ rfl r (flat_ints yms) w (by simpa using hwv), ⟨.int (j : Nat), Hh, Iv.tok _, ⟨_, rfl⟩, qq⟩⟩
  · obtain ⟨y, t', hh1, hh2⟩ := at' j hjj
    rw [hatj] at hh1
    cases hh1
    rw [hh2]
    simp [eqU, eqV]
  · intro m hmm hlt
    obtain ⟨y, t', hh1, hh2⟩ := at' m hmm
    rw [hh2]
    have : y ≠ z := fun e => hnot m hlt (by rw [hh1, e])
    simp [eqU, eqV, this]
end
/-! isinstance(e, c), e the exception that the suite holds, with vls dict -/
def rIsED (K : PySem.W.Frag) (D a : Addr) : List V → Hp → VK → Prop := fun vxs Hh Qq => ∃ (c : V) (cv : Value) (b : Bool), vxs = [.ref a, c] ∧ (∀ u, RelV c u → u = cv) ∧ PySem.W.kitOne K (.ref D) cv = some b ∧ Qq (.bl b) Hh
end Rg
namespace Rg
open PySem PySem.Spec PyProof.Rows L2 SrtO
/-! ### sorted(t), t a tuple -/
section
variable {prog : Program} {w : World} {A : Around} {E : Value → Shared → Prop} {s : Shared} {l : Addr} {vs : List Value}
/-- the heap behind the collecting -/
abbrev colHeap (h : Heap) (vs : List Value) : Heap := (h.push (seqObj "list" #[] 0)).update h.objs.size (Obj.mapSeq (· ++ vs.toArray))
theorem col_tup {Qq : List Value → Shared → Prop} (hlst : s.heap.IsTuple l vs.toArray) (hszz : vs.length ≤ sizeLine) (h : Qq vs { s with heap := colHeap s.heap vs }) : wpAny (model prog w) A (collect (.ref l)) Qq E s := by
  obtain ⟨oj, hob, hc, n, hd⟩ := hlst
  have hnew : (s.heap.push (seqObj "list" #[] 0)).get? s.heap.objs.size = some (seqObj "list" #[] 0) := Heap.get?_push_size _ rfl
  have hold : (s.heap.push (seqObj "list" #[] 0)).get? l = some oj := Heap.get?_push_of_some _ hob
  have tt : (Value.type "tuple" == Value.type "tuple") = true := by rfl
  unfold collect
  refine wpAny_bind (wpAny_runValue (codeAny_builtin entry_proto_collect' ?_))
  show wpAny _ _ (do again (.builtin "list.__iadd__" ⟨[← newList [], .ref l], []⟩)) _ _ s
  refine wpAny_bind (wpAny_newList (wpAny_pure ⟨Code.quiet_builtin _ (by decide +kernel), codeAny_builtin entry_list_iadd' ?_⟩))
  show wpAny _ _ (Builtin.List.listExtendWith (.ref s.heap.objs.size) (.ref l) (.ref s.heap.objs.size)) _ _ { s with heap := s.heap.push (seqObj "list" #[] 0) }
  unfold Builtin.List.listExtendWith
  refine wpAny_bind (wpAny_typeOf (T := "tuple") ⟨oj, hold, hc⟩ ?_)
  rw [if_pos (by rw [tt]; simp)]
  refine wpAny_bind (listItems_at hold hd (wpAny_bind (listItems_at (xs := #[]) (n := 0) hnew rfl ?_)))
  rw [if_neg (by simp)]
  refine wpAny_bind (listUpdate_at (xs := #[]) (n := 0) hnew rfl (wpAny_pure ?_) (Nat.zero_le _) (by show (#[] ++ vs.toArray).size ≤ sizeLine + 1; simp only [Array.size_append, List.size_toArray, List.length_nil]; omega))
  show wpAny (model prog w) A (do
      let oj ← load s.heap.objs.size
      match oj.data with
      | .seq vxs _ => pure vxs.toList
      | _ => unsupported "internal:collect") Qq E { s with heap := colHeap s.heap vs }
  refine wpAny_bind (wpAny_load (get?_update_seq hnew _) ?_)
  show wpAny _ _ (pure ((#[] : Array Value) ++ vs.toArray).toList) Qq E _
  have e : ((#[] : Array Value) ++ vs.toArray).toList = vs := by simp
  rw [e]
  exact wpAny_pure h
theorem sorted_tup {ltv : Value → Value → Bool} {Qq : Value → Shared → Prop} (O : Swo ltv) (hlst : s.heap.IsTuple l vs.toArray) (hszz : vs.length ≤ sizeLine)
    (hS : 2 ≤ vs.length → ∀ (h₁ : Heap) (a : Addr), h₁.get? a = some (seqObj "list" vs.toArray 0) → (∀ b oj, s.heap.get? b = some oj → b ≠ a ∧ h₁.get? b = some oj) → SortableO prog w A.in1.in1 { s with heap := h₁ } a vs ltv)
    (h : ∀ out : List Value, Srtd ltv out → Stb ltv out vs → Qq (.ref (s.heap.objs.size + 1)) { s with heap := sortedAll s.heap vs out.toArray }) : wpAny (model prog w) A (call (.builtin "sorted") [.ref l]) Qq E s := by
  have size1 : (colHeap s.heap vs).objs.size = s.heap.objs.size + 1 := by rw [Heap.size_update, size_push']
  have at1 : ((colHeap s.heap vs).push (seqObj "list" vs.toArray 0)).get? (s.heap.objs.size + 1) = some (seqObj "list" vs.toArray 0) := size1 ▸ Heap.get?_push_size (colHeap s.heap vs) rfl
  have old : ∀ b oj, s.heap.get? b = some oj → b ≠ s.heap.objs.size + 1 ∧ ((colHeap s.heap vs).push (seqObj "list" vs.toArray 0)).get? b = some oj := fun b oj qq => by
    have lt : b < s.heap.objs.size := Heap.lt_size qq
    exact ⟨Nat.ne_of_lt (Nat.lt_succ_of_lt lt), Heap.get?_push_of_some _ ((Heap.get?_update_ne _ _ _ _ (Nat.ne_of_lt lt)).trans (Heap.get?_push_of_some _ qq))⟩
  refine Calls.call_function_entry kind_sorted plain_sorted entry_sorted (args_sorted1 _) ?_
  unfold Builtin.«sorted»
  refine wpAny_bind (m := checkCount "sorted" 1 1 _) (wpAny_pure (wpAny_bind (col_tup hlst hszz (wpAny_bind (wpAny_newList ?_ hszz)))))
  show wpAny _ _ _ _ _ { s with heap := (colHeap s.heap vs).push (seqObj "list" vs.toArray 0) }
  rw [size1]
  exact wpAny_bind (wpAny_holding (wpAny_call_entry slot_list_sort ⟨_, at1, rfl⟩ entry_list_sort (list_sort_ord O at1 hszz (fun hh2 => hS hh2 _ _ at1 old) fun out hs hb => ⟨_, rfl, wpAny_pure ⟨_, rfl, h out hs hb⟩⟩) (args_list_sort _)))
end
section
variable {X : Cx}
def rSortedT (K : PySem.W.Frag) : List V → Hp → VK → Prop := fun vs Hh Qq => ∃ (a : Addr) (nms : List Int), vs = [V.ref a] ∧ SqT K Hh a (nms.map V.int) ∧
  ∀ (ns' : List Int) (p : Addr), ns'.Perm nms → ns'.Pairwise (· ≤ ·) → Hh p = none → Qq (.ref p) (upd Hh p (.lst (ns'.map V.int)))
theorem cr_sortedT : CallR X (.builtin "sorted") (rSortedT X.K) := by
  intro pns s σs Hh vs uvs Qq Iv r h
  obtain ⟨a, nms, rfl, hs, qq⟩ := h
  obtain ⟨vls, rlv, hlst, hszz⟩ := Iv.tuple hs
  have hint := rlv.ints
  rw [List.length_map] at hszz
  rw [Vals.ref1 r]
  refine sorted_tup swo_int (isTuple_of hlst) (by rw [hint.length]; exact hszz) (fun hh2 h₁ a' _ _ => ints_sortable hint hh2) fun out hh1 hh2 => ?_
  obtain ⟨k1, k2, k3⟩ := ints_out hint hh1 hh2
  obtain ⟨ep, he'⟩ := PyProof.Rows.sortedAll_at s.heap vls out.toArray
  exact ⟨.ref _, upd Hh (s.heap.objs.size + 1) (.lst ((out.map iv).map V.int)), Iv.laid (t' := s.toks) (fun _ _ => PyProof.Rows.sortedAll_old) (Nat.le_succ _) ⟨by rw [List.length_map, k2.length_eq]; exact hszz, out, ep, vals_of_ints k1, he'⟩, rfl, qq _ _ k2 k3 (Iv.hok.fresh (Nat.le_succ _))⟩
end
end Rg
namespace Rg
open PySem PySem.Spec PyProof.Rows L2 SrtO
/-! ### sorted(vxs), vxs a list of pairs (k, t): k an int, t a tuple of ints -/
/-- at v a pair of x and a tuple of the ints nms -/
def Nest (h : Heap) (v : Value) (x : Int) (nms : List Int) : Prop := ∃ (a b : Addr) (oj : Obj) (t : Tok) (n : Nat) (vls : List Value), v = .ref a ∧ h.get? a = some oj ∧ oj.cls = .type "tuple" ∧ oj.data = .seq #[.int x t, .ref b] n ∧ IsTup h b vls.toArray ∧ IntsAre vls nms
theorem Nest.kept {h h' : Heap} {v : Value} {x : Int} {nms : List Int} (p : Nest h v x nms) (k : ∀ b oj, h.get? b = some oj → oj.cls = .type "tuple" → h'.get? b = some oj) : Nest h' v x nms := by
  obtain ⟨a, b, oj, t, n, vls, e, hob, hc, hd, ⟨ob, hb, hbc, hbd⟩, hint⟩ := p
  exact ⟨a, b, oj, t, n, vls, e, k _ _ hob hc, hc, hd, ⟨ob, k _ _ hb hbc, hbc, hbd⟩, hint⟩
theorem reads_ints {h : Heap} : ∀ {vs : List Value} {nms : List Int}, IntsAre vs nms → ∃ as, ReadsAll h vs (nms.map PyData.int) as
  | _, _, .nil => ⟨_, .nil⟩
  | _, _, .cons i t r => by
    obtain ⟨as, qq⟩ := reads_ints (h := h) r
    exact ⟨_, .cons (.int i t) qq⟩
theorem eqvA_ints : ∀ vxs yms : List Int, PyData.eqvAll (vxs.map PyData.int) (yms.map PyData.int) = decide (vxs = yms)
  | [], [] => by simp [PyData.eqvAll]
  | [], y :: yms => by simp [PyData.eqvAll]
  | x :: vxs, [] => by simp [PyData.eqvAll]
  | x :: vxs, y :: yms => by
    simp only [List.map_cons, PyData.eqvAll, eqvA_ints vxs yms, PyData.eqv]
    by_cases e : x = y <;> by_cases f : vxs = yms <;> simp [e, f]
theorem layA_ints : ∀ l : List Int, PyData.canLayAll0 (l.map PyData.int) = true
  | [] => by simp [PyData.canLayAll0]
  | i :: l => by simp [PyData.canLayAll0, PyData.canLay0, layA_ints l]
theorem depA_ints : ∀ l : List Int, PyData.depthAll (l.map PyData.int) = 0
  | [] => by simp [PyData.depthAll]
  | i :: l => by simp [PyData.depthAll, PyData.depth, depA_ints l]
theorem lex_self : ∀ l : List Int, HT.lexLt l l = false
  | [] => rfl
  | x :: l => by rw [HT.lexLt_cons, if_pos rfl]; exact lex_self l
section
variable {prog : Program} {w : World} {A : Around} {E : Value → Shared → Prop} {s : Shared}
theorem eq_tupInts {b c : Addr} {vls jts : List Value} {nms ms : List Int} (hb : IsTup s.heap b vls.toArray) (hc : IsTup s.heap c jts.toArray) (hint : IntsAre vls nms) (hjj : IntsAre jts ms) (hu : A.units + 1 < cLine) :
    SeqAt.EqAt A s (.ref b) (.ref c) (decide (nms = ms)) := by
  obtain ⟨o1, hh1, c1, n1, d1⟩ := hb
  obtain ⟨o2, hh2, c2, n2, d2⟩ := hc
  obtain ⟨as, r1⟩ := reads_ints (h := s.heap) hint
  obtain ⟨bs, r2⟩ := reads_ints (h := s.heap) hjj
  have qq := SeqAt.eqAt_reads (.tuple (nms.map PyData.int)) (.tuple (ms.map PyData.int)) A s (.ref b) (.ref c) _ _ (Reads.tuple hh1 c1 d1 r1) (Reads.tuple hh2 c2 d2 r2) (by simp only [PyData.canLay0]; exact layA_ints nms) (by simp only [PyData.canLay0]; exact layA_ints ms)
    (by simp only [PyData.depth, depA_ints]; omega)
  have e : PyData.eqv (.tuple (nms.map PyData.int)) (.tuple (ms.map PyData.int)) = decide (nms = ms) := by
    simp only [PyData.eqv]
    exact eqvA_ints nms ms
  rwa [e] at qq
theorem nest_cmp {vs : List Value} {k : Value → Int × List Int} (hp : ∀ v ∈ vs, Nest s.heap v (k v).1 (k v).2) (hu : A.units + 1 < cLine) :
    SrtO.Cmp prog w A s (tuples' true) (fun p => p.1 ∈ vs) (lt2 fun v u => HT.lexLt ((k v).1 :: (k v).2) ((k u).1 :: (k u).2)) := by
  intro p qq hmm hm'
  have hh1 := hp _ hmm
  have hh2 := hp _ hm'
  show wpAny (model prog w) A (keyLt' (tuples' true) p.1 qq.1) (fun r s' => s' = s ∧ r = HT.lexLt ((k p.1).1 :: (k p.1).2) ((k qq.1).1 :: (k qq.1).2)) (fun _ _ => False) s
  generalize (k p.1).1 = x at hh1 ⊢
  generalize (k p.1).2 = nms at hh1 ⊢
  generalize (k qq.1).1 = y at hh2 ⊢
  generalize (k qq.1).2 = ms at hh2 ⊢
  obtain ⟨a, b, oj, t, n, vls, e, hob, hc, hd, hb, hint⟩ := hh1
  obtain ⟨a', b', o', t', n', its', e', ho', hc', hd', hb', hi'⟩ := hh2
  rw [e, e', HT.lexLt_cons]
  refine PySem.W.kat_lt hob hd ho' hd' ?_
  show PySem.W.KatLex prog w A true (decide (2 < 2)) _ [(.int x t, .int y t'), (.ref b, .ref b')] 0 s
  refine PySem.W.kat_cons (SeqAt.EqAt.int_int x t y t' prog w _ _ (PySem.W.kat_go (fun e1 => PySem.W.kat_yes (PySem.W.kat_cons (eq_tupInts hb hb' hint hi' hu prog w _ _ (PySem.W.kat_go (fun ee2 => ?_) (fun ee2 => ?_))))) (fun e1 => ?_)))
  · have ex : x = y := by simpa using e1
    have ey : nms = ms := of_decide_eq_true ee2
    refine PySem.W.kat_yes (PySem.W.kat_nil ⟨rfl, ?_⟩)
    rw [if_pos ex, ey, lex_self]
    rfl
  · have ex : x = y := by simpa using e1
    rw [if_pos ex]
    exact PySem.W.kat_no (PySem.W.kat_one _ _ (HT.lt_tupInts hb hb' hint hi' (by omega) ⟨rfl, rfl⟩))
  · have ex : ¬ x = y := by simpa using e1
    rw [if_neg ex]
    exact PySem.W.kat_no (oneLt_int ⟨rfl, rfl⟩)
theorem nest_firsts {h : Heap} {k : Value → Int × List Int} : ∀ {vs : List Value}, (∀ v ∈ vs, Nest h v (k v).1 (k v).2) → ∃ fs : List Value, PySem.W.KatTups h vs fs ∧ fs.length = vs.length ∧ ∀ f ∈ fs, ∃ x t, f = Value.int x t
  | [], _ => ⟨[], PySem.W.KatTups.nil, rfl, fun _ z => nomatch z⟩
  | v :: vs, hp => by
    obtain ⟨fs, q1, q2, q3⟩ := nest_firsts fun v' z => hp v' (List.mem_cons_of_mem _ z)
    obtain ⟨a, b, oj, t, n, vls, e, hob, hc, hd, _⟩ := hp v (List.mem_cons_self ..)
    rw [e]
    refine ⟨.int _ t :: fs, PySem.W.KatTups.cons hob hc hd rfl q1, congrArg (· + 1) q2, fun f z => ?_⟩
    rcases List.mem_cons.mp z with z | z
    · exact ⟨_, t, z⟩
    · exact q3 f z
theorem nest_sortable {a : Addr} {vs : List Value} {k : Value → Int × List Int} (h0 : 0 < vs.length) (hu : A.units + 1 < cLine) (hp : ∀ v ∈ vs, Nest s.heap v (k v).1 (k v).2) (ha : ∀ oj, s.heap.get? a = some oj → oj.cls ≠ .type "tuple") :
    SortableO prog w A s a vs fun v u => HT.lexLt ((k v).1 :: (k v).2) ((k u).1 :: (k u).2) := by
  intro h' keep
  have hp' : ∀ v ∈ vs, Nest h' v (k v).1 (k v).2 := fun v z => (hp v z).kept fun b oj e c => keep b oj (fun z => ha oj (z ▸ e) c) e
  obtain ⟨fs, q1, q2, q3⟩ := nest_firsts hp'
  refine ⟨tuples' true, fun Qq E hsq => PySem.W.kat_kind (T := .type "int") q1 (by omega) (fun f z => ?_) (by rfl) ?_, nest_cmp hp' hu⟩
  · obtain ⟨x, t, e⟩ := q3 f z
    rw [e]
    exact PySem.W.Looks.now
  · rw [show (Value.type "int" != Value.type "tuple") = true by decide +kernel]
    exact hsq
end
section
variable {X : Cx}
/-- k says what stands at each item -/
def rSortedN (K : PySem.W.Frag) : List V → Hp → VK → Prop := fun vs Hh Qq => ∃ (a : Addr) (vxs : List V) (k : V → Int × List Int), vs = [V.ref a] ∧ SqL K Hh a vxs ∧ (∀ x ∈ vxs, ∃ t b, x = V.ref t ∧ Hh t = some (.tup [.int (k x).1, .ref b]) ∧ Hh b = some (.tup ((k x).2.map V.int))) ∧
  ∀ yms p, Srtd (fun v u => HT.lexLt ((k v).1 :: (k v).2) ((k u).1 :: (k u).2)) yms → yms.Perm vxs → Hh p = none → Qq (.ref p) (upd Hh p (.lst yms))
theorem cr_sortedN (hu : X.A.units + 64 < cLine) : CallR X (.builtin "sorted") (rSortedN X.K) := by
  intro pns s σs Hh vs uvs Qq Iv r h
  obtain ⟨a, vxs, k, rfl, hs, hx, qq⟩ := h
  obtain ⟨vls, rlv, hlst, hszz⟩ := Iv.list hs
  rw [Vals.ref1 r]
  obtain ⟨e1, ee2⟩ := refs_back rlv fun x m => let ⟨t, _, e, _⟩ := hx x m; ⟨t, e⟩
  have nst : ∀ v ∈ vls, Nest s.heap v (k (backV v)).1 (k (backV v)).2 := fun v hval => by
    obtain ⟨t, rfl⟩ := ee2 v hval
    obtain ⟨t', b, et, hh1, hh2⟩ := hx (V.ref t) (by rw [e1]; exact List.mem_map.mpr ⟨_, hval, rfl⟩)
    cases et
    obtain ⟨_, jts, r2, oj, hob, hc, n, hd⟩ := Iv.hok _ _ hh1
    obtain ⟨u1, u2, rfl, ⟨t1, rfl⟩, r3⟩ := vals2 r2
    obtain rfl : u2 = Value.ref b := r3
    obtain ⟨_, kts, r4, p4⟩ := Iv.hok _ _ hh2
    exact ⟨t, b, oj, t1, n, kts, rfl, hob, hc, hd, p4, r4.ints⟩
  refine sorted_ord (NtL.swo_lexL fun u : Value => (k (backV u)).1 :: (k (backV u)).2) hlst.isList (by rw [← rlv.length]; exact hszz) (fun hh2 h₁ a' ha kk => ?_) fun out hh1 hh2 => ?_
  · refine nest_sortable (s := { s with heap := h₁ }) (k := fun u => k (backV u)) (by omega) (show X.A.units + 1 + 1 + 1 < cLine by omega) (fun v hval => (nst v hval).kept fun b oj e _ => (kk b oj e).2) fun oj e c => ?_
    cases e.symm.trans ha
    exact absurd (Value.type.inj c) (by decide)
  · have h3 : ∀ u ∈ out, ∃ a, u = Value.ref a := fun u hu => ee2 u (hh2.perm.mem_iff.mp hu)
    have hp : (out.map backV).Perm vxs := by rw [e1]; exact hh2.perm.map backV
    obtain ⟨n, hnn⟩ := PyProof.Rows.sortedAll_at s.heap vls out.toArray
    exact ⟨.ref _, upd Hh (s.heap.objs.size + 1) (.lst (out.map backV)), Iv.laid (t' := s.toks) (fun _ _ => PyProof.Rows.sortedAll_old) (Nat.le_succ _) ⟨by rw [hp.length_eq]; exact hszz, out, n, vals_back h3, hnn⟩, rfl,
      qq _ _ (List.pairwise_map.mpr hh1) hp (Iv.hok.fresh (Nat.le_succ _))⟩
end
end Rg
namespace Rg
open PySem PySem.Spec PyProof.Rows L2
/-! tuple(list), whose object is known to have no dict: so that vls methods can be called -/
section
variable {X : Cx}
def rTupF (K : PySem.W.Frag) : List V → Hp → VK → Prop := fun vxs Hh Qq => ∃ p yms, vxs = [V.ref p] ∧ SqL K Hh p yms ∧ ∀ l oj, Hh l = none → oj.dict = none → Qq (.ref l) (upd Hh l (.frz oj (.tup yms)))
theorem cr_tupF : CallR X (.type "tuple") (rTupF X.K) := by
  intro pns s σs Hh vxs uvs Qq Iv r ⟨p, yms, e, hsq, qq⟩
  subst e
  obtain ⟨u, rfl, rlx⟩ := vals1 r
  cases rlx
  obtain ⟨vls, rlv, pl, sz⟩ := Iv.list hsq
  have hnn := rlv.length
  refine call_tuple_list pl.isList (fun hh1 kp => ?_) (by rw [List.size_toArray]; omega)
  have J : Inv X pns σs Hh { s with heap := hh1 } := Iv.kept (t' := s.toks) kp
  have J2 : Inv X pns σs (upd Hh hh1.objs.size (.frz { cls := .type "tuple", data := .seq vls.toArray } (.tup yms))) { s with heap := hh1.push { cls := .type "tuple", data := .seq vls.toArray } } :=
    J.laid (t' := s.toks) (fun b oj e => Heap.get?_push_of_some _ e) (Nat.le_refl _)
      (show ObjOk X.prog X.w _ _ _ (.frz _ (.tup yms)) from ⟨Heap.get?_push_size _ rfl, sz, vls, rlv, IsTup.new _ _⟩)
  exact ⟨.ref hh1.objs.size, _, J2, rfl, qq _ _ (J.hok.fresh (Nat.le_refl _)) rfl⟩
def tyTF (x : V) (Hh : Hp) : Prop := ∃ a oj yms, x = .ref a ∧ Hh a = some (.frz oj (.tup yms)) ∧ oj.dict = none
theorem ty_tf : TyOk X "tuple" tyTF := by
  intro pns σs Hh s x v Iv r ⟨a, oj, yms, e, h, hd⟩
  subst e
  cases r
  obtain ⟨e, _, vls, _, o2, ee2, hc, _⟩ := (show ObjOk X.prog X.w Hh s.heap a (.frz oj (.tup yms)) from Iv.hok a _ h)
  refine ⟨⟨_, ee2, hc⟩, fun b qq => ?_⟩
  cases qq
  exact ⟨oj, e, hd⟩
end
end Rg
namespace Rg
open PySem PySem.Spec PyProof.Rows L2 LamX
/-! ### sorted(lots, key=lambda lot: (len(lot), lot)), lots tuples of ints -/
theorem reads_intsN {h : Heap} : ∀ {vs : List Value} {nms : List Int}, IntsAre vs nms → ReadsAll h vs (nms.map PyData.int) []
  | _, _, .nil => .nil
  | _, _, .cons i t r => .cons (.int i t) (reads_intsN r)
def lotKey (l : List Int) : PyData := .tuple [.int (l.length : Nat), .tuple (l.map PyData.int)]
theorem alike_lotKey (a b : List Int) : PySem.W.alike (lotKey a) (lotKey b) = true := by
  simp [lotKey, PySem.W.alike, PySem.W.alikeAll, PySem.W.alike_ints]
theorem depth_lotKey (a : List Int) : (lotKey a).depth ≤ 4 := by
  simp [lotKey, PyData.depth, PyData.depthAll, PySem.W.depth_ints]
theorem eqvA_ints8 : ∀ vxs yms : List Int, PyData.eqvAll (vxs.map PyData.int) (yms.map PyData.int) = decide (vxs = yms)
  | [], [] => by simp [PyData.eqvAll]
  | [], y :: yms => by simp [PyData.eqvAll]
  | x :: vxs, [] => by simp [PyData.eqvAll]
  | x :: vxs, y :: yms => by
    simp only [List.map_cons, PyData.eqvAll, eqvA_ints8 vxs yms, PyData.eqv]
    by_cases e : x = y <;> by_cases f : vxs = yms <;> simp [e, f]
/-- fewer bars first, then as tuples -/
def lotLe (a b : List Int) : Bool := !PySem.W.dataLt (lotKey b) (lotKey a)
section
variable {prog : Program} {w : World} {A : Around} {s : Shared} {h : Heap}
theorem lotkey_turn {tk : Nat} {f c' t : Addr} {q y : Str} {params : Arguments} {scope : Scope} {pm ctv : Value} {p1 p2 p3 p4 p5 : Pos} {x1 : Nat} {mg mb : Str → Option Value} {ns : List Int} {its : List Value}
    (hroom : A.depth < recursionLimit)
    (hf : h.get? f = some (PySem.W.kla_obj "<lambda>" q params (.Tuple [.Call (.Name "len" p1) [.Name y p2] [] p3, .Name y p4] x1 p5) scope [] pm c' ctv))
    (hco : scope.isCoroutine = false) (hgen : scope.isGenerator = false) (hk : scope.kind = .function)
    (hcell : ∀ x ∈ scope.names, x.2 ≠ .cell) (hy : scope.names.lookup y = some .local) (hlen : scope.names.lookup ("len" : Str) = some .globalImplicit)
    (hbind : ∀ v : Value, bindArgs (PySem.W.kla_fn "<lambda>" q params (.Tuple [.Call (.Name "len" p1) [.Name y p2] [] p3, .Name y p4] x1 p5) scope [] pm (.ref c') ctv) ⟨[v], []⟩ = pure [(y, v)])
    (hcd : h.CodeRec (.ref c') q) (hg : h.Ns mainGlobals mg) (hm : mg ("len" : Str) = none) (hb : h.Ns builtinsNs mb) (hmb : mb ("len" : Str) = some (.builtin "len")) (hnl : h.NoLimit)
    (ht : IsTup h t its.toArray) (hi : IntsAre its ns) (hz : its.length ≤ sizeLine) (hyd : (y == ("__debug__" : Str)) = false) :
    wpAny (model prog w) A (call (.ref f) [.ref t]) (PySem.W.KeyPure (lotKey ns) { s with heap := h, toks := tk }) (fun _ _ => False) { s with heap := h, toks := tk } := by
  refine wpAny_call (PySem.W.kla_callFunE hroom hf rfl hco hgen rfl hcd ?_)
  rw [hbind]
  refine wpAny_pure (wpAny_newFunctionEnv hcell (fun z hz => by rw [List.mem_singleton.mp hz]; exact hy) (fun h₁ hns hsb => ⟨hnl.fresh _ hsb, ?_⟩) hk)
  have kp : ∀ b o, h.get? b = some o → h₁.get? b = some o := fun b o e => hsb.extBut b o (Nat.ne_of_lt (Heap.lt_size e)) (Heap.get?_push_of_some _ e)
  show codeAny _ _ (.expr _ (PySem.W.envX q scope h.objs.size f (.ref c') [])) _ _
  refine PySem.W.kla_codeExpr ?_
  refine wpAny_Tuple_spliced ?_
  have rd : ∀ (A' : Around) (tk' : Nat) (pos : Pos) (Q : Value → Shared → Prop) (E : Value → Shared → Prop), Q (.ref t) { s with heap := h₁, toks := tk' } → wpAny (model prog w) A' (eval (.Name y pos) (PySem.W.envX q scope h.objs.size f (.ref c') [])) Q E { s with heap := h₁, toks := tk' } := fun A' tk' pos Q E hQ =>
    wpAny_Name (wpAny_loadName_local hk hy hns (by show ([(y, Value.ref t)].reverse).lookup y = _; simp) hQ) hyd
  refine Calls.spliced_cons (wpAny_Call_Name_kw (Calls.Name_function_global hk hlen (Calls.loadGlobal_builtin (hg.keeps kp) hm (hb.keeps kp) hmb ?_)))
  refine PyProof.Rows.callWith_builtin1 (Calls.spliced_cons (rd _ _ _ _ _ (Calls.spliced_nil ?_))) rfl rfl
  refine len_tuple (ht.keeps kp) ?_ ?_
  · have := line63
    simp only [List.size_toArray]
    omega
  refine Calls.spliced_cons (rd _ _ _ _ _ (Calls.spliced_nil ⟨by show 2 ≤ sizeLine; decide, ?_⟩))
  refine ⟨_, _, rfl, fun b o e => Heap.get?_push_of_some _ (kp b o e), ?_⟩
  obtain ⟨o, ho, hc, n, hd⟩ := ht.keeps kp
  refine Reads.tuple (Heap.get?_push_size _ rfl) rfl rfl ?_
  show ReadsAll _ [.int (its.toArray.size : Nat) _, .ref t] [.int (ns.length : Nat), .tuple (ns.map .int)] []
  have e1 : its.toArray.size = ns.length := by rw [List.size_toArray, hi.length]
  rw [e1]
  exact ReadsAll.cons (.int _ _) (ReadsAll.cons (Reads.tuple (Heap.get?_push_of_some _ ho) hc hd (reads_intsN hi)) .nil)
end
theorem each_vals : ∀ {out : List Value} {ys : List V}, PySem.W.EachIs (fun u x => RelV x u) out ys → Vals ys out
  | _, _, .nil => .nil
  | _, _, .cons r t => .cons r (each_vals t)
theorem vals_each : ∀ {ys : List V} {out : List Value}, Vals ys out → PySem.W.EachIs (fun u x => RelV x u) out ys
  | _, _, .nil => .nil
  | _, _, .cons r t => .cons r (vals_each t)
section
variable {X : Cx}
/-- sorted(e, key=the lambda) -/
def tSortLots (K : PySem.W.Frag) (T : List (Addr × Str)) (te : TE) : TE := fun σ H Q => te σ H fun v H1 => ∃ (a : Addr) (xs : List V) (k : V → List Int), v = .ref a ∧ SqL K H1 a xs ∧ (∀ x ∈ xs, ∃ t, x = V.ref t ∧ H1 t = some (.tup ((k x).map V.int))) ∧ Tabs T H1 ∧
  ∀ (H2 : Hp) (p : Addr) (ys : List V), ExtN H1 H2 → Tabs T H2 → ys.Perm xs → (ys.Pairwise fun u v => lotLe (k u) (k v) = true) → H2 p = none → Q (.ref p) (upd H2 p (.lst ys))
theorem pe_sortLots {T : List (Addr × Str)} {c P : Addr} {y : Str} {params : Arguments} {scope : Scope} {p p1 p2 p3 p4 p5 lpos kpos pos : Pos} {x1 : Nat} {e : Expr} {te : TE}
    (hdp : X.A.depth < recursionLimit) (hu : X.A.units + 64 < cLine) (hgS : Gl X ("sorted" : Str)) (hmS : X.mg ("sorted" : Str) = none) (hmL : X.mg ("len" : Str) = none) (he : PE X e te)
    (TB : TabB X.base X.mg c P) (hcode : X.env.code = .ref c) (hmT : (P, X.env.qual ++ "<lambda>") ∈ T) (huT : ∀ p ∈ T, p.1 = P → p.2 = X.env.qual ++ "<lambda>")
    (hdef : defaultsOf params X.env = ([], [])) (hco : scope.isCoroutine = false) (hgen : scope.isGenerator = false) (hk : scope.kind = .function)
    (hcell : ∀ x ∈ scope.names, x.2 ≠ .cell ∧ x.2 ≠ .free) (hy : scope.names.lookup y = some .local) (hlen : scope.names.lookup ("len" : Str) = some .globalImplicit) (hclo : cloFrom X.env.cells scope.names [] = [])
    (hbind : ∀ (q : Str) (pm cv ctv v : Value), bindArgs (PySem.W.kla_fn "<lambda>" q params (.Tuple [.Call (.Name "len" p1) [.Name y p2] [] p3, .Name y p4] x1 p5) scope [] pm cv ctv) ⟨[v], []⟩ = pure [(y, v)])
    (hyd : (y == ("__debug__" : Str)) = false := by decide)
    (hes : backTo pos (starEach [e] X.env) = [(false, eval e X.env)] := by rfl) :
    PE X (.Call (.Name "sorted" p) [e] [⟨some "key", .Lambda params (.Tuple [.Call (.Name "len" p1) [.Name y p2] [] p3, .Name y p4] x1 p5) scope lpos, kpos⟩] pos) (tSortLots X.K T te) := by
  refine ⟨fun pins s σ H Q I h => ?_⟩
  refine wpAny_Call_Name_kw (ld_blt I hgS hmS (u := .builtin "sorted") (by decide +kernel) ?_ (by decide) (by decide))
  refine PyProof.Rows.callWith_kw ?_ hes (by rw [hes]; rfl) rfl rfl
  rw [hes]
  refine Calls.spliced_cons (thn (he.run pins s σ H _ I h) fun u s1 ⟨v, H1, I1, r1, q1⟩ => Calls.spliced_nil ?_)
  obtain ⟨a, xs, k, rfl, hs, hx, hT, q⟩ := q1
  obtain rfl : u = Value.ref a := r1
  show wpAny _ _ (evalAll [do let v ← eval (.Lambda params (.Tuple [.Call (.Name "len" p1) [.Name y p2] [] p3, .Name y p4] x1 p5) scope lpos) X.env; standAt pos; pure v]) _ _ _
  refine wpAny_evalAll_cons (wpAny_bind ?_)
  refine lam_make2 I1 TB hcode hmT huT hT hdef (fun z hz ef => absurd ef (hcell z hz).2) fun f c' pm ctv H2 s2 I2 eN T2 hf hfn hfr hco2 => ?_
  rw [hclo] at hf
  refine wpAny_bind (wpAny_standAt (wpAny_pure ?_))
  refine wpAny_evalAll_nil ?_
  show wpAny _ _ (call (.builtin "sorted") [.ref a] [(Str.ofString "key", .ref f)]) _ _ s2
  have hs2 : SqL X.K H2 a xs := by
    rcases hs with (hs | ⟨o, hs⟩) | hs
    · exact .inl (.inl (eN _ _ hs (fun _ z => nomatch z)))
    · exact .inl (.inr ⟨o, eN _ _ hs (fun _ z => nomatch z)⟩)
    · exact .inr hs
  obtain ⟨its, rv, hl, hsz⟩ := I2.list hs2
  have hx2 : ∀ x ∈ xs, ∃ t, x = V.ref t ∧ H2 t = some (.tup ((k x).map V.int)) := fun x m => let ⟨t, e1, e2⟩ := hx x m; ⟨t, e1, eN _ _ e2 (fun _ z => nomatch z)⟩
  obtain ⟨⟨oc, cvs, ct, hoc, hdc, hvc⟩, _, _⟩ := I2.hok c' _ hco2
  obtain ⟨mb, hb1, hb2⟩ := I2.mod.blt
  refine PySem.W.sorted_key_data (β := V) (R := fun u x => RelV x u) (fun x => lotKey (k x)) hl.isList (vals_each rv) (PySem.W.AllAlike.of fun b b' => alike_lotKey _ _) (PySem.W.Sortable.tuples fun b => ⟨_, _, rfl⟩) hsz
    (fun x _ => by have := depth_lotKey (k x); omega) (PyProof.Rows.ksk_s1 _ _) (fun _ => PyProof.Rows.ksk_l1 _ _) (fun x => PyProof.Rows.ksk_t1 f x) ?_ ?_
  · intro v x hR hxm h' tk' hk'
    obtain ⟨t, rfl, ht⟩ := hx2 x hxm
    obtain rfl : v = Value.ref t := hR
    obtain ⟨hz, jts, rj, tj⟩ := I2.hok t _ ht
    refine lotkey_turn (hroom := hdp) (hk' _ _ hf) hco hgen hk (fun z hz => (hcell z hz).1) hy hlen (fun v => hbind _ _ _ _ v) ⟨c', oc, cvs, ct, rfl, hk' _ _ hoc, hdc, hvc⟩
      ((I2.mod.glob.keeps I2.bk).keeps hk') hmL ((hb1.keeps I2.bk).keeps hk') ((hb2 _ (by decide)).trans PySem.boot_len) (I2.nolimit.keeps hk') (tj.keeps hk') rj.ints (by rw [← rj.length]; exact hz) hyd
  · intro out cc h' tk' hk' hfr' hnew hol heach
    have hpm : (xs.mergeSort (PySem.W.dataLe false fun x => lotKey (k x))).Perm xs := List.mergeSort_perm ..
    refine ⟨.ref (s2.heap.objs.size + 1), upd H2 (s2.heap.objs.size + 1) (.lst (xs.mergeSort (PySem.W.dataLe false fun x => lotKey (k x)))), I2.laid (t' := tk') hk' (Nat.le_succ _) ?_, rfl, ?_⟩
    · exact ⟨by rw [hpm.length_eq]; exact hsz, out, cc, each_vals heach, hnew⟩
    · have nf : H2 (s2.heap.objs.size + 1) = none := I2.hok.fresh (Nat.le_succ _)
      refine q _ _ _ eN T2 hpm ?_ nf
      have z := PySem.W.sortLe_total (listOrd itemOrd) false (fun x : V => PySem.W.keyToks (lotKey (k x)))
      exact List.pairwise_mergeSort (le := PySem.W.dataLe false fun x => lotKey (k x)) (fun a b c => z.trans a b c) (fun a b => Bool.or_eq_true _ _ |>.mpr (z.total a b)) xs
end
end Rg
namespace Rg
open PySem PySem.Spec PyProof.Rows L2
/-! ### enumerate(t), t a tuple -/
theorem meets_enum1 {v : Value} {ob : Obj} {Hz : Heap → Prop} (B : Begins v ob Hz) :
    Meets (Builtin.«enumerate.__new__» ⟨[.type "enumerate", v], []⟩) (fun _ R s => Hz s.heap ∧
      R (.ok (.ret (.ref (s.heap.push ob).objs.size))) { s with heap := (s.heap.push ob).push { cls := .type "enumerate", data := .fields #[.none, .bool false, .ref s.heap.objs.size, rawInt 0, .none, .none] } }) :=
  .of_wp fun prog w A R s h => by
    obtain ⟨hp, gg, dd, tk, os⟩ := s
    obtain ⟨hz, h⟩ := h
    have hsub := sub_enumerate
    have go : ∀ {A' : Around} {E' : Value → Shared → Prop} {Q' : Value → Shared → Prop}, Q' (.ref hp.objs.size) ⟨hp.push ob, gg, dd, tk, os⟩ → wpAny (model prog w) A' (pyIter v) Q' E' ⟨hp, gg, dd, tk, os⟩ :=
      fun q => B.iter prog w _ _ ⟨hp, gg, dd, tk, os⟩ _ hz q
    wp_walk using go
    refine wpAny_stack_any fun st => wpAny_pure ?_
    split
    · rename_i c _ _ _ _ _
      cases (c == Value.type "enumerate")
      · wp_walk using go
        exact ⟨_, rfl, h⟩
      · wp_walk using go
        exact ⟨_, rfl, h⟩
    · wp_walk using go
      exact ⟨_, rfl, h⟩
section
variable {prog : Program} {w : World} {A : Around} {E : Value → Shared → Prop} {s : Shared}
theorem call_enum1 {v : Value} {ob : Obj} {Hz : Heap → Prop} {Q : Value → Shared → Prop} (B : Begins v ob Hz) (hz : Hz s.heap)
    (k : ∀ g, IsEnum g (s.heap.objs.size + 1) s.heap.objs.size 0 .none → g.get? s.heap.objs.size = some ob → (∀ c u, s.heap.get? c = some u → g.get? c = some u) → Q (.ref (s.heap.objs.size + 1)) { s with heap := g }) :
    wpAny (model prog w) A (call (.type "enumerate") [v]) Q E s := by
  refine callType_new F.called_enumerate (by decide) (F.typeCall_enumerate_1 _) (F.newCall_enumerate_1 _) (fun obj => F.args_object_init_2 obj _) F.entry_enumerate_new (meets_enum1 B) ⟨hz, ?_⟩
  have sz : (s.heap.push ob).objs.size = s.heap.objs.size + 1 := Heap.size_push ..
  show _ ∧ _
  rw [sz]
  have ie : IsEnum ((s.heap.push ob).push { cls := .type "enumerate", data := .fields #[.none, .bool false, .ref s.heap.objs.size, rawInt 0, .none, .none] }) (s.heap.objs.size + 1) s.heap.objs.size 0 .none := by
    have z := Heap.get?_push_size (s.heap.push ob) (o := { cls := .type "enumerate", data := .fields #[.none, .bool false, .ref s.heap.objs.size, rawInt 0, .none, .none] }) rfl
    rw [sz] at z
    exact z
  exact ⟨⟨_, ie, rfl⟩, k _ ie (Heap.get?_push_of_some _ (Heap.get?_push_size _ B.free)) fun c u x => Heap.get?_push_of_some _ (Heap.get?_push_of_some _ x)⟩
end
/-- the tuple at a as it stands at each turn, each item in a new pair -/
def IteT (K : PySem.W.Frag) (a : Addr) : It :=
  ⟨fun i H => ∃ (xs : List V) (x : V), SqT K H a xs ∧ xs[i]? = some x, fun i H v H' => ∃ T x, v = .ref T ∧ H T = none ∧ H' = upd H T (.tup [.int (i : Nat), x]) ∧ ∀ xs, SqT K H a xs → xs[i]? = some x, fun i H => ∃ xs : List V, SqT K H a xs ∧ xs.length ≤ i⟩
theorem turn_enumT {P : Program} {w : World} {K : PySem.W.Frag} {elts : List Expr} {kk : Nat} {tpos : Pos} (a e it : Addr) :
    Turn P w K (.Tuple elts kk tpos) (IteT K a) [e, it] e (fun i h => (∃ old, IsEnum h e it ((i : Nat) : Int) old) ∧ h.IsTupleIter it a i ∧ e ≠ it) where
  mem := List.mem_cons_self ..
  obj := by
    rintro i h ⟨⟨old, he⟩, ⟨o, ho, hc, hd⟩, _⟩ b hb
    rcases List.mem_cons.mp hb with z | z
    · rw [z]; exact ⟨_, he, fun v q => nomatch q⟩
    · rw [List.mem_singleton.mp z]; exact ⟨o, ho, fun v q => by rw [hd] at q; cases q⟩
  keep := by
    rintro i h h' ⟨⟨old, he⟩, hi, hne⟩ k
    exact ⟨⟨old, k e (by simp) _ he⟩, hi.at fun o q => k it (by simp) o q, hne⟩
  item := by
    intro X hP hw hK hc i pins s σ H E I hf st hg
    subst hP hw hK
    obtain ⟨⟨old, he⟩, hit, hne⟩ := st
    obtain ⟨xs, x, hq, hx⟩ := hg
    obtain ⟨its, rv, tp, hz⟩ := I.tuple hq
    obtain ⟨u, hu, ru⟩ := rv.get hx
    have hel : e < s.heap.objs.size := Heap.lt_size he
    have hil : it < s.heap.objs.size := by obtain ⟨_, q, _⟩ := hit; exact Heap.lt_size q
    obtain ⟨ot, hot, hct, nt, hdt⟩ := tp
    have nai : a ≠ it := fun z => by
      obtain ⟨oi, hoi, hci, _⟩ := hit
      rw [← z, hot] at hoi
      cases hoi
      rw [hct] at hci
      exact absurd (Value.type.inj hci) (by decide)
    have nae : a ≠ e := fun z => by
      have he' := he
      rw [IsEnum, ← z, hot] at he'
      cases he'
      exact absurd (Value.type.inj hct) (by decide)
    have hlt : i < its.toArray.size := by
      rw [List.size_toArray]
      exact (List.getElem?_eq_some_iff.mp hu).1
    refine wpAny_pyNext_enum_itemD (Draws.tuple (A := X.A.in1) (I.ok.hd hc) it a nai its.toArray) he ⟨hit, ⟨ot, hot, hct, nt, hdt⟩⟩ hlt hne (by simp [hne, Ne.symm nae]) fun u' g tk hP ho hst' hT hsz hk => ?_
    have eu : u' = u := by
      have h1 : its.toArray[i]? = some u' := hP
      rw [List.getElem?_toArray, hu] at h1
      exact (Option.some.inj h1).symm
    subst eu
    refine ⟨_, rfl, wpAny_letOwnedTupleGo_enum (s := { s with heap := g, toks := tk + 1 }) ho fun g2 he' sb => ?_⟩
    have hT2 : g2.get? s.heap.objs.size = some { cls := .type "tuple", data := .seq #[.int i tk, u'] } := (sb.2 _ (Nat.ne_of_gt hel)).trans hT
    have I1 : Inv X pins σ (upd H s.heap.objs.size (.tup [.int (i : Nat), x])) { s with heap := g2, toks := tk + 1 } :=
      I.turnedNew (ch := [e, it]) (fun b ob hb q => (sb.2 b (fun z => hb (by simp [z]))).trans (hk b ob (fun z => hb (by simp [z])) (fun z => hb (by simp [z])) q)) hf (Nat.le_refl _)
        ⟨by show 2 ≤ sizeLine; decide, [.int i tk, u'], .cons ⟨_, rfl⟩ (.cons ru .nil), ⟨_, hT2, rfl, _, rfl⟩⟩
    refine ⟨.ref s.heap.objs.size, _, I1, rfl, ⟨_, x, rfl, I.hok.fresh (Nat.le_refl _), rfl, fun ys hy => by rw [I.tuple_inj hy hq]; exact hx⟩, ⟨⟨u', ?_⟩, hst'.1.at fun o q => (sb.2 it (Ne.symm hne)).trans q, hne⟩, fun b hb => ?_⟩
    · have e1 : ((i + 1 : Nat) : Int) = (i : Int) + 1 := by omega
      rw [e1]
      exact he'
    · have hb' : b < s.heap.objs.size := by
        rcases List.mem_cons.mp hb with z | z
        · rw [z]; exact hel
        · rw [List.mem_singleton.mp z]; exact hil
      rw [upd_ne (Nat.ne_of_lt hb')]
      exact (hf b hb).1
  done := by
    intro X hP hw hK hc i pins s σ H E I hf st hg
    subst hP hw hK
    obtain ⟨⟨old, he⟩, hit, hne⟩ := st
    obtain ⟨xs, hq, hx⟩ := hg
    obtain ⟨its, rv, tp, hz⟩ := I.tuple hq
    obtain ⟨f0, f1, f2, f3, f4, f5⟩ := hf it (by simp)
    have hl := rv.length
    have hT : s.TypeIs (.ref e) "enumerate" := ⟨_, he, rfl⟩
    unfold pyNext
    refine wpAny_bind (wpAny_attempt (wpAny_callSpecial?_slot (name := Str.ofString "__next__") hT F.slot_enumerate_next
      (wpAny_call_entry F.slot_enumerate_next hT F.entry_enumerate_next ?_ (F.args_enumerate_next_1 _))))
    show wpAny _ _ (field (.ref e) 2 >>= _) _ _ _
    refine wpAny_bind (wpAny_field he rfl (x := .ref it) rfl ?_)
    refine wpAny_bind (wpAny_nextOf_tuple_end (I.ok.hd hc) hit tp (by simp; omega) fun g x eb hx' => ?_)
    obtain ⟨o, ho, hcl⟩ := hx'
    refine wpAny_bind (wpAny_isInstance (T := "StopIteration") (b := true) ⟨o, ho, hcl⟩ isSubtype_stop ?_)
    exact wpAny_pure ⟨rfl, I.turned (t' := s.toks) (fun b o hb q => eb b o hb q) f0 f1 f3 f4 f5⟩
  self := fun A i s Q E st h => let ⟨⟨_, he⟩, _⟩ := st; wpAny_pyIter_enum he h
def iEnumT (K : PySem.W.Frag) (ta : TA) : TI := fun σ H R => ta σ H fun vs H1 => ∃ a xs, vs = [.ref a] ∧ SqT K H1 a xs ∧ R (IteT K a) H1
theorem pi_enumT {X : Cx} {e : Expr} {ta : TA} {p pos tpos : Pos} {elts : List Expr} {kk : Nat} (hg : Gl X "enumerate") (hm : X.mg "enumerate" = none) (ha : PA X [e] ta) (hs : starEach [e] X.env = [(false, eval e X.env)] := by rfl) :
    PI X (.Tuple elts kk tpos) (.Call (.Name "enumerate" p) [e] [] pos) (iEnumT X.K ta) := by
  refine ⟨fun pins s σ H R I h => ?_⟩
  refine Call_ (ld_blt I hg hm boot_enumerate (PyProof.Rows.callWith_type1 (thn (ha.run pos pins s σ H _ I h) fun us s1 ⟨vs, H1, I1, r1, q1⟩ => ?_) hs rfl))
  obtain ⟨a, xs, rfl, hq, q⟩ := q1
  rw [Vals.ref1 r1]
  obtain ⟨its, rv, tp, hz⟩ := I1.tuple hq
  refine call_enum1 (begins_tuple a its.toArray) tp fun g he hit hk => wpAny_pyIter_enum he ?_
  have I2 : Inv X pins σ H1 { s1 with heap := g } := I1.kept (t' := s1.toks) hk
  refine ⟨s1.heap.objs.size + 1, [s1.heap.objs.size + 1, s1.heap.objs.size], _, _, H1, rfl, I2, turn_enumT a (s1.heap.objs.size + 1) s1.heap.objs.size, ⟨⟨.none, he⟩, ⟨_, hit, rfl, rfl⟩, Nat.succ_ne_self _⟩, fun b hb => ?_, q⟩
  have hle : s1.heap.objs.size ≤ b := by
    rcases List.mem_cons.mp hb with z | z
    · rw [z]; exact Nat.le_succ _
    · rw [List.mem_singleton.mp z]; exact Nat.le_refl _
  exact I1.fpOk hle (I1.hok.fresh hle)
theorem walk_enumT {K : PySem.W.Frag} {a : Addr} {xs : List V} : Walk (IteT K a) xs.length (fun H => SqT K H a xs) (YPair (fun i => some (.int (i : Nat))) (fun i => xs[i]?)) := by
  refine ⟨fun i _ hi q => ⟨xs, xs[i], q, List.getElem?_eq_getElem hi⟩, fun _ q => ⟨xs, q, Nat.le_refl _⟩, fun i H v H' _ q y => ?_⟩
  obtain ⟨T, x, y1, y2, y3, y4⟩ := y
  exact ⟨T, .int (i : Nat), x, y1, y2, y3, rfl, y4 xs q⟩
end Rg
namespace Rg
open PySem PySem.Spec PyProof.Rows L2
/-! ### x in a tuple of data -/
section
variable {X : Cx}
def rInDT (K : PySem.W.Frag) : R2 := fun x y Hh Qq => ∃ dx dxs, Dp K Hh x dx ∧ Dp K Hh y (.tuple dxs) ∧ SeqAt.shaped dx = true ∧ SeqAt.shaped (.tuple dxs) = true ∧ Qq (.bl (dxs.any fun z => PyData.eqv z dx)) Hh
theorem op_inDT (hu : X.A.units + 65 < cLine) : OpR X (compareOp .In) (rInDT X.K) := by
  intro pns s σs Hh x y v u Qq Iv rlx rly h
  obtain ⟨dx, dxs, hdx, hdy, sx, sy, qq⟩ := h
  obtain ⟨as, rd1⟩ := Dp.reads Iv dx x v hdx rlx
  obtain ⟨bs, rd2⟩ := Dp.reads Iv (.tuple dxs) y u hdy rly
  exact SeqAt.in_tuple_reads rd2 rd1 (SeqAt.canLay_of_shaped sy) (SeqAt.canLay_of_shaped sx) (room_in_shaped sx hu) ⟨.bl _, Hh, Iv, rfl, qq⟩
end
end Rg
namespace Rg
open PySem PySem.Spec PyProof.Rows L2
/-! ### dict(xs) of a list of pairs whose keys are tuples -/
section
variable {X : Cx}
def PrT (Hh : Hp) (p : Addr × Addr) (kv : List Key × V) : Prop := Hh p.1 = some (.tup [.ref p.2, kv.2]) ∧ Hh p.2 = some (.tup (kv.1.map kV))
def rDictT (K : PySem.W.Frag) : List V → Hp → VK → Prop := fun vxs Hh Qq => ∃ (a : Addr) (pps : List (Addr × Addr)) (kvs : List (List Key × V)), vxs = [.ref a] ∧ SqL K Hh a ((pps.map (·.1)).map V.ref) ∧
  Paired (PrT Hh) pps kvs ∧ (kvs.map (·.1)).Nodup ∧ ∀ d, Hh d = none → Qq (.ref d) (upd Hh d (.dT kvs))
theorem stored_fresh : ∀ (prs acc : List (List Key × Addr × Value)), ((acc ++ prs).map (·.1)).Nodup → storedAllH acc prs = acc ++ prs
  | [], acc, _ => by rw [List.append_nil]; rfl
  | p :: prs, acc, nd => by
    have e : atKey acc p.1 = none := by
      refine atKey_none_of_get fun j q hj => ?_
      rw [List.map_append, List.nodup_append] at nd
      exact nd.2.2 p.1 (List.mem_map.mpr ⟨_, List.mem_of_getElem? hj, rfl⟩) p.1 (List.mem_cons_self ..) rfl
    show storedAllH (storedH acc p.1 p.2.1 p.2.2) prs = _
    rw [storedH_new e, stored_fresh prs (acc ++ [(p.1, p.2.1, p.2.2)]) (by rw [List.append_assoc]; exact nd), List.append_assoc]
    rfl
theorem prs_of {pns : List (Addr × Obj)} {σs : L2.St} {Hh : Hp} {s : Shared} (Iv : Inv X pns σs Hh s) : ∀ {pps : List (Addr × Addr)} {kvs : List (List Key × V)}, Paired (PrT Hh) pps kvs →
    ∃ prs : List (List Key × Addr × Value), KT Hh kvs prs ∧ prs.length = pps.length ∧ ∀ (j : Nat) (q : List Key × Addr × Value), prs[j]? = some q → ∃ p, pps[j]? = some p ∧ p.2 = q.2.1 ∧ IsTup s.heap p.1 #[.ref q.2.1, q.2.2]
  | _, _, .nil => ⟨[], .nil, rfl, fun j q e => by simp at e⟩
  | _, _, .cons (a := p) (b := kv) h t => by
    obtain ⟨prs, r, hl, hp⟩ := prs_of Iv t
    obtain ⟨its, rv, ht, _⟩ := Iv.tuple (.inl (.inl h.1))
    obtain ⟨u, y, ei, ru, ry⟩ := vals2 rv
    subst ei
    cases ru
    refine ⟨(kv.1, p.2, y) :: prs, .cons ⟨rfl, h.2, ry⟩ r, by rw [List.length_cons, List.length_cons, hl], fun j q e => ?_⟩
    cases j with
    | zero =>
      have e' : (kv.1, p.2, y) = q := Option.some.inj e
      subst e'
      exact ⟨p, rfl, rfl, ht⟩
    | succ j =>
      obtain ⟨b, e1, e2, e3⟩ := hp j q (by simpa using e)
      exact ⟨b, by simpa using e1, e2, e3⟩
theorem kt_new {Hh : Hp} {d : Addr} {u : HO} (hd : Hh d = none) : ∀ {kvs : List (List Key × V)} {prs : List (List Key × Addr × Value)}, KT Hh kvs prs → KT (upd Hh d u) kvs prs
  | _, _, .nil => .nil
  | _, _, .cons ⟨h1, h2, h3⟩ t => .cons ⟨h1, by rw [upd_ne (ne_of_none h2 hd)]; exact h2, h3⟩ (kt_new hd t)
theorem kt_keys {Hh : Hp} : ∀ {kvs : List (List Key × V)} {prs : List (List Key × Addr × Value)}, KT Hh kvs prs → prs.map (·.1) = kvs.map (·.1)
  | _, _, .nil => rfl
  | _, _, .cons ⟨h1, _, _⟩ t => by rw [List.map_cons, List.map_cons, kt_keys t, h1]
theorem kt_get {Hh : Hp} : ∀ {kvs : List (List Key × V)} {prs : List (List Key × Addr × Value)}, KT Hh kvs prs → ∀ q ∈ prs, Hh q.2.1 = some (.tup (q.1.map kV))
  | _, _, .nil => fun q h => nomatch h
  | _, _, .cons ⟨h1, h2, _⟩ t => fun q h => by
    rcases List.mem_cons.mp h with e | e
    · subst e
      rw [← h1]
      exact h2
    · exact kt_get t q e
theorem call_dictT (hcalm : X.calm = true) (hu : X.A.units + 2 < cLine) : CallR X (.type "dict") (rDictT X.K) := by
  intro pns s σs Hh vxs uvs Qq Iv r q
  obtain ⟨a, pps, kvs, rfl, hq, hp, nd, q⟩ := q
  obtain ⟨u, rfl, rx⟩ := vals1 r
  cases rx
  obtain ⟨its, rv, pl, hz⟩ := Iv.list hq
  have ei := refs_at rv
  subst ei
  rw [List.length_map, List.length_map] at hz
  obtain ⟨prs, rel, hl, hpr⟩ := prs_of Iv hp
  obtain ⟨o, n, ho, hc, hd, hdat⟩ := pl
  have hk := kt_get rel
  have P := PairArg.list (prog := X.prog) (w := X.w) a ((pps.map (·.1)).map Value.ref).toArray (fun j => ((pps[j]?).map (·.1)).getD 0) (prs.map fun q => (Value.ref q.2.1, q.2.2))
  refine call_dict_pairsH (knd := tupleKind (mixKind X.prog X.w)) (ps := prs) P (Iv.ok.hd hcalm) hu ⟨⟨o, n, ho, hc, hd, hdat⟩, ?_, fun j k v hj => ?_⟩ ⟨by rw [List.length_map], fun i key v hi => ?_⟩ (fun h' hs x hx => ?_) (by rw [List.length_map, hl]; exact hz) fun h' tk hd' ks => ?_
  · simp [hl]
  · rw [List.getElem?_map] at hj
    obtain ⟨qq, hq2, e⟩ := Option.map_eq_some_iff.mp hj
    obtain ⟨p, e1, e2, e3⟩ := hpr j qq hq2
    injection e with ek ev
    subst ek ev
    refine ⟨?_, ?_⟩
    · simp [e1]
    · show PairAt s.heap (((pps[j]?).map (·.1)).getD 0) _ _
      rw [e1]
      exact .inl e3
  · rw [show PairRel (prs.map fun q => (Value.ref q.2.1, q.2.2)) i key v = ((prs.map fun q => (Value.ref q.2.1, q.2.2))[i]? = some (key, v)) from rfl, List.getElem?_map] at hi
    obtain ⟨qq, hq2, e⟩ := Option.map_eq_some_iff.mp hi
    injection e with ek ev
    subst ek ev
    exact ⟨qq.1, qq.2.1, hq2, rfl⟩
  · obtain ⟨o', items, m, h1, h2, h3, h4⟩ := key_of Iv.hok (hk x hx)
    exact ⟨o', items, m, hs _ _ (Nat.ne_of_lt (Heap.lt_size h1)) (by simp) h1, h2, h3, h4⟩
  · rw [stored_fresh prs [] (by rw [List.nil_append, kt_keys rel]; exact nd), List.nil_append] at hd'
    have hm : (s.heap.objs.size == sysModules) = false := beq_eq_false_iff_ne.mpr (Nat.ne_of_gt Iv.big)
    have hfr := Iv.hok.fresh (Nat.le_refl s.heap.objs.size)
    obtain ⟨o2, es, ep, g1, g2, g3, g4, g5, g6⟩ := hd'
    have hlen : kvs.length ≤ sizeLine := by
      have := congrArg List.length (kt_keys rel)
      rw [List.length_map, List.length_map] at this
      omega
    exact ⟨.ref s.heap.objs.size, upd Hh s.heap.objs.size (.dT kvs), Iv.laid (t' := tk) (fun b u e => ks b u (by simp) e) (Nat.le_refl _) (show ObjOk X.prog X.w _ _ _ (.dT kvs) from ⟨hlen, hm, prs, kt_new hfr rel, o2, es, ep, g1, g2, g3, g4, g6⟩), rfl, q _ hfr⟩
end
end Rg
namespace Rg
open PySem PySem.Spec PyProof.Rows L2
/-! ### an error that is kept behind its clause -/
/-- an error object of the class at C, its dict at dd -/
def errO (e C : Addr) (dd : Option Addr) : HO := .ext fun hp => ∃ (ob : Obj) (vs : Array Value), hp.get? e = some ob ∧ ob.cls = .ref C ∧ ob.dict = dd ∧ ob.data = .fields vs
theorem errO_at {P : Program} {w : World} {H : Hp} {hp : Heap} {e C : Addr} {dd : Option Addr} (hok : HOk P w H hp) (he : H e = some (errO e C dd)) : ∃ (ob : Obj) (vs : Array Value), hp.get? e = some ob ∧ ob.cls = .ref C ∧ ob.dict = dd ∧ ob.data = .fields vs := (hok e _ he).1
theorem errO_ok {P : Program} {w : World} {H : Hp} {hp : Heap} {e C : Addr} {dd : Option Addr} {ob : Obj} {vs : Array Value} (he : hp.get? e = some ob) (h1 : ob.cls = .ref C) (h2 : ob.dict = dd) (h3 : ob.data = .fields vs) : ObjOk P w H hp e (errO e C dd) :=
  ⟨⟨ob, vs, he, h1, h2, h3⟩, ⟨ob, he⟩, fun _ _ ⟨ob', vs', a, b, c, d⟩ st => ⟨ob', vs', st _ a, b, c, d⟩⟩
/-- a thing that was not tracked is tracked from now on -/
theorem inv_know {X : Cx} {pns : List (Addr × Obj)} {σs : L2.St} {Hh : Hp} {sh : Shared} {e : Addr} {u : HO} (Iv : Inv X pns σs Hh sh) (ne : Hh e = none) (old : e ∉ X.ex → ∀ ob, X.s_0.heap.get? e = some ob → False) (nl : e ≠ X.env.locals)
    (nc : ∀ y c, X.env.cells.lookup y = some c → c ≠ e) (np : ∀ p ∈ X.pn ++ pns, p.1 ≠ e) (ob : ObjOk X.prog X.w (upd Hh e u) sh.heap e u) : Inv X pns σs (upd Hh e u) sh := by
  have oth : ∀ b, b ≠ e → upd Hh e u b = Hh b := fun b hb => upd_ne hb
  have keepS : ∀ {b : Addr} {o : HO}, Hh b = some o → upd Hh e u b = some o := fun {b o} q => by rw [oth b (ne_of_none q ne)]; exact q
  refine ⟨Iv.ok, Iv.os, Iv.bare, ⟨Iv.base.keep, Iv.base.slot, fun b o a n x => ?_, Iv.base.there, fun b xs q => keepS (Iv.base.tups b xs q), fun b o z q => keepS (Iv.base.frzs b o z q), fun b ps q => ?_⟩, Iv.loc, Iv.cell, ?_, fun y c q => ?_, fun p hp => ?_, fun b o q => ?_, Iv.len⟩
  · by_cases hb : b = e
    · subst hb
      exact (old x o a).elim
    · rw [oth b hb]
      exact Iv.base.free b o a n x
  · obtain ⟨more, q'⟩ := Iv.base.tbls b ps q
    exact ⟨more, keepS q'⟩
  · rw [oth _ (Ne.symm nl)]
    exact Iv.free
  · rw [oth _ (nc y c q)]
    exact Iv.freeC y c q
  · obtain ⟨a1, a2, a3⟩ := Iv.pin p hp
    exact ⟨a1, by rw [oth _ (np p hp)]; exact a2, a3⟩
  · by_cases hb : b = e
    · subst hb
      rw [upd_same] at q
      cases q
      exact ob
    · rw [oth b hb] at q
      exact (Iv.hok b o q).stay (fun _ _ _ z => z) (fun c z => keepS z) fun c xs z => keepS z
end Rg
namespace Rg
open PySem PySem.Spec PyProof.Rows L2
/-- what the clause asks: the error is one of the class cv; it is tracked while the suite runs and from then on -/
def wKeep (K : PySem.W.Frag) (cv : Value) (ix : Nat) (tsu : TS) (De : Ends) : WX := fun cls dd σs Hh =>
  PySem.W.exmOne K cls cv = some true ∧ ∃ C : Addr, cls = .ref C ∧ ∀ e, Hh e = none → tsu { nx := fun τ J => De.nx (τ.set ix none) J, rt := De.rt, bk := fun τ J => De.bk (τ.set ix none) J, ct := fun τ J => De.ct (τ.set ix none) J } (σs.set ix (some (.ref e))) (upd Hh e (errO e C dd))
section
variable {X : Cx} {pns : List (Addr × Obj)} {σs : L2.St} {Hh : Hp} {sh : Shared}
theorem inv_in (Iv : Inv X pns σs Hh sh) (e : Addr) : Inv (X.suite e (X.pn ++ pns)) [] σs Hh sh :=
  ⟨Iv.ok.suite _ _, Iv.os, Iv.bare, Iv.base, Iv.loc, Iv.cell, Iv.free, Iv.freeC, fun p hp => Iv.pin p (by simpa using hp), Iv.hok, Iv.len⟩
theorem inv_out {e : Addr} (Iv : Inv (X.suite e (X.pn ++ pns)) [] σs Hh sh) (ok : X.Ok) : Inv X pns σs Hh sh :=
  ⟨ok, Iv.os, Iv.bare, Iv.base, Iv.loc, Iv.cell, Iv.free, Iv.freeC, fun p hp => Iv.pin p (by simpa using hp), Iv.hok, Iv.len⟩
end
section
variable {X : Cx} {y n : Str} {cv : Value} {ix : Nat} {bd su : List Stmt} {st0 : Stmt} {np po po' : Pos} {tbd : WX → TS} {tsu : TS}
theorem ps_try_keep (hstk : X.stack = X.env :: X.outer) (hfr0 : X.env.frame = some X.env.locals) (hnd : X.N.Nodup) (hix : X.N[ix]? = some n) (hnl : X.env.kindOf n = some .local) (hcl : Names X y cv)
    (hbd : ∀ (W : WX) (pn : List (Addr × Obj)) (xe : Value → Shared → Prop), Takes (X.tr pn xe) W → PassesOwn (model X.prog X.w) X.A X.env xe → PSs (X.tr pn xe) bd (tbd W))
    (hsu : ∀ (e : Addr) (pn : List (Addr × Obj)), PSs (X.suite e pn) (st0 :: su) tsu) :
    PS X (.Try bd [.ExceptHandler (some (.Name y np)) (some n) (st0 :: su) po'] [] [] po) (fun De σs Hh => tbd (wKeep X.K cv ix tsu De) De σs Hh) := by
  refine ⟨fun pns sh σs Hh De Iv hh => ?_⟩
  have ok := Iv.ok
  have hfr : X.A.frames = some (X.env :: X.outer) := by rw [ok.frames, hstk]
  have hbody := (hbd (wKeep X.K cv ix tsu De) (X.pn ++ pns) (fun e s1 => wpAny (model X.prog X.w) X.A (noteFrame e X.env) (fun _ s2 => wpAny (model X.prog X.w) X.A (setFlight e none) (fun _ s3 =>
    wpAny (model X.prog X.w) X.A (handleBy e X.env [.ExceptHandler (some (.Name y np)) (some n) (st0 :: su) po']) (SP X pns De) X.xe s3) X.xe s2) X.xe s1) (fun u sx xx => ?_) PassesOwn.looking).run [] sh σs Hh De (Iv.toTry _) hh
  · refine wpAny_Try_except (wpAny_mono hbody (fun fl s1 q => ?_) fun _ _ q => q)
    cases fl with
    | next =>
      obtain ⟨τ, J, Jv, q⟩ := q
      exact wpAny_execs_nil ⟨τ, J, Jv.ofTry ok, q⟩
    | brk => exact let ⟨τ, J, Jv, q⟩ := q; ⟨τ, J, Jv.ofTry ok, q⟩
    | cont => exact let ⟨τ, J, Jv, q⟩ := q; ⟨τ, J, Jv.ofTry ok, q⟩
    | ret u => exact let ⟨v, τ, J, Jv, r, q⟩ := q; ⟨v, τ, J, Jv.ofTry ok, r, q⟩
  -- the error is at e
  obtain ⟨e, B, sI, _, τ, J, cls, dd, rfl, Jv0, nb, up, sky, ne, os, ag, hb, C, rfl, hyes⟩ := xx
  have Jv : Inv X pns τ J sI := Jv0.ofTry ok
  rw [hstk] at sky
  refine Sky.land Zc.steady hfr hfr0 sky fun h3 fl3 up3 => ?_
  have K3 : Inv X pns τ J { sx with heap := h3 } := Jv.landed nb fl3.1 (up.trans up3) os ag
  obtain ⟨o3, v3, g3, z3, d3⟩ := fl3.there
  have enf : e ∉ frs X.stack := fun hm => by
    rw [hstk] at hm
    obtain ⟨_, o', e', hnf⟩ := fl3.2.2.1.mem hm
    rw [g3] at e'
    cases e'
    exact hnf _ d3
  have enl : e ≠ X.env.locals := fun z => enf (by rw [hstk]; exact List.mem_filterMap.mpr ⟨X.env, List.mem_cons_self, by rw [hfr0, z]⟩)
  have enF : e ∉ X.fs := fun hm => enf (by
    rw [hstk]
    obtain ⟨ev, he, q⟩ := List.mem_filterMap.mp hm
    exact List.mem_filterMap.mpr ⟨ev, List.mem_cons_of_mem _ he, q⟩)
  have gone : ∀ ob, sI.heap.get? e = some ob → False := fun ob q => by
    have a := nb e ob q enf
    rw [fl3.2.1] at a
    cases a
  -- tracked
  have know : ∀ {h4 : Heap} {o4 : Obj} {v4 : Array Value}, Inv X pns τ J { sx with heap := h4 } → h4.get? e = some o4 → Zc (.ref C) dd o4 → o4.data = .fields v4 → Inv X pns τ (upd J e (errO e C dd)) { sx with heap := h4 } := fun {h4 o4 v4} K4 g4 z4 d4 => by
    refine inv_know K4 ne (fun hx ob q => ?_) enl (fun x c q z => ?_) (fun p hp z => ?_) (errO_ok g4 z4.1 z4.2 d4)
    · obtain ⟨o', q'⟩ := Jv.base.there e ob q hx
      exact gone o' q'
    · obtain ⟨v, o', q', _⟩ := Jv.cell x c q
      rw [z] at q'
      exact gone _ q'
    · obtain ⟨q', _⟩ := Jv.pin p hp
      rw [z] at q'
      exact gone _ q'
  have test : ∀ {Q E : Value → Shared → Prop}, Q cv { sx with heap := h3 } → wpAny (model X.prog X.w) (X.A.mark (some (.ref e))) (eval (.Name y np) X.env) Q E { sx with heap := h3 } := fun {Q E} q => by
    have S3 := inv_in K3 e
    obtain ⟨hg, hdb, hm | ⟨hm, hv, hn⟩⟩ := hcl
    · exact ld_glob S3 hg hm q hdb
    · exact ld_blt S3 hg hm hv q hn hdb
  refine wpAny_handleBy_cons (codeAny_handlers_test (test ((PySem.W.exm_one (M := model X.prog X.w) K3.kIn (fun _ _ _ _ k q => wpAny_typeOf_ref (k _ _ g3) (by rw [z3.1]; exact q)) hb).here (codeAny_handlers_suite_as (HandSPX.lands_againZ fl3 fun h4 fl4 up4 => ?_))))) (by intro q; cases q)
  obtain ⟨o4, v4, g4, z4, d4⟩ := fl4.there
  have K4 := know (Jv.landed nb fl4.1 ((up.trans up3).trans up4) os ag) g4 z4 d4
  refine store_ok (X := X.suite e (X.pn ++ pns)) (v := .ref e) (inv_in K4 e) hnd hix (.inl hnl) rfl (fun s5 S5 => ?_) (.inr hnl)
  refine wpAny_mono ((hsu e _).run [] s5 _ _ _ S5 (hyes e ne)) (fun fl s6 q => ?_) fun _ _ z => z.elim
  have fin : ∀ {ρ : L2.St} {L : Hp} {Q : Shared → Prop}, Inv (X.suite e (X.pn ++ pns)) [] ρ L s6 → (∀ s7, Inv X pns (ρ.set ix none) L s7 → Q s7) → wpAny (model X.prog X.w) X.A (do bindName X.env n .none; unbindBehindTheSuite X.env n po') (fun _ s7 => Q s7) X.xe s6 :=
    fun {ρ L Q} S6 hq => gone_ok (inv_out S6 ok) hnd hix hnl hq
  cases fl with
  | next => exact let ⟨ρ, L, S6, q⟩ := q; fin S6 fun s7 I7 => ⟨_, _, I7, q⟩
  | brk => exact let ⟨ρ, L, S6, q⟩ := q; fin S6 fun s7 I7 => ⟨_, _, I7, q⟩
  | cont => exact let ⟨ρ, L, S6, q⟩ := q; fin S6 fun s7 I7 => ⟨_, _, I7, q⟩
  | ret u => exact let ⟨v, ρ, L, S6, r, q⟩ := q; fin S6 fun s7 I7 => ⟨_, _, _, I7, r, q⟩
end
end Rg
namespace Rg
open PySem PySem.Spec PyProof.Rows L2
theorem call_or {X : Cx} {fv : Value} {r1 r2 : List V → Hp → VK → Prop} (h1 : CallR X fv r1) (h2 : CallR X fv r2) : CallR X fv (fun xs Hh Qq => r1 xs Hh Qq ∨ r2 xs Hh Qq) := fun pns s σs Hh xs us Qq Iv rr h => h.elim (h1 pns s σs Hh xs us Qq Iv rr) (h2 pns s σs Hh xs us Qq Iv rr)
/-- an error that is kept: its object, its dict -/
def ErrV (Hh : Hp) (x : V) (C : Addr) (fs : List (Str × V)) : Prop := ∃ (e dd : Addr), x = .ref e ∧ Hh e = some (errO e C (some dd)) ∧ Hh dd = some (.xd fs)
theorem err_inst {P : Program} {w : World} {Hh : Hp} {hp : Heap} {e C dd : Addr} {fs : List (Str × V)} (hok : HOk P w Hh hp) (he : Hh e = some (errO e C (some dd))) (hd : Hh dd = some (.xd fs)) :
    ∃ (ob od : Obj) (mA : Str → Option Value), PySem.W.InstAt hp e ob C (some od) ∧ (∀ f, PySem.W.lookIn f od = some (mA f)) ∧ ∀ f, RelO (fs.lookup f) (mA f) := by
  obtain ⟨ob, vs, g, c1, c2, c3⟩ := errO_at hok he
  obtain ⟨mA, hns, hr⟩ := (show ObjOk P w Hh hp dd (.xd fs) from hok dd _ hd)
  obtain ⟨od, ho, hl⟩ := lookIn_ns hns
  exact ⟨ob, od, mA, ⟨g, c1, by unfold PySem.W.notCls; rw [c3] <;> rfl, by rw [c2]; exact ho⟩, hl, hr⟩
/-- isinstance(e, c), e an error that is kept -/
def rIsE (K : PySem.W.Frag) : List V → Hp → VK → Prop := fun xs Hh Qq => ∃ (x c : V) (cv : Value) (C : Addr) (fs : List (Str × V)) (b : Bool), xs = [x, c] ∧ (∀ u, RelV c u → u = cv) ∧ ExcC K C ∧ ErrV Hh x C fs ∧ PySem.W.kitOne K (.ref C) cv = some b ∧ Qq (.bl b) Hh
theorem cr_isE {X : Cx} : CallR X (.builtin "isinstance") (rIsE X.K) := by
  intro pns s σs Hh xs us Qq Iv rr ⟨x, c, cv, C, fs, b, ex, hcv, G, ⟨e, dd, ez, he, hd⟩, kit, q⟩
  subst ex ez
  obtain ⟨u1, u2, rfl, r1, r2⟩ := vals2 rr
  obtain rfl : u1 = Value.ref e := r1
  obtain rfl := hcv _ r2
  obtain ⟨ob, od, mA, J, _, _⟩ := err_inst Iv.hok he hd
  have hcl : (PySem.W.clsIn X.K C).isSome = true := by
    obtain ⟨cd, hc, _⟩ := PySem.W.any_some G.hd
    rw [hc]
    rfl
  exact PySem.W.kia_one (PySem.W.kitx_exc hcl G.hg G.hk G.hs G.ha G.hn G.ht G.hm) Iv.kIn J kit (fun z => nomatch z) fun tk => ⟨.bl b, Hh, Iv.kept (t' := tk) fun _ _ z => z, rfl, q⟩
/-- e.f, e an error that is kept -/
def tFldE (K : PySem.W.Frag) (te : TE) (f : Str) : TE := fun σs Hh Qq => te σs Hh fun x J => ∃ (C : Addr) (fs : List (Str × V)) (v : V), ErrV J x C fs ∧ XfC K C ∧ PySem.W.findIn K (.ref C) f = some none ∧ fs.lookup f = some v ∧ Qq v J
theorem pe_fldE {X : Cx} {ex : Expr} {te : TE} {po : Pos} {n : Str} (he : PE X ex te) (hb : attributeBase ex n X.env (eval ex X.env) = eval ex X.env := by rfl) : PE X (.Attribute ex n po) (tFldE X.K te n) := by
  refine ⟨fun pns s σs Hh Qq Iv h => attr_of hb (thn (he.run pns s σs Hh _ Iv h) fun u s1 hh => ?_)⟩
  obtain ⟨x, J, I1, rx, C, fs, v, ⟨e, dd, ez, g1, g2⟩, T, hno, l, q⟩ := hh
  subst ez
  obtain rfl : u = Value.ref e := rx
  obtain ⟨ob, od, mA, K1, hl, hr⟩ := err_inst I1.hok g1 g2
  obtain ⟨z, hz, rz⟩ := RelO.some_of (v := v) (o := mA n) (by rw [← l]; exact hr n)
  exact HandSPX.exc_get I1.kIn K1 T.ga T.gg T.exC (PySem.W.findObj_own T.hdC hno rfl (by rw [hl, hz])) (handed_of rz) ⟨v, J, I1.tok _, rz, q⟩
end Rg
namespace Rg
open PySem PySem.Spec PyProof.Rows L2
/-- name = {k: v for ..}, a plain local name -/
theorem sw_dc {kx vx : Expr} {gs : List Comprehension} {sc : Scope} {po py : Pos} {y : Str} {ln : Nat} {ev : Env} (hk : ev.scope.kind = .function) (hy : ev.scope.names.lookup y = some .local) (hl : (py.line == po.line) = true)
    (ha : (sc.names.any fun (n, k) => n == y && (k == .local || k == .cell)) = false) : swapsWith (.DictComp kx vx gs sc po) (some (.Name y py)) ln ev = pure true := by
  have k1 : ev.kindOf y = some .local := hy
  have k2 : ev.blockKind = .function := by unfold Env.blockKind; rw [hk]; rfl
  unfold swapsWith
  simp only [k2, k1, ha, Expr.pos, hl]
  rfl
section
variable {X : Cx}
theorem ps_setDc {ix : Nat} {y : Str} {py : Pos} {kx vx tg itx : Expr} {ifs : List Expr} {sc : Scope} {own : List (Str × Nat)} {po spo : Pos} {wi : TI} {g : TG} {tt : TT} {tk tv : TE} (hc : X.calm = true) (hN : X.N.Nodup) (hy : X.N[ix]? = some y) (hyl : X.env.scope.names.lookup y = some .local)
    (hsw : swapsWith (.DictComp kx vx [⟨tg, itx, ifs, 0⟩] sc po) (some (.Name y py)) spo.line X.env = pure true) (hi : PI X tg itx wi) (ok : BlkOk X.N X.env.scope sc own)
    (hg : ∀ (s : Shared) (H : Hp) (C : Addr) (cl : List (Str × Addr)) (fp : List Addr), PG (X.blk s H sc (compEnvC sc cl C X.env) fp) tg g) (ht : ∀ (s : Shared) (H : Hp) (C : Addr) (cl : List (Str × Addr)) (fp : List Addr), PTs (X.blk s H sc (compEnvC sc cl C X.env) fp) ifs tt)
    (hk : ∀ (s : Shared) (H : Hp) (C : Addr) (cl : List (Str × Addr)) (fp : List Addr), PE (X.blk s H sc (compEnvC sc cl C X.env) fp) kx tk) (he : ∀ (s : Shared) (H : Hp) (C : Addr) (cl : List (Str × Addr)) (fp : List Addr), PE (X.blk s H sc (compEnvC sc cl C X.env) fp) vx tv)
    (hs : ∀ x, foldedSetIterable itx X.env x = pure x := by intro _; rfl) : PS X (.Assign [.Name y py] (.DictComp kx vx [⟨tg, itx, ifs, 0⟩] sc po) spo) (tAsg (tDc wi g tt tk tv (own.map (·.2))) (gName ix)) := by
  refine ⟨fun pns sh σs Hh De Iv h => ?_⟩
  rw [exec_Assign_Name_used _ _ _ _ hsw]
  refine wpAny_bind (wpAny_standAt (wpAny_bind ?_))
  show wpAny _ X.A (do let _ ← comprehension (.DictComp kx vx [⟨tg, itx, ifs, 0⟩] sc po) sc X.env (firstIterPos [⟨tg, itx, ifs, 0⟩] po) newDict false (eval itx X.env) (some (assign (.Name y py) X.env))) _ _ sh
  have h2 : tDc wi g tt tk tv (own.map (·.2)) σs Hh (fun x J => gName ix x σs J De.nx) := h
  refine wpAny_bind (thn (dc_core (Qf := fun _ s' => SP X pns De .next s') hc hN Iv hi ok hg ht hk he hs h2 fun D C s' m J I' q hn f => ?_) fun _ s' hq => wpAny_pure (wpAny_pure hq))
  show wpAny _ _ (assign (.Name y py) X.env (.ref D)) _ _ _
  refine wpAny_assign_Name (store_ok2 (v := V.ref D) I' hN hy (.inl hyl) rfl (fun s2 I2 ⟨a, sb, ha⟩ => ?_) (.inr hyl))
  obtain ⟨f0, f1, f2, f3, f4, f5⟩ := f
  have ne : C ≠ a := ha.elim (fun z => by rw [z]; exact f1) fun z e => f4 y a z e.symm
  exact ⟨m, hn.sameBut sb ne, fun h3 sb3 => ⟨_, J, I2.turned (t' := s2.toks) (fun b o hb e => (sb3.2 b hb).trans e) f0 f1 f3 f4 f5, q⟩⟩
end
end Rg
namespace Rg
open PySem PySem.Spec PyProof.Rows L2
/-! ### the tuples of a zip that are kept -/
theorem tup_at {h h' : Heap} {a : Addr} {its : Array Value} (x : h.IsTuple a its) (e : ∀ o, h.get? a = some o → h'.get? a = some o) : h'.IsTuple a its := let ⟨o, ho, r⟩ := x; ⟨o, e _ ho, r⟩
theorem draws_tup {prog : Program} {w : World} {A : Around} (clear : A.handled = none) (it l : Addr) (apart : l ≠ it) (its : Array Value) : Draws prog w A it [it, l] its.size (fun j v => its[j]? = some v) (fun j h => h.IsTupleIter it l j ∧ h.IsTuple l its) where
  live := fun _ _ stand => let ⟨o, ho, _⟩ := stand.1; ⟨o, ho⟩
  frame := fun _ _ _ stand kept => ⟨stand.1.at fun o e => kept it (by simp) o e, tup_at stand.2 fun o e => kept l (by simp) o e⟩
  item := fun j s Q E hj stand hQ => by
    refine RZ.nextOf_tuple_item stand.1 stand.2 (x := its[j]) (by simp [hj]) fun h' it' same => ?_
    exact hQ _ h' s.toks (by simp [hj]) ⟨it', stand.2.extBut same.extBut apart⟩ same
  done := fun s Q E stand hE => RZ.nextOf_tuple_end clear stand.1 stand.2 (by simp) hE
section
variable {prog : Program} {w : World} {A : Around} {E : Value → Shared → Prop} {s : Shared} {z TI TO T L i1 i2 : Addr} {fp1 fp2 : List Addr} {n1 n2 j : Nat} {P1 P2 : Nat → Value → Prop} {St1 St2 : Nat → Heap → Prop} {b : Bool} {oT : Obj}
theorem zh_next {Q : Value → Shared → Prop} (S : ZipSep2 z TI TO i1 i2 fp1 fp2) (D1 : Draws prog w A i1 fp1 n1 P1 St1) (D2 : Draws prog w A i2 fp2 n2 P2 St2) (hz : IsZipHeld s.heap z TI TO T b) (hT : s.heap.get? T = some oT) (hTI : IsTupOf2 s.heap TI (.ref i1) (.ref i2)) (t1 : St1 j s.heap) (t2 : St2 j s.heap) (l1 : j < n1) (l2 : j < n2)
    (hQ : ∀ u v h' tk, P1 j u → P2 j v → IsZipHeld h' z TI TO T true → St1 (j + 1) h' → St2 (j + 1) h' → IsTupOf2 h' s.heap.objs.size u v → h'.objs.size = s.heap.objs.size + 1 → (∀ c o, c ≠ z → c ≠ i1 → c ≠ i2 → s.heap.get? c = some o → h'.get? c = some o) → Q (.ref s.heap.objs.size) { s with heap := h', toks := tk }) :
    wpAny (model prog w) A (Builtin.«zip.__next__» ⟨[.ref z], []⟩) (fun fin s' => ∃ v, fin = .done (.ret v) ∧ Q v s') E s := by
  obtain ⟨hp, g, d, tk0, os⟩ := s
  show wpAny _ _ (field (.ref z) 2 >>= _) _ _ _
  refine wpAny_bind (wpAny_field hz rfl (x := .bool false) rfl ?_)
  show wpAny _ _ (field (.ref z) 3 >>= _) _ _ _
  refine wpAny_bind (wpAny_field hz rfl (x := .ref TI) rfl ?_)
  refine wpAny_bind (wpAny_seqItems hTI rfl ?_)
  show wpAny _ _ (Builtin.SmallTypes.ownedTupleIsFree (.ref z) >>= _) _ _ _
  refine wpAny_bind (wpAny_tupleHeld_zip (s := ⟨hp, g, d, tk0, os⟩) hz hT fun k1 z1 c1 => ?_)
  replace c1 : Heap.SameBut z hp k1 := c1
  simp only [Bool.false_eq_true, if_false]
  refine wpAny_bind ?_
  rw [← Array.forIn_toList]
  simp only [List.forIn_cons, List.forIn_nil]
  refine wpAny_bind (wpAny_bind (wpAny_holding ?_))
  show wpAny _ _ (Builtin.SmallTypes.nextOf (.ref i1) >>= _) _ _ ⟨k1, g, d, tk0, os⟩
  refine wpAny_bind (D1.item j _ _ _ l1 (D1.over t1 c1 S.zf1) fun u k2 tk1 pu t1' c2 => wpAny_pure ?_)
  replace c2 : Heap.SameBut i1 k1 k2 := c2
  refine wpAny_pure ?_
  refine wpAny_bind (wpAny_bind (wpAny_holding ?_))
  show wpAny _ _ (Builtin.SmallTypes.nextOf (.ref i2) >>= _) _ _ ⟨k2, g, d, tk1, os⟩
  refine wpAny_bind (D2.item j _ _ _ l2 (D2.over (D2.over t2 c1 S.zf2) c2 S.sep1_2) fun v k3 tk2 pv t2' c3 => wpAny_pure ?_)
  replace c3 : Heap.SameBut i2 k2 k3 := c3
  refine wpAny_pure (wpAny_pure ?_)
  show wpAny _ _ (newTuple [u, v] >>= _) _ _ ⟨k3, g, d, tk2, os⟩
  refine wpAny_bind (wpAny_newTuple ?_)
  have size3 : k3.objs.size = hp.objs.size := by rw [c3.1, c2.1, c1.1]
  have z3 : IsZipHeld k3 z TI TO T true := c3.extBut _ _ S.zi2 (c2.extBut _ _ S.zi1 z1)
  have stay : ∀ c o, c ≠ z → c ≠ i1 → c ≠ i2 → hp.get? c = some o → k3.get? c = some o := fun c o a1 a2 a3 e => c3.extBut _ _ a3 (c2.extBut _ _ a2 (c1.extBut _ _ a1 e))
  refine wpAny_pure ⟨_, rfl, ?_⟩
  show Q (.ref k3.objs.size) _
  have at3 : IsTupOf2 (k3.push { cls := .type "tuple", data := .seq #[u, v] }) k3.objs.size u v := Heap.get?_push_size _ rfl
  have size4 : (k3.push { cls := .type "tuple", data := .seq #[u, v] }).objs.size = k3.objs.size + 1 := Heap.size_push ..
  rw [size3] at at3 size4 ⊢
  exact hQ u v _ tk2 pu pv (Heap.get?_push_of_some _ z3) (D1.frame _ _ _ (D1.over t1' c3 S.sep2_1) fun c _ o e => Heap.get?_push_of_some _ e) (D2.frame _ _ _ t2' fun c _ o e => Heap.get?_push_of_some _ e) at3 size4 fun c o a1 a2 a3 e => Heap.get?_push_of_some _ (stay c o a1 a2 a3 e)
theorem zh_stop {Q : Fin → Shared → Prop} (S : ZipSep2 z TI TO i1 i2 fp1 fp2) (D1 : Draws prog w A i1 fp1 n1 P1 St1) (D2 : Draws prog w A i2 fp2 n2 P2 St2) (hz : IsZipHeld s.heap z TI TO T b) (hT : s.heap.get? T = some oT) (hTI : IsTupOf2 s.heap TI (.ref i1) (.ref i2)) (t1 : St1 j s.heap) (t2 : St2 j s.heap) (l1 : j ≤ n1) (l2 : j ≤ n2) (over : j = n1 ∨ j = n2)
    (hE : ∀ h' tk e, (∀ c o, c ≠ z → c ≠ i1 → c ≠ i2 → s.heap.get? c = some o → h'.get? c = some o) → (∃ o, h'.get? e = some o ∧ o.cls = .type "StopIteration") → E (.ref e) { s with heap := h', toks := tk }) :
    wpAny (model prog w) A (Builtin.«zip.__next__» ⟨[.ref z], []⟩) Q E s := by
  obtain ⟨hp, g, d, tk0, os⟩ := s
  show wpAny _ _ (field (.ref z) 2 >>= _) _ _ _
  refine wpAny_bind (wpAny_field hz rfl (x := .bool false) rfl ?_)
  show wpAny _ _ (field (.ref z) 3 >>= _) _ _ _
  refine wpAny_bind (wpAny_field hz rfl (x := .ref TI) rfl ?_)
  refine wpAny_bind (wpAny_seqItems hTI rfl ?_)
  show wpAny _ _ (Builtin.SmallTypes.ownedTupleIsFree (.ref z) >>= _) _ _ _
  refine wpAny_bind (wpAny_tupleHeld_zip (s := ⟨hp, g, d, tk0, os⟩) hz hT fun k1 z1 c1 => ?_)
  replace c1 : Heap.SameBut z hp k1 := c1
  simp only [Bool.false_eq_true, if_false]
  refine wpAny_bind ?_
  rw [← Array.forIn_toList]
  simp only [List.forIn_cons, List.forIn_nil]
  refine wpAny_bind (wpAny_bind (wpAny_holding ?_))
  show wpAny _ _ (Builtin.SmallTypes.nextOf (.ref i1) >>= _) _ _ ⟨k1, g, d, tk0, os⟩
  by_cases c : j < n1
  · have e2 : j = n2 := by omega
    refine wpAny_bind (D1.item j _ _ _ c (D1.over t1 c1 S.zf1) fun u k2 tk1 pu t1' c2 => wpAny_pure ?_)
    replace c2 : Heap.SameBut i1 k1 k2 := c2
    refine wpAny_pure ?_
    refine wpAny_bind (wpAny_bind (wpAny_holding ?_))
    show wpAny _ _ (Builtin.SmallTypes.nextOf (.ref i2) >>= _) _ _ ⟨k2, g, d, tk1, os⟩
    refine wpAny_bind (D2.done ⟨k2, g, d, tk1, os⟩ _ _ (by rw [← e2]; exact D2.over (D2.over t2 c1 S.zf2) c2 S.sep1_2) fun q e hq he => ?_)
    exact hE q tk1 e (fun c o a1 a2 a3 x => hq c o a3 (c2.extBut _ _ a2 (c1.extBut _ _ a1 x))) he
  · have e1 : j = n1 := by omega
    refine wpAny_bind (D1.done ⟨k1, g, d, tk0, os⟩ _ _ (by rw [← e1]; exact D1.over t1 c1 S.zf1) fun q e hq he => ?_)
    exact hE q tk0 e (fun c o a1 a2 a3 x => hq c o a2 (c1.extBut _ _ a1 x)) he
/-- a zip whose tuples a list keeps -/
def ZSt (z TI TO i1 i2 L : Addr) (St1 St2 : Nat → Heap → Prop) (j : Nat) (h : Heap) : Prop := IsTupOf2 h TI (.ref i1) (.ref i2) ∧ St1 j h ∧ St2 j h ∧ ((IsZip h z TI TO .none ∧ ∃ a b, IsTupOf2 h TO a b) ∨ ∃ T f oT, IsZipHeld h z TI TO T f ∧ h.get? T = some oT ∧ T ≠ z ∧ T ≠ i1 ∧ T ≠ i2 ∧ T ≠ L)
theorem zst_type (st : ZSt z TI TO i1 i2 L St1 St2 j s.heap) : s.TypeIs (.ref z) "zip" := by
  rcases st.2.2.2 with ⟨hz, _⟩ | ⟨_, _, _, hz, _⟩
  · exact ⟨_, hz, rfl⟩
  · exact ⟨_, hz, rfl⟩
theorem zst_keep (D1 : Draws prog w A i1 fp1 n1 P1 St1) (D2 : Draws prog w A i2 fp2 n2 P2 St2) {h h' : Heap} (st : ZSt z TI TO i1 i2 L St1 St2 j h) (nz : z ≠ L) (nTI : TI ≠ L) (nTO : TO ≠ L) (nf1 : L ∉ fp1) (nf2 : L ∉ fp2) (k : ∀ c o, c ≠ L → h.get? c = some o → h'.get? c = some o) : ZSt z TI TO i1 i2 L St1 St2 j h' := by
  obtain ⟨a1, a2, a3, a4⟩ := st
  refine ⟨k _ _ nTI a1, D1.frame _ _ _ a2 fun c hc o e => k c o (fun q => nf1 (q ▸ hc)) e, D2.frame _ _ _ a3 fun c hc o e => k c o (fun q => nf2 (q ▸ hc)) e, ?_⟩
  rcases a4 with ⟨hz, a, b, hTO⟩ | ⟨T, f, oT, hz, hT, r1, r2, r3, r4⟩
  · exact .inl ⟨k _ _ nz hz, a, b, k _ _ nTO hTO⟩
  · exact .inr ⟨T, f, oT, k _ _ nz hz, k _ _ r4 hT, r1, r2, r3, r4⟩
theorem zst_item {Q : Option Value → Shared → Prop} (S : ZipSep2 z TI TO i1 i2 fp1 fp2) (D1 : Draws prog w A.in1 i1 fp1 n1 P1 St1) (D2 : Draws prog w A.in1 i2 fp2 n2 P2 St2) (st : ZSt z TI TO i1 i2 L St1 St2 j s.heap) (hL : L < s.heap.objs.size) (l1 : j < n1) (l2 : j < n2)
    (hQ : ∀ u v h' tk, P1 j u → P2 j v → ZSt z TI TO i1 i2 L St1 St2 (j + 1) h' → IsTupOf2 h' s.heap.objs.size u v → (∀ c o, c ≠ z → c ≠ TO → c ≠ i1 → c ≠ i2 → s.heap.get? c = some o → h'.get? c = some o) → Q (some (.ref s.heap.objs.size)) { s with heap := h', toks := tk }) :
    wpAny (model prog w) A (pyNext (.ref z)) Q E s := by
  have ty := zst_type st
  obtain ⟨hTI, t1, t2, a4⟩ := st
  have lt : ∀ {c o}, s.heap.get? c = some o → s.heap.objs.size ≠ c := fun e => Nat.ne_of_gt (Heap.lt_size e)
  have m1 : s.heap.objs.size ≠ i1 := by obtain ⟨_, e⟩ := D1.live _ _ t1; exact lt e
  have m2 : s.heap.objs.size ≠ i2 := by obtain ⟨_, e⟩ := D2.live _ _ t2; exact lt e
  rcases a4 with ⟨hz, a, b, hTO⟩ | ⟨T, f, oT, hz, hT, r1, r2, r3, r4⟩
  · refine wpAny_pyNext_zipD2_item S D1 D2 hz hTI hTO t1 t2 l1 l2 fun u v h' tk pu pv b1 b2 d1 d2 b5 b6 hk => ?_
    exact hQ u v h' tk pu pv ⟨hk _ _ S.TIz S.TITO S.TIi1 S.TIi2 hTI, d1, d2, .inr ⟨_, false, _, b1, b5, lt hz, m1, m2, Nat.ne_of_gt hL⟩⟩ b5 hk
  · unfold pyNext
    refine wpAny_bind (wpAny_attempt (wpAny_callSpecial?_slot (name := Str.ofString "__next__") ty F.slot_zip_next
      (wpAny_call_entry F.slot_zip_next ty F.entry_zip_next (zh_next S D1 D2 hz hT hTI t1 t2 l1 l2 fun u v h' tk pu pv b1 d1 d2 b5 b6 hk => wpAny_pure ?_) (F.args_zip_next_1 _))))
    exact hQ u v h' tk pu pv ⟨hk _ _ S.TIz S.TIi1 S.TIi2 hTI, d1, d2, .inr ⟨T, true, oT, b1, hk _ _ r1 r2 r3 hT, r1, r2, r3, r4⟩⟩ b5 fun c o q1 _ q3 q4 e => hk c o q1 q3 q4 e
theorem zst_done {Q : Option Value → Shared → Prop} (S : ZipSep2 z TI TO i1 i2 fp1 fp2) (D1 : Draws prog w A.in1 i1 fp1 n1 P1 St1) (D2 : Draws prog w A.in1 i2 fp2 n2 P2 St2) (st : ZSt z TI TO i1 i2 L St1 St2 j s.heap) (l1 : j ≤ n1) (l2 : j ≤ n2) (over : j = n1 ∨ j = n2)
    (hQ : ∀ h' tk, (∀ c o, c ≠ z → c ≠ TO → c ≠ i1 → c ≠ i2 → s.heap.get? c = some o → h'.get? c = some o) → Q none { s with heap := h', toks := tk }) : wpAny (model prog w) A (pyNext (.ref z)) Q E s := by
  have ty := zst_type st
  obtain ⟨hTI, t1, t2, a4⟩ := st
  rcases a4 with ⟨hz, a, b, hTO⟩ | ⟨T, f, oT, hz, hT, r1, r2, r3, r4⟩
  · exact wpAny_pyNext_zipD2_end S D1 D2 hz hTI hTO t1 t2 l1 l2 over hQ
  · unfold pyNext
    refine wpAny_bind (wpAny_attempt (wpAny_callSpecial?_slot (name := Str.ofString "__next__") ty F.slot_zip_next
      (wpAny_call_entry F.slot_zip_next ty F.entry_zip_next (zh_stop S D1 D2 hz hT hTI t1 t2 l1 l2 over fun h' tk e hk he => ?_) (F.args_zip_next_1 _))))
    obtain ⟨o, ho, hc⟩ := he
    refine wpAny_bind (wpAny_isInstance (T := "StopIteration") (b := true) ⟨o, ho, hc⟩ isSubtype_stop ?_)
    exact wpAny_pure (hQ _ _ fun c o q1 _ q3 q4 e => hk c o q1 q3 q4 e)
theorem zst_self {Q : Value → Shared → Prop} (st : ZSt z TI TO i1 i2 L St1 St2 j s.heap) (h : Q (.ref z) s) : wpAny (model prog w) A (pyIter (.ref z)) Q E s := by
  have ty := zst_type st
  refine wpAny_pyIter_slot ty F.slot_zip_iter (wpAny_call_entry F.slot_zip_iter ty F.entry_zip_iter ?_ (F.args_zip_iter_1 _))
  show wpAny _ _ (ret (.ref z)) _ _ s
  exact wpAny_pure ⟨_, rfl, "zip", _, ty, F.slot_zip_next.lookup, h⟩
end
/-- the addresses of the pairs given out so far -/
structure ZGo (P1 P2 : Nat → Value → Prop) (lo : Addr) (h : Heap) (as : List Addr) : Prop where
  up : as.Pairwise (· < ·)
  hi : ∀ a ∈ as, lo < a
  each : ∀ (k : Nat) (a : Addr), as[k]? = some a → ∃ u v, P1 k u ∧ P2 k v ∧ IsTupOf2 h a u v
end Rg
namespace Rg
open PySem PySem.Spec PyProof.Rows L2
theorem nolen_zp : typeLookup (.type "zip") "__len__" = pure none := by rw [typeLookup_type, builtinLookup_eq_fast]; kernel_rfl
theorem nohint_zp : typeLookup (.type "zip") "__length_hint__" = pure none := by rw [typeLookup_type, builtinLookup_eq_fast]; kernel_rfl
/-- all cells of the zip stand below L -/
structure ZLow (z TI TO L : Addr) (fp1 fp2 : List Addr) : Prop where
  z : z < L
  TI : TI < L
  TO : TO < L
  f1 : ∀ c ∈ fp1, c < L
  f2 : ∀ c ∈ fp2, c < L
section
variable {prog : Program} {w : World} {A : Around} {s : Shared} {R : Result → Shared → Prop} {z TI TO L i1 i2 : Addr} {fp1 fp2 : List Addr} {n1 n2 : Nat} {P1 P2 : Nat → Value → Prop} {St1 St2 : Nat → Heap → Prop}
theorem zl_keep (W : ZLow z TI TO L fp1 fp2) (D1 : Draws prog w A i1 fp1 n1 P1 St1) (D2 : Draws prog w A i2 fp2 n2 P2 St2) {j : Nat} {h h' : Heap} (st : ZSt z TI TO i1 i2 L St1 St2 j h) (k : ∀ c o, c ≠ L → h.get? c = some o → h'.get? c = some o) : ZSt z TI TO i1 i2 L St1 St2 j h' :=
  zst_keep D1 D2 st (Nat.ne_of_lt W.z) (Nat.ne_of_lt W.TI) (Nat.ne_of_lt W.TO) (fun q => Nat.lt_irrefl _ (W.f1 _ q)) (fun q => Nat.lt_irrefl _ (W.f2 _ q)) k
theorem zl_loop (S : ZipSep2 z TI TO i1 i2 fp1 fp2) (D1 : Draws prog w A.in1.in1 i1 fp1 n1 P1 St1) (D2 : Draws prog w A.in1.in1 i2 fp2 n2 P2 St2) (W : ZLow z TI TO L fp1 fp2) (hn : min n1 n2 ≤ sizeLine) (res : Value) {h0 : Heap}
    (hR : ∀ h' tk acc c as, (∀ b o, b ≠ L → b ≠ z → b ≠ TO → b ≠ i1 → b ≠ i2 → h0.get? b = some o → h'.get? b = some o) → h'.get? L = some { cls := .type "list", dict := none, data := .seq acc c, slots := #[] } → as.length = min n1 n2 → ZGo P1 P2 L h' as → acc.toList = as.map Value.ref → R (.ok (.ret res)) { s with heap := h', toks := tk }) :
    ∀ (m j : Nat) (h : Heap) (tk c : Nat) (acc : Array Value) (as : List Addr), min n1 n2 - j = m → j ≤ min n1 n2 → ZSt z TI TO i1 i2 L St1 St2 j h → (∀ b o, b ≠ L → b ≠ z → b ≠ TO → b ≠ i1 → b ≠ i2 → h0.get? b = some o → h.get? b = some o) →
      h.get? L = some { cls := .type "list", dict := none, data := .seq acc c, slots := #[] } → acc.toList = as.map Value.ref → as.length = j → ZGo P1 P2 L h as → codeAny (model prog w) A (.builtin "list.extend.loop" ⟨[.ref L, .ref z, res], []⟩) R { s with heap := h, toks := tk } := by
  have lz : L ≠ z := Nat.ne_of_gt W.z
  have lTO : L ≠ TO := Nat.ne_of_gt W.TO
  have li1 : L ≠ i1 := Nat.ne_of_gt (W.f1 _ S.mem1)
  have li2 : L ≠ i2 := Nat.ne_of_gt (W.f2 _ S.mem2)
  have off : ∀ {a : Addr}, L < a → a ≠ z ∧ a ≠ TO ∧ a ≠ i1 ∧ a ≠ i2 := fun {a} q => ⟨Nat.ne_of_gt (Nat.lt_trans W.z q), Nat.ne_of_gt (Nat.lt_trans W.TO q), Nat.ne_of_gt (Nat.lt_trans (W.f1 _ S.mem1) q), Nat.ne_of_gt (Nat.lt_trans (W.f2 _ S.mem2) q)⟩
  intro m
  induction m with
  | zero =>
    intro j h tk c acc as hm hj st keep hL full len G
    have le1 := Nat.min_le_left n1 n2
    have le2 := Nat.min_le_right n1 n2
    refine codeAny_builtin PySem.F.entry_extend_loop ?_
    rw [Around.under_plainId PySem.F.plain_extend_loop _]
    show wpAny _ A.in1 (pyNext (.ref z) >>= _) _ _ _
    refine wpAny_bind (zst_done (s := { s with heap := h, toks := tk }) (A := A.in1) S D1 D2 st (by omega) (by omega) (by omega) fun h' tk' ex => ?_)
    refine wpAny_pure (hR h' tk' acc c as (fun b o q0 q1 q2 q3 q4 e => ex b o q1 q2 q3 q4 (keep b o q0 q1 q2 q3 q4 e)) (ex L _ lz lTO li1 li2 hL) (by omega) ⟨G.up, G.hi, fun k a hk => ?_⟩ full)
    obtain ⟨u, v, pu, pv, e⟩ := G.each k a hk
    obtain ⟨o1, o2, o3, o4⟩ := off (G.hi a (List.mem_of_getElem? hk))
    exact ⟨u, v, pu, pv, ex a _ o1 o2 o3 o4 e⟩
  | succ m ih =>
    intro j h tk c acc as hm hj st keep hL full len G
    have le1 := Nat.min_le_left n1 n2
    have le2 := Nat.min_le_right n1 n2
    have size : acc.size = j := by rw [← Array.length_toList, full, List.length_map, len]
    have hLs : L < h.objs.size := Heap.lt_size hL
    refine codeAny_builtin PySem.F.entry_extend_loop ?_
    rw [Around.under_plainId PySem.F.plain_extend_loop _]
    show wpAny _ A.in1 (pyNext (.ref z) >>= _) _ _ _
    refine wpAny_bind (zst_item (s := { s with heap := h, toks := tk }) (A := A.in1) S D1 D2 st hLs (by omega) (by omega) fun u v h' tk' pu pv st' new ex => ?_)
    dsimp only at new ex ⊢
    have hL' := ex L _ lz lTO li1 li2 hL
    have up : ∀ b o, b ≠ L → h'.get? b = some o → (h'.update L (Obj.mapSeq (·.push (Value.ref h.objs.size)))).get? b = some o := fun b o hb e => (Heap.get?_update_other _ _ (Ne.symm hb)).trans e
    show wpAny _ A.in1 (updateSeq L (·.push (Value.ref h.objs.size)) >>= _) _ _ _
    refine wpAny_bind ?_
    refine wpAny_updateSeq hL' rfl (wpAny_pure ⟨plainId_quiet PySem.F.plain_extend_loop _, ih (j + 1) _ tk' _ (acc.push (Value.ref h.objs.size)) (as ++ [h.objs.size]) (by omega) (by omega) (zl_keep W D1 D2 st' up)
      (fun b o q0 q1 q2 q3 q4 e => up b o q0 (ex b o q1 q2 q3 q4 (keep b o q0 q1 q2 q3 q4 e))) (Heap.get?_update_self _ hL' rfl) (by rw [Array.toList_push, full, List.map_append]; rfl) (by rw [List.length_append, len]; rfl) ⟨?_, ?_, ?_⟩⟩) (by rw [size]; omega) (by show (acc.push (Value.ref h.objs.size)).size ≤ sizeLine + 1; rw [Array.size_push, size]; omega)
    · refine List.pairwise_append.mpr ⟨G.up, List.pairwise_singleton _ _, fun a ha b hb => ?_⟩
      rw [List.mem_singleton.mp hb]
      obtain ⟨k, hk⟩ := List.mem_iff_getElem?.mp ha
      obtain ⟨_, _, _, _, e⟩ := G.each k a hk
      exact Heap.lt_size e
    · intro a ha
      rcases List.mem_append.mp ha with ha | ha
      · exact G.hi a ha
      · rw [List.mem_singleton.mp ha]; exact hLs
    · intro k a hk
      rcases Nat.lt_trichotomy k as.length with q | q | q
      · rw [List.getElem?_append_left q] at hk
        obtain ⟨u', v', pu', pv', e⟩ := G.each k a hk
        have ha := G.hi a (List.mem_of_getElem? hk)
        obtain ⟨o1, o2, o3, o4⟩ := off ha
        exact ⟨u', v', pu', pv', up a _ (Nat.ne_of_gt ha) (ex a _ o1 o2 o3 o4 e)⟩
      · subst q
        have ha : h.objs.size = a := by simpa using hk
        subst ha
        rw [len]
        exact ⟨u, v, pu, pv, up _ _ (Nat.ne_of_gt hLs) new⟩
      · rw [List.getElem?_eq_none (by rw [List.length_append, List.length_singleton]; omega)] at hk
        cases hk
theorem zl_extend (S : ZipSep2 z TI TO i1 i2 fp1 fp2) (D1 : Draws prog w A.in1.in1 i1 fp1 n1 P1 St1) (D2 : Draws prog w A.in1.in1 i2 fp2 n2 P2 St2) (W : ZLow z TI TO L fp1 fp2) (hn : min n1 n2 ≤ sizeLine) (res : Value) (c0 : Nat) (st : ZSt z TI TO i1 i2 L St1 St2 0 s.heap) (hL : s.heap.get? L = some { cls := .type "list", data := .seq #[] c0 })
    (hR : ∀ h' tk acc c as, (∀ b o, b ≠ L → b ≠ z → b ≠ TO → b ≠ i1 → b ≠ i2 → s.heap.get? b = some o → h'.get? b = some o) → h'.get? L = some { cls := .type "list", dict := none, data := .seq acc c, slots := #[] } → as.length = min n1 n2 → ZGo P1 P2 L h' as → acc.toList = as.map Value.ref → R (.ok (.ret res)) { s with heap := h', toks := tk }) :
    wpAny (model prog w) A.in1 (Builtin.List.listExtendWith (.ref L) (.ref z) res)
      (fun fin s' => match fin with | .done f => R (.ok f) s' | .again c' => c'.quiet = true ∧ codeAny (model prog w) A c' R s') (fun e s' => R (.error e) s') s := by
  have ty := zst_type st
  have ne : L ≠ z := Nat.ne_of_gt W.z
  unfold Builtin.List.listExtendWith
  refine wpAny_bind (wpAny_typeOf (T := "zip") ty ?_)
  have q1 : Builtin.List.listSameRef (.ref L) (.ref z) = false := by simp [Builtin.List.listSameRef, ne]
  have q2 : (Value.type "zip" == Value.type "list") = false := by decide
  have q3 : (Value.type "zip" == Value.type "tuple") = false := by decide
  simp only [q1, q2, q3, Bool.or_false, Bool.false_eq_true, if_false]
  refine wpAny_bind (zst_self st ?_)
  refine wpAny_bind (wpAny_holding ?_)
  unfold Builtin.List.listLengthHint
  refine wpAny_bind (wpAny_specialOf ty nolen_zp ?_)
  show wpAny _ A.in1 (specialOf (Value.ref z) (Str.ofString "__length_hint__") >>= _) _ _ _
  refine wpAny_bind (wpAny_specialOf ty nohint_zp ?_)
  refine wpAny_pure ?_
  show wpAny _ A.in1 (rule "list.extend.makes-room" >>= fun _ => Builtin.List.listTouch (.ref L) >>= fun _ => again (.builtin "list.extend.loop" ⟨[.ref L, .ref z, res], []⟩)) _ _ _
  refine wpAny_bind (wpAny_rule ?_)
  refine wpAny_bind ?_
  show wpAny _ A.in1 (updateSeq L (·.push .none) >>= fun _ => updateSeq L (·.pop)) _ _ _
  refine wpAny_bind (wpAny_updateSeq hL rfl ?_)
  have hL2 := Heap.get?_update_self (Obj.mapSeq (·.push Value.none)) hL rfl
  refine wpAny_updateSeq (hz := by seq_fits) hL2 rfl ?_
  have hL3 := Heap.get?_update_self (Obj.mapSeq (·.pop)) hL2 rfl
  have oth : ∀ b o, b ≠ L → s.heap.get? b = some o → ((s.heap.update L (Obj.mapSeq (·.push Value.none))).update L (Obj.mapSeq (·.pop))).get? b = some o := fun b o hb e => (Heap.get?_update_other _ _ (Ne.symm hb)).trans ((Heap.get?_update_other _ _ (Ne.symm hb)).trans e)
  refine wpAny_pure ⟨plainId_quiet PySem.F.plain_extend_loop _, zl_loop (s := s) (h0 := s.heap) S D1 D2 W hn res hR _ 0 _ s.toks _ #[] [] rfl (Nat.zero_le _) (zl_keep W D1 D2 st oth) (fun b o q0 _ _ _ _ e => oth b o q0 e) hL3 rfl rfl ⟨List.Pairwise.nil, (fun _ q => nomatch q), fun k a q => by simp at q⟩⟩
theorem zl_call {E : Value → Shared → Prop} {Q : Value → Shared → Prop} (S : ZipSep2 z TI TO i1 i2 fp1 fp2) (D1 : Draws prog w A.in1.in1.in1 i1 fp1 n1 P1 St1) (D2 : Draws prog w A.in1.in1.in1 i2 fp2 n2 P2 St2) (W : ZLow z TI TO s.heap.objs.size fp1 fp2) (hn : min n1 n2 ≤ sizeLine) (st : ZSt z TI TO i1 i2 s.heap.objs.size St1 St2 0 s.heap)
    (hQ : ∀ h' tk acc c as, (∀ b o, b ≠ z → b ≠ TO → b ≠ i1 → b ≠ i2 → s.heap.get? b = some o → h'.get? b = some o) → h'.get? s.heap.objs.size = some { cls := .type "list", dict := none, data := .seq acc c, slots := #[] } → as.length = min n1 n2 → ZGo P1 P2 s.heap.objs.size h' as → acc.toList = as.map Value.ref → Q (.ref s.heap.objs.size) { s with heap := h', toks := tk }) :
    wpAny (model prog w) A (call (.type "list") [.ref z]) Q E s := by
  refine callType_codes (Q₁ := fun obj t => obj = .ref s.heap.objs.size ∧ t = { s with heap := s.heap.push { cls := .type "list", data := .seq #[] } }) PySem.F.called_list (PySem.F.typeCall_list_1 _) PySem.F.entry_list_init
    (code_list_new _ ⟨rfl, rfl⟩) fun obj t ht => ?_
  obtain ⟨rfl, rfl⟩ := ht
  have hL : (s.heap.push { cls := .type "list", data := .seq #[] }).get? s.heap.objs.size = some { cls := .type "list", data := .seq #[] } := Heap.get?_push_size _ rfl
  refine ⟨⟨_, hL, rfl⟩, PySem.F.args_list_init_2 _ _, ?_⟩
  show wpAny _ _ (do let old ← Builtin.List.listItems (.ref s.heap.objs.size); Builtin.List.listUpdate (.ref s.heap.objs.size) (fun _ => #[]); letGo old.toList.reverse; Builtin.List.listExtendWith (.ref s.heap.objs.size) (.ref z) .none) _ _ _
  refine wpAny_bind ?_
  unfold Builtin.List.listItems
  refine wpAny_bind (wpAny_seqItems hL rfl (wpAny_pure ?_))
  show wpAny _ _ (updateSeq s.heap.objs.size (fun _ => #[]) >>= fun _ => letGo (#[] : Array Value).toList.reverse >>= fun _ => Builtin.List.listExtendWith (.ref s.heap.objs.size) (.ref z) .none) _ _ _
  refine wpAny_bind (wpAny_updateSeq hL rfl ?_)
  have hL2 := Heap.get?_update_self (Obj.mapSeq (fun _ => (#[] : Array Value))) hL rfl
  have oth : ∀ b o, b ≠ s.heap.objs.size → s.heap.get? b = some o → ((s.heap.push { cls := .type "list", data := .seq #[] }).update s.heap.objs.size (Obj.mapSeq (fun _ => (#[] : Array Value)))).get? b = some o :=
    fun b o hb e => (Heap.get?_update_other _ _ (Ne.symm hb)).trans (Heap.get?_push_of_some _ e)
  refine wpAny_bind (wpAny_letGo ?_)
  refine zl_extend (A := A.in1) S D1 D2 W hn .none _ (zl_keep W D1 D2 st oth) hL2 fun h' tk acc c as hk hL' hl G hacc => ?_
  exact ⟨rfl, hQ h' tk acc c as (fun b o q1 q2 q3 q4 e => hk b o (Nat.ne_of_lt (Heap.lt_size e)) q1 q2 q3 q4 (oth b o (Nat.ne_of_lt (Heap.lt_size e)) e)) hL' hl G hacc⟩
end
end Rg
namespace Rg
open PySem PySem.Spec PyProof.Rows L2
/-! ### list(zip(x, y)), by the hand layer -/
/-- pairs tracked at their addresses -/
def putZ : Hp → List Addr → List (V × V) → Hp
  | H, a :: as, q :: qs => putZ (upd H a (.tup [q.1, q.2])) as qs
  | H, _, _ => H
theorem putZ_off {b : Addr} : ∀ (as : List Addr) (qs : List (V × V)) (H : Hp), b ∉ as → putZ H as qs b = H b
  | [], _, _, _ => rfl
  | _ :: _, [], _, _ => rfl
  | a :: as, q :: qs, H, h => by
    show putZ (upd H a (.tup [q.1, q.2])) as qs b = H b
    rw [putZ_off as qs _ (fun m => h (List.mem_cons_of_mem _ m)), upd_ne (fun m => h (by rw [m]; exact List.mem_cons_self))]
/-- where pairs stand -/
def PairsAt (H : Hp) : List Addr → List (V × V) → Prop := Paired fun (t : Addr) (q : V × V) => H t = some (.tup [q.1, q.2])
theorem putZ_at : ∀ (as : List Addr) (qs : List (V × V)) (H : Hp), as.length = qs.length → as.Nodup → PairsAt (putZ H as qs) as qs
  | [], [], _, _, _ => .nil
  | [], _ :: _, _, h, _ => by cases h
  | _ :: _, [], _, h, _ => by cases h
  | a :: as, q :: qs, H, h, hn => by
    have hn' := List.nodup_cons.mp hn
    refine .cons ?_ (putZ_at as qs (upd H a (.tup [q.1, q.2])) (Nat.succ.inj h) hn'.2)
    show putZ (upd H a (.tup [q.1, q.2])) as qs a = some (.tup [q.1, q.2])
    rw [putZ_off as qs _ hn'.1, upd_same]
theorem pairs_get {H : Hp} : ∀ {as : List Addr} {qs : List (V × V)}, PairsAt H as qs → ∀ {i : Nat} {a : Addr}, as[i]? = some a → ∃ q, qs[i]? = some q ∧ H a = some (.tup [q.1, q.2])
  | _, _, .nil, i, x, h => by cases h
  | _, _, .cons r t, 0, x, h => by
    cases h
    exact ⟨_, rfl, r⟩
  | _, _, .cons r t, i + 1, x, h => pairs_get t h
theorem pairs_mem {H : Hp} {as : List Addr} {qs : List (V × V)} (h : PairsAt H as qs) {a : Addr} (m : a ∈ as) : ∃ (i : Nat) (q : V × V), as[i]? = some a ∧ qs[i]? = some q ∧ H a = some (.tup [q.1, q.2]) := by
  obtain ⟨i, hi⟩ := List.mem_iff_getElem?.mp m
  obtain ⟨q, e1, e2⟩ := pairs_get h hi
  exact ⟨i, q, hi, e1, e2⟩
theorem refs_vals : ∀ as : List Addr, Vals (as.map V.ref) (as.map Value.ref)
  | [] => .nil
  | _ :: as => .cons rfl (refs_vals as)
theorem zip_get {α β : Type} : ∀ {xs : List α} {ys : List β} {i : Nat} {q : α × β}, (xs.zip ys)[i]? = some q → xs[i]? = some q.1 ∧ ys[i]? = some q.2
  | [], _, i, q, h => by simp at h
  | _ :: _, [], i, q, h => by simp at h
  | x :: xs, y :: ys, 0, q, h => by
    have e : (x, y) = q := by simpa using h
    subst e
    exact ⟨rfl, rfl⟩
  | x :: xs, y :: ys, i + 1, q, h => by
    have h' : (xs.zip ys)[i]? = some q := by simpa using h
    simpa using zip_get h'
theorem zip_laid {X : Cx} {pins : List (Addr × Obj)} {σ : L2.St} {H : Hp} {s : Shared} {h' : Heap} {tk : Nat} {xs ys : List V} {is js : List Value} {acc : Array Value} {c : Nat} {as : List Addr} {L : Addr} (I : Inv X pins σ H s) (hx : Vals xs is) (hy : Vals ys js) (hz : xs.length ≤ sizeLine) (above : s.heap.objs.size ≤ L)
    (keep : ∀ b o, s.heap.get? b = some o → h'.get? b = some o) (hL : h'.get? L = some { cls := .type "list", dict := none, data := .seq acc c, slots := #[] }) (len : as.length = min is.toArray.size js.toArray.size) (G : ZGo (fun i v => is.toArray[i]? = some v) (fun i v => js.toArray[i]? = some v) L h' as) (full : acc.toList = as.map Value.ref) :
    ∃ H' : Hp, Same H H' ∧ H L = none ∧ (∀ t ∈ as, H t = none) ∧ H' L = some (.lst (as.map V.ref)) ∧ PairsAt H' as (xs.zip ys) ∧ Inv X pins σ H' { s with heap := h', toks := tk } := by
  have l1 := hx.length
  have l2 := hy.length
  have lz : as.length = (xs.zip ys).length := by rw [List.length_zip, len]; simp only [List.size_toArray]; omega
  have nL : L ∉ as := fun m => Nat.lt_irrefl _ (G.hi _ m)
  have nd : as.Nodup := List.Pairwise.imp (fun {a b} (h : a < b) => Nat.ne_of_lt h) G.up
  have fresh : ∀ t ∈ as, H t = none := fun t m => I.hok.fresh (Nat.le_trans above (Nat.le_of_lt (G.hi t m)))
  have freshL : H L = none := I.hok.fresh above
  have at_ := putZ_at as (xs.zip ys) (upd H L (.lst (as.map V.ref))) lz nd
  have off : ∀ b, b ∉ as → b ≠ L → putZ (upd H L (.lst (as.map V.ref))) as (xs.zip ys) b = H b := fun b m n => by rw [putZ_off as _ _ m, upd_ne n]
  have low : ∀ b o, s.heap.get? b = some o → b ∉ as ∧ b ≠ L := fun b o e => ⟨fun m => absurd (Heap.lt_size e) (Nat.not_lt.mpr (Nat.le_trans above (Nat.le_of_lt (G.hi b m)))), Nat.ne_of_lt (Nat.lt_of_lt_of_le (Heap.lt_size e) above)⟩
  have kp : ∀ b u, H b = some u → (putZ (upd H L (.lst (as.map V.ref))) as (xs.zip ys)) b = some u := fun b u e => by
    rw [off b (fun m => by rw [fresh b m] at e; cases e) (fun m => by rw [m, freshL] at e; cases e)]
    exact e
  have eL : putZ (upd H L (.lst (as.map V.ref))) as (xs.zip ys) L = some (.lst (as.map V.ref)) := by rw [putZ_off as _ _ nL, upd_same]
  refine ⟨putZ (upd H L (.lst (as.map V.ref))) as (xs.zip ys), kp, freshL, fresh, eL, at_, ?_⟩
  refine I.call' (ch := []) rfl ⟨fun b o q _ _ _ => keep b o q, fun b o q _ _ _ => ⟨o.slots, keep b o q⟩, fun b o q n _ => ?_, fun b o q _ => ⟨o, keep b o q⟩, fun b us q => kp b _ q, fun b o u q => kp b _ q, fun b ps q => ⟨#[], by rw [kp b _ q]; simp⟩⟩ (fun b u q => ?_) I.bare fun b m => by simp at m
  · obtain ⟨m1, m2⟩ := low b o q
    rw [off b m1 m2]
    exact n
  · by_cases m : b ∈ as
    · obtain ⟨i, p, e1, e2, e3⟩ := pairs_mem at_ m
      rw [e3] at q
      cases q
      obtain ⟨x, y⟩ := p
      obtain ⟨f1, f2⟩ := zip_get e2
      obtain ⟨u, v, pu, pv, hT⟩ := G.each i b e1
      obtain ⟨u', hu, ru⟩ := hx.get f1
      obtain ⟨v', hv, rv⟩ := hy.get f2
      have eu : u' = u := by rw [List.getElem?_toArray, hu] at pu; exact Option.some.inj pu
      have ev : v' = v := by rw [List.getElem?_toArray, hv] at pv; exact Option.some.inj pv
      subst eu ev
      exact ⟨by show 2 ≤ sizeLine; decide, [u', v'], .cons ru (.cons rv .nil), ⟨_, hT, rfl, _, rfl⟩⟩
    · by_cases m2 : b = L
      · rw [m2] at q ⊢
        rw [eL] at q
        cases q
        refine ⟨by rw [List.length_map, lz, List.length_zip]; omega, acc.toList, c, by rw [full]; exact refs_vals as, ?_⟩
        rw [Array.toArray_toList]
        exact hL
      · rw [off b m m2] at q
        exact (I.hok b u q).stay (fun d v _ y => keep d v y) (fun d y => kp d _ y) fun d us y => kp d _ y
section
variable {X : Cx}
/-- two lists, or two tuples -/
def Seq2 (K : PySem.W.Frag) (H : Hp) (a b : Addr) (xs ys : List V) : Prop := (SqL K H a xs ∧ SqL K H b ys) ∨ (SqT K H a xs ∧ SqT K H b ys)
def tLZip (K : PySem.W.Frag) (ta : TA) : TE := fun σ H Q => ta σ H fun vs H1 => ∃ (a b : Addr) (xs ys : List V), vs = [.ref a, .ref b] ∧ Seq2 K H1 a b xs ys ∧
  ∀ (p : Addr) (ts : List Addr) (H' : Hp), Same H1 H' → H1 p = none → (∀ t ∈ ts, H1 t = none) → H' p = some (.lst (ts.map V.ref)) → PairsAt H' ts (xs.zip ys) → Q (.ref p) H'
theorem pe_listZip {e e2 : Expr} {ta : TA} {p p2 pos2 pos : Pos} (calm : X.calm = true) (gl : Gl X "list") (ml : X.mg "list" = none) (gz : Gl X "zip") (mz : X.mg "zip" = none) (ha : PA X [e, e2] ta)
    (st : starEach [.Call (.Name "zip" p2) [e, e2] [] pos2] X.env = (false, eval (.Call (.Name "zip" p2) [e, e2] [] pos2) X.env) :: starEach [] X.env := by rfl)
    (st2 : starEach [e, e2] X.env = (false, eval e X.env) :: starEach [e2] X.env := by rfl) (pl2 : (backTo pos2 (starEach [e2] X.env)).any (·.1) = false := by rfl) :
    PE X (.Call (.Name "list" p) [.Call (.Name "zip" p2) [e, e2] [] pos2] [] pos) (tLZip X.K ta) := by
  refine ⟨fun pins s σ H Q I h => ?_⟩
  refine wpAny_Call_Name_kw (ld_blt I gl ml (by decide +kernel : bootBuiltins "list" = some (.type "list")) ?_)
  refine PyProof.Rows.callWith_type1 ?_ st rfl
  rw [st]
  show wpAny _ _ (spliced ((false, eval (.Call (.Name "zip" p2) [e, e2] [] pos2) X.env) :: backTo pos (starEach [] X.env))) _ _ s
  refine Calls.spliced_cons ?_
  refine wpAny_Call_Name_kw (ld_blt I gz mz PyProof.Rows.boot_zip ?_)
  refine PyProof.Rows.callWith_type1 (thn (ha.run pos2 pins s σ H _ I h) fun us s1 ⟨vs, H1, I1, r1, q1⟩ => ?_) st2 pl2
  obtain ⟨a, b, xs, ys, ex, sq, q⟩ := q1
  subst ex
  cases r1 with
  | cons r rr =>
    cases rr with
    | cons r' rr =>
      cases rr
      cases r
      cases r'
      have clear := I1.ok.hd calm
      have fin : ∀ {is js : List Value} {St1 St2 : Nat → Heap → Prop} {h' : Heap}, Vals xs is → Vals ys js → xs.length ≤ sizeLine → ys.length ≤ sizeLine → a < s1.heap.objs.size → b < s1.heap.objs.size →
          Draws X.prog X.w X.A.in1.in1.in1 s1.heap.objs.size [s1.heap.objs.size, a] is.toArray.size (fun i v => is.toArray[i]? = some v) St1 → Draws X.prog X.w X.A.in1.in1.in1 (s1.heap.objs.size + 1) [s1.heap.objs.size + 1, b] js.toArray.size (fun i v => js.toArray[i]? = some v) St2 →
          IsZip h' (s1.heap.objs.size + 4) (s1.heap.objs.size + 2) (s1.heap.objs.size + 3) .none → IsPair h' (s1.heap.objs.size + 2) (.ref s1.heap.objs.size) (.ref (s1.heap.objs.size + 1)) → IsPair h' (s1.heap.objs.size + 3) .none .none → St1 0 h' → St2 0 h' → h'.objs.size = s1.heap.objs.size + 5 →
          (∀ c o, s1.heap.get? c = some o → h'.get? c = some o) → wpAny (model X.prog X.w) X.A (spliced (backTo pos (starEach [] X.env))) (fun vs s₁ => wpAny (model X.prog X.w) X.A (call (.type "list") (.ref (s1.heap.objs.size + 4) :: vs)) (EP X pins σ Q) X.xe s₁) X.xe { s1 with heap := h' } := by
        intro is js St1 St2 h' rx ry zx zy la lb D1 D2 hz hTI hTO t1 t2 size keep
        refine Calls.spliced_nil ?_
        have S := zip_sep2 (N := s1.heap.objs.size) (fp1 := [a]) (fp2 := [b]) (fun c m => by rw [List.mem_singleton.mp m]; exact la) (fun c m => by rw [List.mem_singleton.mp m]; exact lb)
        have lx := rx.length
        have W : ZLow (s1.heap.objs.size + 4) (s1.heap.objs.size + 2) (s1.heap.objs.size + 3) h'.objs.size [s1.heap.objs.size, a] [s1.heap.objs.size + 1, b] := by
          rw [size]
          refine ⟨show (s1.heap.objs.size + 4 : Nat) < s1.heap.objs.size + 5 by omega, show (s1.heap.objs.size + 2 : Nat) < s1.heap.objs.size + 5 by omega, show (s1.heap.objs.size + 3 : Nat) < s1.heap.objs.size + 5 by omega, fun c m => ?_, fun c m => ?_⟩
          · rcases List.mem_cons.mp m with e | m
            · rw [e]; exact show (s1.heap.objs.size : Nat) < s1.heap.objs.size + 5 by omega
            · rw [List.mem_singleton.mp m]; exact Nat.lt_of_lt_of_le la (Nat.le_add_right _ _)
          · rcases List.mem_cons.mp m with e | m
            · rw [e]; exact show (s1.heap.objs.size + 1 : Nat) < s1.heap.objs.size + 5 by omega
            · rw [List.mem_singleton.mp m]; exact Nat.lt_of_lt_of_le lb (Nat.le_add_right _ _)
        refine zl_call (s := { s1 with heap := h' }) S D1 D2 W (Nat.le_trans (Nat.min_le_left _ _) (by simp only [List.size_toArray]; omega)) ⟨hTI, t1, t2, .inl ⟨hz, _, _, hTO⟩⟩ fun h2 tk acc c as hk hL len G full => ?_
        have keep2 : ∀ b o, s1.heap.get? b = some o → h2.get? b = some o := fun d o x => by
          have l := Heap.lt_size x
          exact hk d o (Nat.ne_of_lt (Nat.lt_of_lt_of_le l (Nat.le_add_right _ _))) (Nat.ne_of_lt (Nat.lt_of_lt_of_le l (Nat.le_add_right _ _))) (Nat.ne_of_lt l) (Nat.ne_of_lt (Nat.lt_of_lt_of_le l (Nat.le_add_right _ _))) (keep d o x)
        obtain ⟨H', k1, k2, k3, k4, k5, J⟩ := zip_laid (tk := tk) I1 rx ry zx (by show s1.heap.objs.size ≤ h'.objs.size; rw [size]; exact Nat.le_add_right _ _) keep2 hL len G full
        exact ⟨.ref _, H', J, rfl, q _ as H' k1 k2 k3 k4 k5⟩
      rcases sq with ⟨hx, hy⟩ | ⟨hx, hy⟩
      · obtain ⟨is, rx, p1, zx⟩ := I1.list hx
        obtain ⟨js, ry, p2, zy⟩ := I1.list hy
        have d1 : Draws X.prog X.w X.A.in1.in1.in1 s1.heap.objs.size [s1.heap.objs.size, a] is.toArray.size (fun i v => is.toArray[i]? = some v) (fun j h => h.IsListIter s1.heap.objs.size a j ∧ h.IsList a is.toArray) := Draws.list (A := X.A.in1.in1.in1) clear _ a (Nat.ne_of_lt p1.lt) _
        have d2 : Draws X.prog X.w X.A.in1.in1.in1 (s1.heap.objs.size + 1) [s1.heap.objs.size + 1, b] js.toArray.size (fun i v => js.toArray[i]? = some v) (fun j h => h.IsListIter (s1.heap.objs.size + 1) b j ∧ h.IsList b js.toArray) := Draws.list (A := X.A.in1.in1.in1) clear _ b (Nat.ne_of_lt (Nat.lt_succ_of_lt p2.lt)) _
        refine call_zip_2 p1.isList p2.isList fun h' hz hTI hTO h1 h2 size keep => fin rx ry zx zy p1.lt p2.lt d1 d2 hz hTI hTO ⟨h1, p1.isList.at fun o e => keep _ o e⟩ ⟨h2, p2.isList.at fun o e => keep _ o e⟩ size keep
      · obtain ⟨is, rx, p1, zx⟩ := I1.tuple hx
        obtain ⟨js, ry, p2, zy⟩ := I1.tuple hy
        have la : a < s1.heap.objs.size := by obtain ⟨o1, ho1, _⟩ := id p1; exact Heap.lt_size ho1
        have lb : b < s1.heap.objs.size := by obtain ⟨o1, ho1, _⟩ := id p2; exact Heap.lt_size ho1
        have g1 : s1.heap.IsTuple a is.toArray := p1
        have g2 : s1.heap.IsTuple b js.toArray := p2
        have d1 : Draws X.prog X.w X.A.in1.in1.in1 s1.heap.objs.size [s1.heap.objs.size, a] is.toArray.size (fun i v => is.toArray[i]? = some v) (fun j h => h.IsTupleIter s1.heap.objs.size a j ∧ h.IsTuple a is.toArray) := draws_tup (A := X.A.in1.in1.in1) clear _ a (Nat.ne_of_lt la) _
        have d2 : Draws X.prog X.w X.A.in1.in1.in1 (s1.heap.objs.size + 1) [s1.heap.objs.size + 1, b] js.toArray.size (fun i v => js.toArray[i]? = some v) (fun j h => h.IsTupleIter (s1.heap.objs.size + 1) b j ∧ h.IsTuple b js.toArray) := draws_tup (A := X.A.in1.in1.in1) clear _ b (Nat.ne_of_lt (Nat.lt_succ_of_lt lb)) _
        refine RZ.call_zipT g1 g2 fun h' hz hTI hTO h1 h2 size keep => fin rx ry zx zy la lb d1 d2 hz hTI hTO ⟨h1, tup_at g1 fun o e => keep _ o e⟩ ⟨h2, tup_at g2 fun o e => keep _ o e⟩ size keep
/-! ### for .. in (x if c else y) -/
def iIf (tA : TT) (wa wb : TI) : TI := fun σ H R => tA σ H fun d H1 => if d = true then wa σ H1 R else wb σ H1 R
theorem pi_ifExp {c a b tg : Expr} {pos : Pos} {tA : TT} {wa wb : TI} (hc : PT X c tA) (ha : PI X tg a wa) (hb : PI X tg b wb) : PI X tg (.IfExp c a b pos) (iIf tA wa wb) := by
  refine ⟨fun pins s σ H R I h => ?_⟩
  refine wpAny_IfExp (thn (hc.run pins s σ H _ I h) fun d s1 ⟨H1, I1, q1⟩ => ?_)
  cases d with
  | true => exact ha.run pins s1 σ H1 R I1 q1
  | false => exact hb.run pins s1 σ H1 R I1 q1
/-! ### x not in a tuple of data -/
def rNotInDT (K : PySem.W.Frag) : R2 := fun x y Hh Qq => ∃ dx dxs, Dp K Hh x dx ∧ Dp K Hh y (.tuple dxs) ∧ SeqAt.shaped dx = true ∧ SeqAt.shaped (.tuple dxs) = true ∧ Qq (.bl (!dxs.any fun z => PyData.eqv z dx)) Hh
theorem op_notInDT (hu : X.A.units + 65 < cLine) : OpR X (compareOp .NotIn) (rNotInDT X.K) := by
  intro pns s σs Hh x y v u Qq Iv rlx rly h
  obtain ⟨dx, dxs, hdx, hdy, sx, sy, qq⟩ := h
  obtain ⟨as, rd1⟩ := Dp.reads Iv dx x v hdx rlx
  obtain ⟨bs, rd2⟩ := Dp.reads Iv (.tuple dxs) y u hdy rly
  exact SeqAt.notIn_tuple_reads rd2 rd1 (SeqAt.canLay_of_shaped sy) (SeqAt.canLay_of_shaped sx) (room_in_shaped sx hu) ⟨.bl _, Hh, Iv, rfl, qq⟩
end
end Rg
/-! repr of data, in defs that are called while no repr is under way -/
namespace Rg
open PySem PySem.Spec PyProof.Rows L2
/-- a def that is called where no guard is under way -/
structure FnG (Pr : Program) (wo : World) (Kf : PySem.W.Frag) (mgl : Str → Option Value) (bas : Heap) (Cx1 : CXT) (lev : Nat) (fa : Addr) (fdat : FuncData) (pars : List Str) (prom : Sp) : Prop where
  len : ∀ vvs Hq Qq Ee, prom vvs Hq Qq Ee → vvs.length = pars.length
  run : ∀ (A : Around) (outer : List Env) (s : Shared) (Hq : Hp) (args : Args) (uus : List Value) (vvs : List V) (Qq : VK) (Ee : XK), A.guards = some [] → Room lev A → Env0 Pr wo Kf mgl bas A outer s Hq → BindsTo s fdat args (pars.zip uus) → Vals vvs uus → prom vvs Hq Qq Ee →
    codeAny (model Pr wo) A (.call (.ref fa) args) (CR Cx1 outer Pr wo Hq s Qq Ee) s
theorem FnG.of {Pr : Program} {wo : World} {Kf : PySem.W.Frag} {mgl : Str → Option Value} {bas : Heap} {Cx1 : CXT} {lev : Nat} {fa : Addr} {fdat : FuncData} {pars : List Str} {prom : Sp} (F : FnOk Pr wo Kf mgl bas Cx1 lev fa fdat pars prom) : FnG Pr wo Kf mgl bas Cx1 lev fa fdat pars prom :=
  ⟨F.len, fun A outer s H args us vs Q E _ hroom en0 hbi rvs h => F.run A outer s H args us vs Q E hroom en0 hbi rvs h⟩
theorem fn_ofG {Cx1 : CXT} {Pr : Program} {wo : World} {Kf : PySem.W.Frag} {mgl : Str → Option Value} {bas : Heap} {lev : Nat} {fa : Addr} {nam qu : Str} {pms : Arguments} {bod : List Stmt} {sco : Scope} {dV kV doc pmv cdv ct oc : Value} {an od : Option Addr}
    {osl : Array (Option Value)} {Nm1 pars : List Str} {prom : Sp} (lku : Kf.lookup fa = some ⟨oc, od, .func (PySem.W.fnOf nam qu pms bod sco dV kV doc pmv an cdv ct), osl⟩) (hcode : PySem.W.codeIn Kf cdv qu = true) (Sc : FnScope Nm1 pars sco)
    (len : ∀ vvs Hq Qq Ee, prom vvs Hq Qq Ee → vvs.length = pars.length)
    (hbody : ∀ (A : Around) (outer : List Env) (s : Shared) (Hq : Hp) (vvs : List V) (Qq : VK) (Ee : XK), A.guards = some [] → Room lev (A.deeper (envOfC qu sco s.heap.objs.size fa cdv)) → prom vvs Hq Qq Ee →
      ∃ t, PSs (cxOf Cx1 Pr wo Kf mgl bas Nm1 qu sco fa cdv A outer s Hq Ee) bod t ∧ t { nx := fun _ HB => Qq .non HB, rt := Qq } (start Nm1 vvs) Hq) :
    FnG Pr wo Kf mgl bas Cx1 (lev + 1) fa (PySem.W.fnOf nam qu pms bod sco dV kV doc pmv an cdv ct) pars prom := by
  refine ⟨len, fun A outer s H args uus vvs Q E gua hroom en0 hbi rvs hpr => ?_⟩
  have hlen := len _ _ _ _ hpr
  have KIn : Kf.In s.heap := en0.mod.kin.keeps fun b o e => (en0.bs b o e).1
  have lims : s.heap.NoLimit := en0.mod.nolimit.keeps fun b o e => (en0.bs b o e).1
  have kinds : ∀ yy ∈ pars.zip uus, sco.names.lookup yy.1 = some .local ∨ (sco.names.lookup yy.1 = some .cell ∧ ((cellsFrom (s.heap.objs.size + 1) sco.names []).lookup yy.1).isSome = true) := fun ⟨nn, vv⟩ hy => by
    rcases Sc.par nn (List.of_mem_zip hy).1 with qq | qq
    · exact .inl qq
    · exact .inr ⟨qq, PySem.W.cellsFrom_some _ _ _ (.inl qq)⟩
  refine codeAny_call_function hroom.depth (KIn _ _ lku) rfl Sc.co Sc.gen rfl (PySem.W.codeRec_of KIn hcode) (hbi _ _ _ _ ?_)
  refine wpAny_newFunctionEnv_cells Sc.kind kinds fun env hen sB xc => ?_
  subst hen
  refine ⟨lims.keeps xc.toInCall.keep, codeAny_func ?_⟩
  obtain ⟨t, hpss, hend⟩ := hbody A outer s H vvs Q E gua (hroom.deeper _) hpr
  have Iv : Inv (cxOf Cx1 Pr wo Kf mgl bas Nm1 qu sco fa cdv A outer s H E) [] (start Nm1 vvs) H sB := inv_start Sc hroom.hd en0 hlen rvs xc
  refine wpAny_mono (hpss.run [] sB (start Nm1 vvs) H _ Iv hend) (fun flw sC hsB => ?_) fun e sC hsB => hsB
  have fine : ∀ {σB : L2.St} {HB : Hp} {vv : V} {uu : Value}, Inv (cxOf Cx1 Pr wo Kf mgl bas Nm1 qu sco fa cdv A outer s H E) [] σB HB sC → RelV vv uu → Q vv HB → CE outer Pr wo H s Q uu sC :=
    fun {σB HB vv uu} Jv rvu qq => ⟨vv, HB, Jv.os, Jv.bare, Jv.base, Jv.hok, rvu, qq⟩
  cases flw with
  | ret uu =>
    obtain ⟨vv, σB, HB, Jv, rvu, qq⟩ := hsB
    exact fine Jv rvu qq
  | next =>
    obtain ⟨σB, HB, Jv, qq⟩ := hsB
    exact fine (vv := V.non) (uu := Value.none) Jv rfl qq
  | brk =>
    obtain ⟨_, _, _, qq⟩ := hsB
    exact False.elim qq
  | cont =>
    obtain ⟨_, _, _, qq⟩ := hsB
    exact False.elim qq
/-- such a def by its name -/
structure DefAtG (Pr : Program) (wo : World) (Kf : PySem.W.Frag) (mgl : Str → Option Value) (bas : Heap) (Cx1 : CXT) (lev : Nat) (x : Str) (pars : List Str) (prom : Sp) (fa : Addr) (fdat : FuncData) : Prop where
  ok : FnG Pr wo Kf mgl bas Cx1 lev fa fdat pars prom
  g : mgl x = some (.ref fa)
  kp : PySem.W.keepIn Kf (.ref fa) = true
  b : Binds Kf fdat pars []
section
variable {X : Cx} {Cx1 : CXT} {lev : Nat} {fa : Addr} {fdat : FuncData} {pars : List Str} {prom : Sp} {dvs : List V} {dds : List Value} {Ee : XK} {x : Str} {po pos : Pos} {ex : Expr} {exs : List Expr} {tas : TA}
theorem run_fnG {pns : List (Addr × Obj)} {σs : L2.St} {Hh : Hp} {sh : Shared} {Qq : VK} {uus : List Value} {vvs : List V} (F : FnG X.prog X.w X.K X.mg X.base Cx1 lev fa fdat pars prom) (gX : X.A.guards = some []) (hroom : Room lev X.A) (hbi : Binds X.K fdat pars dds) (hds : Vals dvs dds) (hpas : Passes Cx1 X Ee)
    (Iv : Inv X pns σs Hh sh) (rvs : Vals vvs uus) (hpr : prom (vvs ++ dvs) Hh Qq Ee) : wpAny (model X.prog X.w) X.A (call (.ref fa) uus) (EP X pns σs Qq) X.xe sh := by
  have rall : Vals (vvs ++ dvs) (uus ++ dds) := rvs.append hds
  have hlen : (uus ++ dds).length = pars.length := by rw [← rall.length]; exact F.len _ _ _ _ hpr
  refine wpAny_call (codeAny_mono (F.run X.A X.stack sh Hh ⟨uus, []⟩ (uus ++ dds) (vvs ++ dvs) Qq Ee gX hroom Iv.env0 (hbi sh uus Iv.kIn hlen) rall hpr) fun res sC hsB => ?_)
  cases res with
  | error er => exact hpas pns σs Hh sh er sC Iv hsB
  | ok flw =>
    cases flw with
    | ret uu => exact Iv.after hsB
    | next => exact False.elim hsB
    | brk => exact False.elim hsB
    | cont => exact False.elim hsB
theorem pe_callG (F : FnG X.prog X.w X.K X.mg X.base Cx1 lev fa fdat pars prom) (gX : X.A.guards = some []) (hroom : Room lev X.A) (hgl : Gl X x) (hmg : X.mg x = some (.ref fa)) (hkp : PySem.W.keepIn X.K (.ref fa) = true) (hbi : Binds X.K fdat pars dds) (hds : Vals dvs dds) (hpas : Passes Cx1 X Ee)
    (hpa : PA X (ex :: exs) tas) (hdb : (x == ("__debug__" : Str)) = false := by decide) (hst : starEach (ex :: exs) X.env = (false, eval ex X.env) :: starEach exs X.env := by rfl) (hpl : (backTo pos (starEach exs X.env)).any (·.1) = false := by rfl) :
    PE X (.Call (.Name x po) (ex :: exs) [] pos) (tCall prom dvs Ee tas) := by
  refine ⟨fun pns sh σs Hh Qq Iv h => ?_⟩
  refine wpAny_Call_Name_kw (ld_glob Iv hgl hmg ?_ hdb)
  refine PySem.W.callWith_K (h₀ := X.base) Iv.ok.mod.kin hkp (thn (hpa.run pos pns sh σs Hh _ Iv h) fun uus s2 ⟨vvs, H2, I2, rvs, qq⟩ => ⟨I2.kIn, ?_⟩) hst hpl
  exact run_fnG F gX hroom hbi hds hpas I2 rvs qq
end
/-- repr of data, and of None -/
def rRepr (K : PySem.W.Frag) : List V → Hp → VK → Prop := fun xs Hh Qq => ∃ v : V, xs = [v] ∧ ((∃ (a : Addr) (d : PyData), v = .ref a ∧ Dp K Hh v d ∧ d.showable = true ∧ d.hasDict = false ∧ d.depth ≤ 60 ∧ d.shown.length ≤ sizeLine ∧ Qq (.str d.shown) Hh) ∨ (v = .non ∧ Qq (.str "None") Hh))
theorem cr_repr {X : Cx} (gX : X.A.guards = some []) (hu : X.A.units + 65 < cLine) : CallR X (.builtin "repr") (rRepr X.K) := by
  intro pns sh σs Hh xs us Qq Iv rr ⟨v, ex, h⟩
  subst ex
  obtain ⟨u, eu, ru⟩ := vals1 rr
  subst eu
  rcases h with ⟨a, d, ev, hd, sw, nd, dp, sz, q⟩ | ⟨ev, q⟩
  · subst ev
    obtain ⟨as, rd⟩ := Dp.reads Iv d (.ref a) u hd ru
    obtain rfl : u = Value.ref a := ru
    exact PySem.repr_of_reads' rd sw (fun z => by rw [nd] at z; cases z) gX (by omega) (fun _ _ z => z) (fun h' u2 tk kp => ⟨.str d.shown, Hh, Iv.kept (t' := tk) kp, ⟨_, rfl⟩, q⟩) sz
  · subst ev
    obtain rfl : u = Value.none := ru
    exact PySem.P.repr_of_none ⟨.str "None", Hh, Iv.tok _, ⟨_, rfl⟩, q⟩
end Rg
namespace LamX
open PySem PySem.Spec PyProof.Rows L2 Rg
theorem law_callG {Pr : Program} {wo : World} {Kf : PySem.W.Frag} {mgl mbl : Str → Option Value} {Cx1 : CXT} {lev : Nat} {fl ad : Addr} {tbs : List (Addr × Addr)} {fdat : FuncData} {xn : Str} {prom : Sp} {s₁ : Shared} {vvs : List Value} {nns : List Int}
    (KIn : Kf.In s₁.heap) (nsG : s₁.heap.Ns mainGlobals mgl) (nsB : s₁.heap.Ns builtinsNs mbl) (boo : ∀ xn : Str, xn ≠ "__name__" → mbl xn = bootBuiltins xn) (lims : s₁.heap.NoLimit) (gens0 : s₁.gens = #[])
    (tabT : ∀ pr ∈ tbs, s₁.heap.get? pr.2 = some { cls := .none, data := .fields #[] }) (tabN : ∀ pr ∈ tbs, Kf.lookup pr.2 = none) (tabC : ∀ pr ∈ tbs, PySem.W.CodeHd s₁.heap pr.1 pr.2)
    (bmod : ∃ (bm : Addr) (obm : Obj), mgl "__builtins__" = some (.ref bm) ∧ bm ≠ builtinsNs ∧ s₁.heap.get? bm = some obm ∧ obm.cls = .type "module" ∧ obm.dict = some builtinsNs ∧ obm.data = .plain)
    (adAt : s₁.heap.get? ad = some { cls := .type "list", data := .seq vvs.toArray }) (intsA : IntsAre vvs nns) (lenS : nns.length ≤ sizeLine) (hroom : Room lev callerA)
    (Fl : ∀ base : Heap, Kf.In base → base.Ns mainGlobals mgl → (∀ pr ∈ tbs, TabB base mgl pr.1 pr.2) → FnG Pr wo Kf mgl base Cx1 lev fl fdat [xn] prom) (bindL : ∀ (s : Shared) (uv : Value), BindsTo s fdat ⟨[uv], []⟩ [(xn, uv)])
    (hprom : ∀ Hq : Hp, (∀ pr ∈ tbs, Hq pr.2 = some (.tbl #[])) → SqL Kf Hq ad (nns.map V.int) → prom [.ref ad] Hq (fun vl _ => vl = .bl true) fun _ _ _ => False)
    (noEx : ∀ Hq ev sE, Cx1 [] Hq s₁ (fun _ _ _ => False) ev sE → False) :
    codeAny (model Pr wo) callerA (.call (.ref fl) ⟨[.ref ad], []⟩) (fun r sE => r = .ok (.ret (.bool true)) ∧ OldK s₁.heap sE.heap ∧ sE.os = s₁.os ∧ AllBare sE.gens) s₁ := by
  have rvv := vals_ints intsA
  have lvv := intsA.length
  have isTb : ∀ bd : Addr, bd ∈ tbs.map (·.2) → s₁.heap.get? bd = some { cls := .none, data := .fields #[] } := fun bd nsB => by
    obtain ⟨pr, hp, ev⟩ := List.mem_map.mp nsB
    rw [← ev]
    exact tabT pr hp
  have adT : ad ∉ tbs.map (·.2) := fun zz => by
    have qe := isTb ad zz
    rw [adAt] at qe
    have z' : Data.seq vvs.toArray _ = Data.fields #[] := congrArg Obj.data (Option.some.inj qe)
    cases z'
  have memTb : ∀ pr ∈ tbs, pr.2 ∈ tbs.map (·.2) := fun pr hp => List.mem_map.mpr ⟨pr, hp, rfl⟩
  have kern : ∀ Hq : Hp, (∀ pr ∈ tbs, Hq pr.2 = some (.tbl #[])) → (∀ bd, Hq bd = none ∨ bd ∈ tbs.map (·.2) ∨ ∃ oo xs, Hq bd = some (.frz oo (.lst xs))) → SqL Kf Hq ad (nns.map V.int) → HOk Pr wo Hq s₁.heap → (∀ bd, Hq bd ≠ none → bd = ad ∨ bd ∈ tbs.map (·.2)) → (Hq ad ≠ none → Kf.lookup ad = none) →
      codeAny (model Pr wo) callerA (.call (.ref fl) ⟨[.ref ad], []⟩) (fun r sE => r = .ok (.ret (.bool true)) ∧ OldK s₁.heap sE.heap ∧ sE.os = s₁.os ∧ AllBare sE.gens) s₁ := by
    intro Hq tabH onlyH sqH okH admH lkH
    have basOf : ∀ {bd : Addr} {oo : Obj}, s₁.heap.get? bd = some oo → Hq bd = none → (hidT s₁.heap Hq).get? bd = some oo := fun ev n => hidT_get ev n
    have noDt : ∀ {bd : Addr} {oo : Obj}, s₁.heap.get? bd = some oo → (∀ vvs n, oo.data ≠ .seq vvs n) → oo.data ≠ .fields #[] → Hq bd = none := fun {bd oo} ev h1 h2 => by
      cases qe : Hq bd with
      | none => rfl
      | some uv =>
        rcases admH bd (by rw [qe]; simp) with e' | e'
        · rw [e', adAt] at ev
          cases ev
          exact (h1 _ _ rfl).elim
        · rw [isTb bd e'] at ev
          cases ev
          exact (h2 rfl).elim
    have noAd : ∀ {bd : Addr} {oo : Obj} {es : Array DictEntry} {ep : Nat}, s₁.heap.get? bd = some oo → oo.data = .dict es ep → Hq bd = none := fun {bd oo es ep} ev d => by
      refine noDt ev (fun vvs n zz => ?_) fun zz => ?_
      · rw [d] at zz
        cases zz
      · rw [d] at zz
        cases zz
    have nsKp : ∀ {bd : Addr} {m : Str → Option Value}, s₁.heap.Ns bd m → (hidT s₁.heap Hq).Ns bd m := fun {bd m} ⟨oo, es, ep, ev, d, r⟩ => ⟨oo, es, ep, basOf ev (noAd ev d), d, r⟩
    have KbIn : Kf.In (hidT s₁.heap Hq) := fun bd oo ev => basOf (KIn bd oo ev) (by
      cases qe : Hq bd with
      | none => rfl
      | some uv =>
        rcases admH bd (by rw [qe]; simp) with e' | e'
        · rw [e'] at ev qe
          rw [lkH (by rw [qe]; simp)] at ev
          cases ev
        · obtain ⟨pr, hp, ep⟩ := List.mem_map.mp e'
          rw [← ep, tabN pr hp] at ev
          cases ev)
    have modM : L2.Mod Kf mgl (hidT s₁.heap Hq) := ⟨KbIn, nsKp nsG, ⟨mbl, nsKp nsB, boo⟩, let ⟨mc, h1, h2⟩ := lims; ⟨mc, nsKp h1, h2⟩⟩
    have tabB : ∀ pr ∈ tbs, TabB (hidT s₁.heap Hq) mgl pr.1 pr.2 := fun pr hp => by
      have hTp := tabT pr hp
      refine ⟨?_, ?_, fun zz => ?_⟩
      · obtain ⟨oo, fus, file, tf, flags, tg, inF, text, tt, e1, r1, r2, r3, r4, r5, r6, r7, r8, hne⟩ := tabC pr hp
        refine ⟨oo, fus, file, tf, flags, tg, inF, text, tt, basOf e1 (noDt e1 (fun vvs n zz => ?_) fun zz => ?_), r1, r2, r3, r4, r5, r6, r7, r8, hne⟩
        · rw [r2] at zz
          cases zz
        · rw [r2] at zz
          cases zz
          simp at r3
      · obtain ⟨bm, obm, b1, b2, b3, b4, b5, b6⟩ := bmod
        have nG : bm ≠ mainGlobals := fun qe => by
          obtain ⟨oo, es, ep, ev, hd, _⟩ := nsG
          rw [qe, ev] at b3
          cases b3
          rw [hd] at b6
          cases b6
        have nP : bm ≠ pr.2 := fun qe => by
          rw [qe, hTp] at b3
          cases b3
          cases b6
        refine ⟨bm, obm, b1, b2, nG, nP, basOf b3 (noDt b3 (fun vvs n zz => ?_) fun zz => ?_), b4, b5, b6⟩
        · rw [b6] at zz
          cases zz
        · rw [b6] at zz
          cases zz
      · obtain ⟨oo, es, ep, ev, hd, _⟩ := nsG
        rw [zz, hTp] at ev
        cases ev
        cases hd
    have en0 : Env0 Pr wo Kf mgl (hidT s₁.heap Hq) callerA [] s₁ Hq := ⟨rfl, modM, fun bd oo ev => of_hidT ev, Nat.le_of_eq (hidT_size _ _), trivial, fun bd nsB => absurd (show bd ∈ ([] : List Addr) from nsB) (by simp), okH, .of_eq gens0⟩
    refine codeAny_mono ((Fl _ KbIn (nsKp nsG) tabB).run callerA [] s₁ Hq ⟨[.ref ad], []⟩ [.ref ad] [.ref ad] _ _ rfl hroom en0 (bindL s₁ (.ref ad)) (.cons rfl .nil) (hprom Hq tabH sqH)) fun r sE h => ?_
    cases r with
    | error ev => exact (noEx Hq ev sE h).elim
    | ok flo =>
      cases flo with
      | next => exact False.elim h
      | brk => exact False.elim h
      | cont => exact False.elim h
      | ret uv =>
        obtain ⟨vl, HE, osE, barE, unE, okE, rr1, qe⟩ := h
        have qe1 : vl = .bl true := qe
        subst qe1
        obtain rfl : uv = Value.bool true := rr1
        have keyB : ∀ bd oo, bd ∉ tbs.map (·.2) → s₁.heap.get? bd = some oo → sE.heap.get? bd = some oo := fun bd oo nb ev => by
          cases qe : Hq bd with
          | none => exact unE.keep bd oo ev qe (by intro zz; exact absurd (show bd ∈ ([] : List Addr) from zz) (by simp)) (by simp)
          | some uv =>
            rcases onlyH bd with zz | zz | ⟨obm, xs, zz⟩
            · rw [qe] at zz; cases zz
            · exact absurd zz nb
            · have z2 := unE.frzs bd obm _ zz
              obtain ⟨e1, _⟩ := okH bd _ zz
              obtain ⟨e2, _⟩ := okE bd _ z2
              rw [ev] at e1; cases e1
              exact e2
        have grew : ∀ pr ∈ tbs, ∃ mor : Array Value, sE.heap.get? pr.2 = some { cls := .none, data := .fields mor } := fun pr hp => by
          obtain ⟨mor, zz⟩ := unE.tbls pr.2 #[] (tabH pr hp)
          exact ⟨_, okE pr.2 _ zz⟩
        refine ⟨rfl, ⟨fun bd oo ev => ?_, fun bd oo ev => ?_⟩, osE, barE⟩
        · by_cases nsB : bd ∈ tbs.map (·.2)
          · obtain ⟨pr, hp, ep⟩ := List.mem_map.mp nsB
            obtain ⟨mor, hmo⟩ := grew pr hp
            rw [← ep] at ev ⊢
            rw [tabT pr hp] at ev
            cases ev
            exact .inr (.inl ⟨((tabC pr hp).tab (tabT pr hp)).isCodeTable, rfl, #[], mor, rfl, by rw [Array.empty_append]; exact hmo⟩)
          · exact .inl (keyB bd oo nsB ev)
        · by_cases nsB : bd ∈ tbs.map (·.2)
          · obtain ⟨pr, hp, ep⟩ := List.mem_map.mp nsB
            obtain ⟨mor, hmo⟩ := grew pr hp
            rw [← ep]
            exact ⟨_, hmo⟩
          · exact ⟨oo, keyB bd oo nsB ev⟩
  cases lkA : Kf.lookup ad with
  | some oo =>
    have ev := KIn ad oo lkA
    rw [adAt] at ev
    cases ev
    refine kern (fun bd => if bd ∈ tbs.map (·.2) then some (.tbl #[]) else none) (fun pr hp => if_pos (memTb pr hp)) (fun bd => ?_) (.inr ⟨_, vvs.toArray, _, lkA, rfl, rfl, rfl, by rw [List.size_toArray, lvv]; exact lenS, by simpa using rvv⟩) (fun bd uv zz => ?_) (fun bd zz => ?_) fun zz => absurd (show (if ad ∈ tbs.map (·.2) then some (HO.tbl #[]) else none) = none from if_neg adT) zz
    · by_cases nsB : bd ∈ tbs.map (·.2)
      · exact .inr (.inl nsB)
      · exact .inl (if_neg nsB)
    · by_cases nsB : bd ∈ tbs.map (·.2)
      · have z' := (if_pos nsB).symm.trans zz
        cases z'
        exact isTb bd nsB
      · have z' := (if_neg nsB).symm.trans zz
        cases z'
    · by_cases nsB : bd ∈ tbs.map (·.2)
      · exact .inr nsB
      · exact absurd (if_neg nsB) zz
  | none =>
    refine kern (fun bd => if bd = ad then some (.frz { cls := .type "list", data := .seq vvs.toArray } (.lst (nns.map V.int))) else if bd ∈ tbs.map (·.2) then some (.tbl #[]) else none) (fun pr hp => (if_neg (show ¬ pr.2 = ad from fun zz => adT (by rw [← zz]; exact memTb pr hp))).trans (if_pos (memTb pr hp))) (fun bd => ?_)
      (.inl (.inr ⟨{ cls := .type "list", data := .seq vvs.toArray }, if_pos rfl⟩)) (fun bd uv zz => ?_) (fun bd zz => ?_) fun _ => lkA
    · by_cases nsB : bd = ad
      · exact .inr (.inr ⟨_, _, if_pos nsB⟩)
      · by_cases hb2 : bd ∈ tbs.map (·.2)
        · exact .inr (.inl hb2)
        · exact .inl ((if_neg nsB).trans (if_neg hb2))
    · by_cases nsB : bd = ad
      · have z' := (if_pos nsB).symm.trans zz
        cases z'
        rw [nsB]
        exact ⟨adAt, by rw [List.length_map]; exact lenS, vvs, _, rvv, adAt⟩
      · have z1 := (if_neg nsB).symm.trans zz
        by_cases hb2 : bd ∈ tbs.map (·.2)
        · have zq := (if_pos hb2).symm.trans z1
          cases zq
          exact isTb bd hb2
        · have zq := (if_neg hb2).symm.trans z1
          cases zq
    · by_cases nsB : bd = ad
      · exact .inl nsB
      · by_cases hb2 : bd ∈ tbs.map (·.2)
        · exact .inr hb2
        · exact absurd ((if_neg nsB).trans (if_neg hb2)) zz
/-- the law's promise, called where no guard is under way -/
def LawAtG (la : PySem.W.OpenLaw) (wo : World) (Kf : PySem.W.Frag) (Cx1 : CXT) (lev mo : Nat) (xn : Str) (mgl : Str → Option Value) (fl : Addr) (hp : Heap) : Prop :=
  ∃ (fdat : FuncData) (tbs : List (Addr × Addr)) (prom : Sp), (∀ pr ∈ tbs, hp.get? pr.2 = some { cls := .none, data := .fields #[] }) ∧ (∀ pr ∈ tbs, Kf.lookup pr.2 = none) ∧ (∀ pr ∈ tbs, PySem.W.CodeHd hp pr.1 pr.2) ∧ (∀ (s : Shared) (uv : Value), BindsTo s fdat ⟨[uv], []⟩ [(xn, uv)]) ∧
    (∀ (Hq : Hp) (ad : Addr) (nns : List Int), nns.length ≤ mo → (∀ zz ∈ nns, Builtin.Int.intBits zz ≤ 1048576) → (∀ pr ∈ tbs, Hq pr.2 = some (.tbl #[])) → SqL Kf Hq ad (nns.map V.int) → prom [.ref ad] Hq (fun vl _ => vl = .bl true) fun _ _ _ => False) ∧
    ∀ bas : Heap, Kf.In bas → bas.Ns mainGlobals mgl → (∀ pr ∈ tbs, TabB bas mgl pr.1 pr.2) → FnG la.prog wo Kf mgl bas Cx1 lev fl fdat [xn] prom
theorem walk_ofG {la : PySem.W.OpenLaw} {mo lev : Nat} {pq : Program} {loo : List Str} {XP : (Str → Option Value) → Heap → Prop} {YP : World → Heap → Prop} {dr : DefRec} {Kf : Params → PySem.W.Frag} {Cx1 : World → CXT} {xn : Str}
    (hmo : la.most = some mo) (hmo2 : mo ≤ sizeLine) (hdf : dr.params.defaults = []) (hroom : Room lev callerA) (hYP : ∀ (wo : World) (hp : Heap), YP wo hp → (Kf wo.params).In hp)
    (Fl : ∀ (wo : World) (mgl : Str → Option Value) (fl : Addr) (hp : Heap), YP wo hp → (Kf wo.params).In hp → hp.Ns mainGlobals mgl → mgl dr.name = some (.ref fl) → LawAtG la wo (Kf wo.params) (Cx1 wo) lev mo xn mgl fl hp)
    (noEx : ∀ (wo : World) (Hq : Hp) (s : Shared) (ev : Value) (sE : Shared), Cx1 wo [] Hq s (fun _ _ _ => False) ev sE → False) :
    PySem.W.WalkO pq loo XP YP la.row.toRowW dr [] (fun f vs => PySem.call f vs) := by
  refine Att.attach_callB hmo hdf fun wo s₀ sB mgl mbl fl ob pmv cdv doc ad vvs nns Gl Yp hob hdd hcode hmg hobj intsA hlen hbits hgens => ?_
  have KIn := hYP wo _ Yp
  obtain ⟨fdat, tbs, prom, tabT, tabN, tabC, hbi, hprom, hFl⟩ := Fl wo mgl fl _ Yp KIn Gl.T.g hmg
  exact law_callG KIn Gl.T.g Gl.T.b Gl.T.builtins Gl.T.nolimit hgens tabT tabN tabC Gl.T.bmain hobj intsA (Nat.le_trans hlen hmo2) hroom hFl hbi (fun Hq hH hS => hprom Hq ad nns hlen hbits hH hS) fun Hq ev sE => noEx wo Hq sB ev sE
end LamX
namespace K
open PySem L2 Rg
open Evl (pss_cut)
def top (i : Nat) : Stmt := PySem.Challenge.pw_ringbars_k35_rounds_by_one_exchange.main.body.getD i (.Pass ⟨0, 0, 0, 0⟩)
abbrev sWall : Stmt := top 0
abbrev sFixed : Stmt := top 2
abbrev sIsInteger : Stmt := top 4
abbrev sIsWithin : Stmt := top 5
abbrev sIsList : Stmt := top 6
abbrev sIsNumbers : Stmt := top 7
abbrev sIsLot : Stmt := top 8
abbrev sFirstTwice : Stmt := top 9
abbrev sTwiceAt : Stmt := top 10
abbrev sBadRingInit : Stmt := inClass (top 13) 0
abbrev sBadLotInit : Stmt := inClass (top 14) 0
abbrev sBadRoundInit : Stmt := inClass (top 15) 0
abbrev sBadCellInit : Stmt := inClass (top 16) 0
abbrev sBadNumberInit : Stmt := inClass (top 17) 0
abbrev sMissingInit : Stmt := inClass (top 18) 0
abbrev sTwiceInit : Stmt := inClass (top 20) 0
abbrev sTooLongInit : Stmt := inClass (top 21) 0
abbrev sLevelInit : Stmt := inClass (top 22) 0
abbrev sTooManyInit : Stmt := inClass (top 23) 0
abbrev sBadTextInit : Stmt := inClass (top 24) 0
abbrev sWantNumber : Stmt := top 26
abbrev sWantBar : Stmt := top 27
abbrev sWantLot : Stmt := top 28
abbrev sSortBy : Stmt := top 30
abbrev sItemsOf : Stmt := top 33
abbrev sIntegerOf : Stmt := top 34
abbrev sItemAt : Stmt := top 35
abbrev sNumberAt : Stmt := top 36
abbrev sRingInit : Stmt := inClass (top 41) 0
abbrev sRingLen : Stmt := inClass (top 41) 1
abbrev sRingEq : Stmt := inClass (top 41) 2
abbrev sRingStr : Stmt := inClass (top 41) 3
abbrev sRingLengthOf : Stmt := inClass (top 41) 4
abbrev sRingSortOf : Stmt := inClass (top 41) 5
abbrev sRingWithLength : Stmt := inClass (top 41) 6
abbrev sRingBegunAt : Stmt := inClass (top 41) 7
abbrev sRingBackwards : Stmt := inClass (top 41) 8
abbrev sRingInOrder : Stmt := inClass (top 41) 9
abbrev sRingAsOne : Stmt := inClass (top 41) 10
abbrev sRingInTwo : Stmt := inClass (top 41) 11
abbrev sRingRead : Stmt := inClass (top 41) 12
abbrev sAreLengths : Stmt := top 42
abbrev sHasLevel : Stmt := top 43
abbrev sReadRing : Stmt := top 44
abbrev sWantRing : Stmt := top 45
abbrev sLotsOf : Stmt := top 47
abbrev sLevelLots : Stmt := top 48
abbrev sTooLong : Stmt := top 49
abbrev sInOrder : Stmt := top 50
abbrev sLotsBySort : Stmt := top 51
abbrev sWantClosed : Stmt := top 52
abbrev sWantClear : Stmt := top 53
abbrev sWantNoLevel : Stmt := top 54
abbrev sMakesCell : Stmt := top 56
abbrev sWantCell : Stmt := top 57
abbrev sIsRound : Stmt := top 59
abbrev sExchanged : Stmt := top 60
abbrev sNearRounds : Stmt := top 61
abbrev sExchangedAt : Stmt := top 62
abbrev sRoundsNear : Stmt := top 63
abbrev sMakesRound : Stmt := top 64
abbrev sWantRound : Stmt := top 65
abbrev sRimOf : Stmt := top 67
abbrev sRimCells : Stmt := top 68
abbrev sWithBoth : Stmt := top 69
abbrev sLwCan : Stmt := top 71
abbrev sLwDip : Stmt := top 72
abbrev sLwTake : Stmt := top 73
abbrev sLwIsClear : Stmt := top 74
abbrev sLwLengths : Stmt := top 75
abbrev sLwIsShort : Stmt := top 76
abbrev sLwAreBars : Stmt := top 77
abbrev sLwIsRound : Stmt := top 78
abbrev sLwDrawnRound : Stmt := top 79
abbrev sLwExchanged : Stmt := top 80
abbrev sLwNear : Stmt := top 81
abbrev sLwBent : Stmt := top 82
abbrev sLwCommonRight : Stmt := top 83
abbrev sLaw : Stmt := top 84

/-- all but what stands at p is as it was -/
def But (p : Addr) (H H' : Hp) : Prop := ∀ b o, b ≠ p → H b = some o → H' b = some o
theorem But.refl (p : Addr) (H : Hp) : But p H H := fun _ _ _ h => h
theorem But.trans {p : Addr} {H H1 H2 : Hp} (a : But p H H1) (b : But p H1 H2) : But p H H2 := fun c o n h => b c o n (a c o n h)
theorem But.new {p q : Addr} {H H' : Hp} {o : HO} (a : But p H H') (n : H' q = none) : But p H (upd H' q o) := fun c u hc h => by
  have e := a c u hc h
  rw [upd_ne (ne_of_none e n)]
  exact e
theorem But.at {p : Addr} {H H' : Hp} {o : HO} (a : But p H H') : But p H (upd H' p o) := fun c u hc h => by
  rw [upd_ne hc]
  exact a c u hc h
theorem But.seq {K : PySem.W.Frag} {p a : Addr} {H H' : Hp} {xs : List V} (e : But p H H') (n : a ≠ p) (h : SqL K H a xs) : SqL K H' a xs := by
  rcases h with (h | ⟨o, h⟩) | h
  · exact .inl (.inl (e _ _ n h))
  · exact .inl (.inr ⟨o, e _ _ n h⟩)
  · exact .inr h
/-- the pen: its cells, how many were begun (at most n), what a great one has left -/
structure PenAt (K : PySem.W.Frag) (H : Hp) (p : Addr) (e : Addr × List Int) (n : Nat) : Prop where
  ex : ∃ (at' rest : Int), H p = some (.lst [.ref e.1, .int at', .int rest]) ∧ 0 ≤ at' ∧ at' ≤ n ∧ 0 ≤ rest
  sq : SqL K H e.1 (e.2.map V.int)
  np : e.1 ≠ p
  ln : e.2.length ≤ 62
theorem But.of {p : Addr} {H H' : Hp} (e : Same H H') : But p H H' := fun b o _ h => e b o h
theorem But.mut {p q : Addr} {H H' : Hp} {o : HO} (a : But p H H') (n : H q = none) : But p H (upd H' q o) := fun c u hc h => by
  have e := a c u hc h
  rw [upd_ne (ne_of_none h n)]
  exact e
theorem But.free {p q : Addr} {H H' : Hp} (a : But p H H') (hq : q ≠ p) (n : H' q = none) : H q = none := by
  cases e : H q with
  | none => rfl
  | some o =>
    rw [a q o hq e] at n
    cases n
theorem But.tup {K : PySem.W.Frag} {p a : Addr} {H H' : Hp} {xs : List V} (e : But p H H') (n : a ≠ p) (h : SqT K H a xs) : SqT K H' a xs := by
  rcases h with (h | ⟨o, h⟩) | h
  · exact .inl (.inl (e _ _ n h))
  · exact .inl (.inr ⟨o, e _ _ n h⟩)
  · exact .inr h
theorem _root_.L2.Same.new {q : Addr} {H H' : Hp} {o : HO} (a : Same H H') (n : H' q = none) : Same H (upd H' q o) := fun c u h => by
  have e := a c u h
  rw [upd_ne (ne_of_none e n)]
  exact e
theorem _root_.L2.Same.mut {q : Addr} {H H' : Hp} {o : HO} (a : Same H H') (n : H q = none) : Same H (upd H' q o) := fun c u h => by
  have e := a c u h
  rw [upd_ne (ne_of_none h n)]
  exact e
theorem _root_.L2.Same.tup {K : PySem.W.Frag} {a : Addr} {H H' : Hp} {xs : List V} (e : Same H H') (h : SqT K H a xs) : SqT K H' a xs := by
  rcases h with (h | ⟨o, h⟩) | h
  · exact .inl (.inl (e _ _ h))
  · exact .inl (.inr ⟨o, e _ _ h⟩)
  · exact .inr h
section
variable {K : PySem.W.Frag} {H H' : Hp} {p q : Addr} {e : Addr × List Int} {n m : Nat} {o : HO}
theorem PenAt.mono (h : PenAt K H p e n) (le : n ≤ m) : PenAt K H p e m := by
  obtain ⟨a, r, h1, h5, h6, h7⟩ := h.ex
  exact ⟨⟨a, r, h1, h5, by omega, h7⟩, h.sq, h.np, h.ln⟩
/-- the pen stands while all that is tracked stands -/
theorem PenAt.same (h : PenAt K H p e n) (s : Same H H') : PenAt K H' p e n := by
  obtain ⟨a, r, h1, h5, h6, h7⟩ := h.ex
  exact ⟨⟨a, r, s _ _ h1, h5, h6, h7⟩, s.seq h.sq, h.np, h.ln⟩
theorem PenAt.some (h : PenAt K H p e n) : ∃ xs, H p = some (.lst xs) := by
  obtain ⟨a, r, h1, _⟩ := h.ex
  exact ⟨_, h1⟩
theorem PenAt.ne (h : PenAt K H p e n) (z : H q = none) : q ≠ p := by
  obtain ⟨xs, h1⟩ := h.some
  exact (ne_of_none h1 z).symm
/-- the pen stands while a new thing is laid -/
theorem PenAt.put (h : PenAt K H p e n) (z : H q = none) : PenAt K (upd H q o) p e n := h.same (Same.new (Same.refl H) z)
/-- .. while a thing is written that was not there ahead -/
theorem PenAt.mut (h : PenAt K H p e m) (h2 : PenAt K H' p e n) (b : But p H H') (z : H q = none) : PenAt K (upd H' q o) p e n := by
  obtain ⟨a, r, h1, h5, h6, h7⟩ := h2.ex
  exact ⟨⟨a, r, by rw [upd_ne (h.ne z).symm]; exact h1, h5, h6, h7⟩, (b.mut z).seq h.np h.sq, h.np, h.ln⟩
end
/-- the built-ins that the text names -/
structure Bi (mg : Str → Option Value) : Prop where
  int : mg "int" = none
  len : mg "len" = none
  abs : mg "abs" = none
  list : mg "list" = none
  tuple : mg "tuple" = none
  bool : mg "bool" = none
  range : mg "range" = none
  sum : mg "sum" = none
  max : mg "max" = none
  min : mg "min" = none
  repr : mg "repr" = none
  all : mg "all" = none
  any : mg "any" = none
  sorted : mg "sorted" = none
  enumerate : mg "enumerate" = none
  isinstance : mg "isinstance" = none
section
variable {K : PySem.W.Frag}
theorem eqv_nil (l : List Int) : PyData.eqv (.list (l.map PyData.int)) (.list []) = l.isEmpty := by
  cases l <;> simp [PyData.eqv, PyData.eqvAll] <;> rfl
theorem dp_ints {H : Hp} : ∀ l : List Int, DpAll K H (l.map V.int) (l.map PyData.int)
  | [] => .nil
  | i :: l => .cons (.int i) (dp_ints l)
theorem lay_ints : ∀ l : List Int, PyData.canLayAll0 (l.map PyData.int) = true
  | [] => by simp [PyData.canLayAll0]
  | i :: l => by simp [PyData.canLayAll0, PyData.canLay0, lay_ints l]
theorem deep_ints : ∀ l : List Int, PyData.depthAll (l.map PyData.int) = 0
  | [] => by simp [PyData.depthAll]
  | i :: l => by simp [PyData.depthAll, PyData.depth, deep_ints l]
theorem shaped_ints (l : List Int) : SeqAt.shaped (.list (l.map PyData.int)) = true := by
  simp [SeqAt.shaped, PyData.canLay0, PyData.depth, lay_ints l, deep_ints l]
end
end K
namespace K
open PySem L2 Rg
open Evl (pss_cut)
def spDraw (K : PySem.W.Frag) : Sp := fun vs H Q _ => ∃ (p : Addr) (e : Addr × List Int) (many : Int) (n : Nat), vs = [.ref p, .int many] ∧ 1 ≤ many ∧ many ≤ 1000000 ∧ n < 1000000 ∧ PenAt K H p e n ∧
  ∀ (r : Int) (H' : Hp), 0 ≤ r → r < many → But p H H' → PenAt K H' p e (n + 1) → Q (.int r) H'
section
variable {P : Program} {w : World} {K : PySem.W.Frag} {mg : Str → Option Value} {base : Heap}
abbrev nDraw : List Str := ["_law_can_here", "_law_many", "_law_rest", "_law_turn", "_law_cell", "_law_mixed"]
theorem scDraw : FnScope nDraw ["_law_can_here", "_law_many"] (defScope sLwDip) := ⟨rfl, rfl, rfl, by decide +kernel, rfl, by decide +kernel, by decide +kernel⟩
theorem ok_draw {f : Addr} {fd : FuncData} (F : Fun K "_law_dip" "_law_dip" sLwDip f fd) (T : Bi mg) : FnOk P w K mg base CX0 2 f fd ["_law_can_here", "_law_many"] (spDraw K) := by
  refine F.ok scDraw (fun vs H Q E h => ?_) (fun cdv A outer s H vs Q E hr h => ?_)
  · obtain ⟨p, e, many, n, rfl, _⟩ := h
    rfl
  · have nd := scDraw.nd
    refine ⟨_, (pss_cons (ps_if (pt_cmpR op_gt (pe_ix ix_list (pv 0) pe_int (fun _ _ => rfl)) pe_int (nomark _)) (pss_cons (ps_set (i := 2) nd rfl (Or.inl rfl) (pe_ix ix_list (pv 0) pe_int (fun _ _ => rfl)))
      (pss_cons (ps_asg (pe_op op_fdiv (pe_callTy call_int1 (by rfl) T.int (by decide +kernel) (pa_cons (pv 2) pa_nil)) (pv 1)) (pg_sub (pv 0) pe_int set_list))
      (pss_one (ps_ret (pe_op op_mod (pe_callTy call_int1 (by rfl) T.int (by decide +kernel) (pa_cons (pv 2) pa_nil)) (pv 1)))))) pss_nil)
      (pss_cons (ps_set (i := 3) nd rfl (Or.inl rfl) (pe_ix ix_list (pv 0) pe_int (fun _ _ => rfl)))
      (pss_cons (ps_asg (pe_op op_add (pv 3) pe_int) (pg_sub (pv 0) pe_int set_list))
      (pss_cons (ps_set (i := 4) nd rfl (Or.inl rfl) (pe_op op_add (pe_op op_mul pe_int (pv 3)) pe_int))
      (pss_cut (ps_if (pt_cmpR (op_neD hr.units) (pe_ix ix_list (pv 0) pe_int (fun _ _ => rfl)) (pe_lst pa_nil) (nomark _)) (pss_one (ps_set (i := 4) nd rfl (Or.inl rfl) (pe_ix ix_list (pe_ix ix_list (pv 0) pe_int (fun _ _ => rfl)) (pe_op op_mod (pe_callTy call_int1 (by rfl) T.int (by decide +kernel) (pa_cons (pv 3) pa_nil)) (pe_callB call_len_seq (by rfl) T.len PySem.boot_len (pa_cons (pe_ix ix_list (pv 0) pe_int (fun _ _ => rfl)) pa_nil))) (fun _ _ => rfl)))) pss_nil)
      (pss_cut (ps_if (PW.pt (pw_and (pt_cmpR op_lt (pv 3) (pe_callB call_len_seq (by rfl) T.len PySem.boot_len (pa_cons (pe_ix ix_list (pv 0) pe_int (fun _ _ => rfl)) pa_nil)) (nomark _)) (pw_and1 (pt_cmpR op_ge (pe_callB call_abs (by rfl) T.abs (by decide +kernel) (pa_cons (pv 4) pa_nil)) (pe_op op_pow pe_int pe_int) (nomark _))))) (pss_cons (ps_set (i := 2) nd rfl (Or.inl rfl) (pe_op op_add (pe_op op_mul pe_int (pe_op op_sub (pe_callB call_abs (by rfl) T.abs (by decide +kernel) (pa_cons (pv 4) pa_nil)) (pe_op op_pow pe_int pe_int))) (pe_callTy call_int1 (by rfl) T.int (by decide +kernel) (pa_cons (pe_cmpR op_lt (pv 4) pe_int (nomark _)) pa_nil))))
      (pss_cons (ps_asg (pe_op op_fdiv (pe_callTy call_int1 (by rfl) T.int (by decide +kernel) (pa_cons (pv 2) pa_nil)) (pv 1)) (pg_sub (pv 0) pe_int set_list))
      (pss_one (ps_ret (pe_op op_mod (pe_callTy call_int1 (by rfl) T.int (by decide +kernel) (pa_cons (pv 2) pa_nil)) (pv 1)))))) pss_nil)
      (pss_cut (ps_set (i := 5) nd rfl (Or.inl rfl) (pe_op op_mod (pe_callTy call_int1 (by rfl) T.int (by decide +kernel) (pa_cons (pe_op op_pow (pe_op op_add (pe_op op_add (pe_op op_mod (pe_callTy call_int1 (by rfl) T.int (by decide +kernel) (pa_cons (pv 4) pa_nil)) pe_int) (pe_op op_mul pe_int (pv 3))) pe_int) pe_int) pa_nil)) pe_int))
      (pss_cons (ps_set (i := 5) nd rfl (Or.inl rfl) (pe_op op_mod (pe_callTy call_int1 (by rfl) T.int (by decide +kernel) (pa_cons (pe_op op_pow (pe_op op_add (pe_op op_add (pe_op op_mul (pv 5) (pe_op op_add (pe_op op_mul pe_int (pv 3)) pe_int)) (pe_op op_mul (pe_op op_mul pe_int (pv 3)) (pv 3))) pe_int) pe_int) pa_nil)) pe_int))
      (pss_one (ps_ret (pe_op op_mod (pe_callTy call_int1 (by rfl) T.int (by decide +kernel) (pa_cons (pe_op op_fdiv (pv 5) pe_int) pa_nil)) (pv 1)))))))))))), ?_⟩
    obtain ⟨p, ⟨c, cells⟩, many, n, rfl, m1, m2, hn, ⟨⟨at0, rest, hp, a0, a1, r0⟩, hc, hcp, hcl⟩, k⟩ := h
    dsimp only at hp hc hcp hcl
    have mp : (0 : Int) < many := by omega
    have md : (0 : Int) < many ∧ many < 1073741824 := ⟨mp, by omega⟩
    refine ⟨_, rfl, p, _, _, _, rfl, rfl, SqL.of hp, atI_nat (j := 2) rfl, _, _, rfl, rfl, _, rfl, ?_⟩
    refine ite2 (fun hg => ?_) (fun hg => ?_)
    · have g0 : rest > 0 := of_decide_eq_true hg
      refine ⟨_, rfl, p, _, _, _, rfl, rfl, SqL.of hp, atI_nat (j := 2) rfl, ?_⟩
      refine ⟨_, rfl, .inl ⟨_, rfl, _, rfl, _, _, rfl, rfl, md, _, rfl, p, _, _, 2, rfl, rfl, hp, rfl, ?_⟩⟩
      refine ⟨_, rfl, .inl ⟨_, rfl, _, rfl, _, _, rfl, rfl, mp, ?_⟩⟩
      have b1 : But p H (upd H p (.lst [.ref c, .int at0, .int (rest / many)])) := (But.refl p H).at
      exact k _ _ (Int.emod_nonneg _ (by omega)) (Int.emod_lt_of_pos _ mp) b1 ⟨⟨at0, rest / many, upd_same, a0, by omega, Int.ediv_nonneg r0 (by omega)⟩, b1.seq hcp hc, hcp, hcl⟩
    · refine ⟨_, rfl, p, _, _, _, rfl, rfl, SqL.of hp, atI_nat (j := 1) rfl, ?_⟩
      refine ⟨_, rfl, _, _, rfl, rfl, _, rfl, p, _, _, 1, rfl, rfl, hp, rfl, ?_⟩
      have h1 : upd H p (.lst [.ref c, .int (at0 + 1), .int rest]) p = some (.lst [.ref c, .int (at0 + 1), .int rest]) := upd_same
      have b1 : But p H (upd H p (.lst [.ref c, .int (at0 + 1), .int rest])) := (But.refl p H).at
      refine ⟨_, rfl, _, _, rfl, rfl, .inl ⟨by decide, by decide⟩, _, _, rfl, rfl, ?_⟩
      refine ⟨fun σ' H' => ∃ cell : Int, σ' = [some (.ref p), some (.int many), none, some (.int at0), some (.int cell), none] ∧ But p H H' ∧ H' p = some (.lst [.ref c, .int (at0 + 1), .int rest]), ?_, ?_⟩
      · refine ⟨_, rfl, p, _, _, _, rfl, rfl, SqL.of h1, atI_nat (j := 0) rfl, (by decide), fun q hq => ?_⟩
        have hqp : p ≠ q := ne_of_none h1 hq
        have b2 : But p H (upd (upd H p (.lst [.ref c, .int (at0 + 1), .int rest])) q (.lst [])) := b1.new hq
        have h2 : upd (upd H p (.lst [.ref c, .int (at0 + 1), .int rest])) q (.lst []) p = some (.lst [.ref c, .int (at0 + 1), .int rest]) := by rw [upd_ne hqp]; exact h1
        refine ⟨_, _, .lst (b2.seq hcp hc) (dp_ints cells), .lst (SqL.of upd_same) .nil, shaped_ints _, rfl, _, rfl, ?_⟩
        rw [eqv_nil]
        cases e : cells.isEmpty with
        | true =>
          refine iteF ?_
          exact ⟨_, rfl, b2, h2⟩
        | false =>
          have hl : 0 < cells.length := by
            cases cells with
            | nil => cases e
            | cons z zs => simp
          refine iteT ?_
          have hlt : (at0 % (cells.length : Int)).toNat < cells.length := by
            have := Int.emod_lt_of_pos at0 (show (0 : Int) < cells.length by omega)
            have := Int.emod_nonneg at0 (show (cells.length : Int) ≠ 0 by omega)
            omega
          have hix : (cells.map V.int)[(at0 % (cells.length : Int)).toNat]? = some (V.int (cells[(at0 % (cells.length : Int)).toNat])) := by
            rw [List.getElem?_map, List.getElem?_eq_getElem hlt]
            rfl
          refine ⟨_, rfl, p, _, _, _, rfl, rfl, SqL.of h2, atI_nat (j := 0) rfl, _, rfl, .inl ⟨_, rfl, _, rfl, p, _, _, _, rfl, rfl, SqL.of h2, atI_nat (j := 0) rfl, c, _, rfl, .inl (b2.seq hcp hc), ?_⟩⟩
          rw [List.length_map]
          refine ⟨_, _, rfl, rfl, (by omega), c, _, _, _, rfl, rfl, b2.seq hcp hc, at_of (j := (at0 % (cells.length : Int)).toNat) (by
            have := Int.emod_nonneg at0 (show (cells.length : Int) ≠ 0 by omega)
            omega) hix, ?_⟩
          exact ⟨_, rfl, b2, h2⟩
      · rintro σ' H' ⟨cell, rfl, b2, h2⟩
        have pw : CPow 10 18 := ⟨by decide, by decide, by decide⟩
        refine ⟨fun σ' H'' => σ' = [some (.ref p), some (.int many), none, some (.int at0), some (.int cell), none] ∧ But p H H'' ∧ H'' p = some (.lst [.ref c, .int (at0 + 1), .int rest]), ?_, ?_⟩
        · refine ⟨_, rfl, _, rfl, p, _, _, _, rfl, rfl, SqL.of h2, atI_nat (j := 0) rfl, c, _, rfl, .inl (b2.seq hcp hc), _, _, rfl, rfl, _, rfl, ?_⟩
          refine ite2 (fun _ => ?_) (fun _ => iteF ?_)
          · refine ⟨_, rfl, _, rfl, _, _, rfl, rfl, pw, _, _, rfl, rfl, _, rfl, ?_⟩
            refine ite2 (fun hge => ?_) (fun _ => ?_)
            · have ge := of_decide_eq_true hge
              have ge2 : (10 : Int) ^ (18 : Int).toNat ≤ if cell < 0 then -cell else cell := ge
              have gr0 : 0 ≤ (2 * ((if cell < 0 then -cell else cell) - (10 : Int) ^ (18 : Int).toNat) + (if decide (cell < 0) = true then 1 else 0) : Int) := by
                split <;> omega
              refine ⟨_, rfl, _, rfl, _, _, rfl, rfl, pw, _, _, rfl, rfl, _, _, rfl, rfl, .inl ⟨by decide, by decide⟩, _, rfl, _, _, rfl, rfl, .inr ⟨_, rfl, _, _, rfl, rfl, ?_⟩⟩
              refine ⟨_, rfl, .inl ⟨_, rfl, _, rfl, _, _, rfl, rfl, md, _, rfl, p, _, _, 2, rfl, rfl, h2, rfl, ?_⟩⟩
              refine ⟨_, rfl, .inl ⟨_, rfl, _, rfl, _, _, rfl, rfl, mp, ?_⟩⟩
              exact k _ _ (Int.emod_nonneg _ (by omega)) (Int.emod_lt_of_pos _ mp) b2.at ⟨⟨at0 + 1, _, upd_same, by omega, by omega, Int.ediv_nonneg gr0 (by omega)⟩, (b2.at).seq hcp hc, hcp, hcl⟩
            · exact ⟨rfl, b2, h2⟩
          · exact ⟨rfl, b2, h2⟩
        · rintro σ'' H'' ⟨rfl, b3, h3⟩
          refine ⟨fun σ' H4 => ∃ x : Int, 0 ≤ x ∧ x < 2147483549 ∧ σ' = [some (.ref p), some (.int many), none, some (.int at0), some (.int cell), some (.int x)] ∧ H4 = H'', ?_, ?_⟩
          · have q0 := Int.emod_nonneg cell (show (2147483579 : Int) ≠ 0 by decide)
            have q1 := Int.emod_lt_of_pos cell (show (0 : Int) < 2147483579 by decide)
            have pw5 : CPow (cell % 2147483579 + 64033 * at0 + 4021) 5 := ⟨by decide, by decide, by omega⟩
            refine ⟨_, rfl, .inl ⟨_, rfl, _, _, rfl, rfl, (by show (0 : Int) < 2147483579; decide), _, rfl, _, _, rfl, rfl, .inl ⟨by decide, by decide⟩, _, _, rfl, rfl, _, _, rfl, rfl, _, _, rfl, rfl, pw5, .inl ⟨_, rfl, _, _, rfl, rfl, (by show (0 : Int) < 2147483549; decide), ?_⟩⟩⟩
            exact ⟨_, Int.emod_nonneg _ (by decide), Int.emod_lt_of_pos _ (by decide), rfl, rfl⟩
          · rintro σ' H4 ⟨x, x0, x1, rfl, rfl⟩
            have e1 : x * (2 * at0 + 3037) ≤ 2147483549 * 2003037 := Int.mul_le_mul (by omega) (by omega) (by omega) (by decide)
            have e2 : 0 ≤ x * (2 * at0 + 3037) := Int.mul_nonneg x0 (by omega)
            have e3 : 55051 * at0 * at0 ≤ 55051000000 * 1000000 := Int.mul_le_mul (by omega) (by omega) a0 (by decide)
            have e4 : 0 ≤ 55051 * at0 * at0 := Int.mul_nonneg (by omega) a0
            have pw3 : CPow (x * (2 * at0 + 3037) + 55051 * at0 * at0 + 64033) 3 := ⟨by decide, by decide, by omega⟩
            refine ⟨_, rfl, _, rfl, _, _, rfl, rfl, .inl ⟨by decide, by decide⟩, _, _, rfl, rfl, _, _, rfl, rfl, .inl ⟨by omega, by omega⟩, _, rfl, _, _, rfl, rfl, .inl ⟨by decide, by decide⟩, _, rfl, _, _, rfl, rfl, .inr ⟨by omega, by omega⟩, _, _, rfl, rfl, _, _, rfl, rfl, _, _, rfl, rfl, pw3, .inl ⟨_, rfl, _, _, rfl, rfl, (by show (0 : Int) < 2147483563; decide), ?_⟩⟩
            refine ⟨_, rfl, _, _, rfl, rfl, ⟨by decide, by decide⟩, .inl ⟨_, rfl, _, rfl, _, _, rfl, rfl, mp, ?_⟩⟩
            exact k _ _ (Int.emod_nonneg _ (by omega)) (Int.emod_lt_of_pos _ mp) b3 ⟨⟨at0 + 1, rest, h3, by omega, by omega, r0⟩, b3.seq hcp hc, hcp, hcl⟩
end
end K
namespace K
open PySem L2 Rg
open Evl (pss_cut)
theorem int_at {l : List Int} {i : Nat} {v : V} (h : (l.map V.int)[i]? = some v) : ∃ z, l[i]? = some z ∧ v = .int z := by
  rw [List.getElem?_map] at h
  cases e : l[i]? with
  | none => rw [e] at h; cases h
  | some z => rw [e] at h; exact ⟨z, rfl, (Option.some.inj h).symm⟩
theorem take_snoc {α : Type} {l : List α} {i : Nat} {z : α} (h : l[i]? = some z) : l.take i ++ [z] = l.take (i + 1) := by
  rw [List.take_succ, h]; rfl
theorem sz {n : Nat} (h : n ≤ 100000) : n ≤ sizeLine := Nat.le_trans h (by decide)
theorem szl {n : Nat} (h : n < 100000) : n < sizeLine := Nat.lt_of_lt_of_le h (by decide)
theorem cutV_to (xs : List V) (k : Nat) : cutV xs none (some (k : Int)) = xs.take k := by
  unfold cutV
  rw [HT.sIx_none, HT.sIx_nat, List.drop_zero, Nat.sub_zero]
  rcases Nat.le_total k xs.length with h | h
  · rw [Nat.min_eq_left h]
  · rw [Nat.min_eq_right h, List.take_length, List.take_of_length_le h]
section
variable {P : Program} {w : World} {K : PySem.W.Frag} {mg : Str → Option Value} {base : Heap}
/-! ### the pen -/
def spPen (K : PySem.W.Frag) : Sp := fun vs H Q _ => ∃ (a : Addr) (ns : List Int), vs = [.ref a] ∧ SqL K H a (ns.map V.int) ∧ ns.length ≤ 63 ∧
  ∀ (p : Addr) (e : Addr × List Int) (H' : Hp), Same H H' → H p = none → PenAt K H' p e 0 → Q (.ref p) H'
abbrev nPen : List Str := ["_law_script", "_law_cell"]
theorem scPen : FnScope nPen ["_law_script"] (defScope sLwCan) := ⟨rfl, rfl, rfl, by decide +kernel, rfl, by decide +kernel, by decide +kernel⟩
theorem ok_pen {f : Addr} {fd : FuncData} (F : Fun K "_law_can" "_law_can" sLwCan f fd) (T : Bi mg) : FnOk P w K mg base CX0 2 f fd ["_law_script"] (spPen K) := by
  refine F.ok scPen (fun vs H Q E h => ?_) (fun cdv A outer s H vs Q E hr h => ?_)
  · obtain ⟨a, ns, rfl, _⟩ := h
    rfl
  · have nd := scPen.nd
    refine ⟨_, pss_one (ps_ret (pe_lst (pa_cons (pe_lc (own := [("_law_cell", 1)]) (g := gName 1) (tt := tYes) rfl nd (pi_list (pe_slice sl_list (pv 0) po_none (po_some pe_int)))
      (blkOk_by (N := nPen) (sc := defScope sLwCan) (by decide +kernel)) (fun _ _ _ _ _ => pg_name (i := 1) nd rfl (Or.inl rfl)) (fun _ _ _ _ _ => pts_nil)
      (fun _ _ _ _ _ => pe_callTy call_int1 (by rfl) T.int (by decide +kernel) (pa_cons (pv 1) pa_nil))) (pa_cons pe_int (pa_cons pe_int pa_nil))))), ?_⟩
    obtain ⟨a, ns, rfl, hS, hl, k⟩ := h
    refine ⟨_, rfl, _, rfl, a, _, rfl, hS, fun q hq => ?_⟩
    have e0 : cutV (ns.map V.int) none (some 61) = (ns.take 61).map V.int := by
      rw [show (61 : Int) = ((61 : Nat) : Int) from rfl, cutV_to, List.map_take]
    rw [e0]
    refine ⟨q, rfl, ⟨_, SqL.of upd_same⟩, fun D hD => ?_⟩
    have hqD : q ≠ D := ne_of_none upd_same hD
    have sD : Same (upd H q (.lst ((ns.take 61).map V.int))) (upd (upd H q (.lst ((ns.take 61).map V.int))) D (.lst [])) := (Same.refl _).new hD
    refine lc_list (K := K) (a := q) (xs := (ns.take 61).map V.int) (fun i H' => Same (upd H q (.lst ((ns.take 61).map V.int))) H' ∧ H' D = some (.lst (((ns.take 61).take i).map V.int)))
      ⟨sD, upd_same⟩ (fun i H' _ p => p.1.seq (SqL.of upd_same)) ?_ ?_
    · rintro i x H' hi ⟨s1, h1⟩
      obtain ⟨z, hz, rfl⟩ := int_at hi
      refine ⟨rfl, _, rfl, .inl ⟨_, rfl, _, h1, szl (by rw [List.length_map, List.length_take, List.length_take]; omega), s1.mut hD, ?_⟩⟩
      rw [← take_snoc hz, List.map_append]
      exact upd_same
    · rintro H' ⟨s1, h1⟩
      rw [List.length_map, List.take_length] at h1
      refine ⟨(by show 3 ≤ sizeLine; decide), fun p hp => ?_⟩
      have nD : H D = none := by
        rw [upd_ne hqD.symm] at hD
        exact hD
      have s2 : Same H H' := fun b o e => s1 b o (by rw [upd_ne (ne_of_none e hq)]; exact e)
      refine k p (D, ns.take 61) _ (s2.new hp) (s2.free hp) ⟨⟨0, 0, upd_same, by decide, by decide, by decide⟩, SqL.of (by rw [upd_ne (ne_of_none h1 hp)]; exact h1), ne_of_none h1 hp, by rw [List.length_take]; omega⟩
end
end K
namespace K
open PySem L2 Rg
open Evl (pss_cut)
section
variable {P : Program} {w : World} {K : PySem.W.Frag} {mg : Str → Option Value} {base : Heap}
/-! ### one of some things -/
def spPick (K : PySem.W.Frag) : Sp := fun vs H Q _ => ∃ (p l : Addr) (e : Addr × List Int) (xs : List V) (n : Nat), vs = [.ref p, .ref l] ∧ SqL K H l xs ∧ l ≠ p ∧ 1 ≤ xs.length ∧ xs.length ≤ 1000 ∧ n < 1000000 ∧ PenAt K H p e n ∧
  ∀ (i : Nat) (v : V) (H' : Hp), xs[i]? = some v → But p H H' → PenAt K H' p e (n + 1) → Q v H'
abbrev nPick : List Str := ["_law_can_here", "_law_some"]
theorem scPick : FnScope nPick ["_law_can_here", "_law_some"] (defScope sLwTake) := ⟨rfl, rfl, rfl, by decide +kernel, rfl, by decide +kernel, by decide +kernel⟩
/-- the draw as a def called by its name -/
structure DrawAt (P : Program) (w : World) (K : PySem.W.Frag) (mg : Str → Option Value) (base : Heap) (f : Addr) (fd : FuncData) : Prop where
  ok : FnOk P w K mg base CX0 2 f fd ["_law_can_here", "_law_many"] (spDraw K)
  g : mg "_law_dip" = some (.ref f)
  kp : PySem.W.keepIn K (.ref f) = true
  b : Binds K fd ["_law_can_here", "_law_many"] []
theorem ok_pick {f fD : Addr} {fd fdD : FuncData} (F : Fun K "_law_take" "_law_take" sLwTake f fd) (T : Bi mg) (D : DrawAt P w K mg base fD fdD) : FnOk P w K mg base CX0 3 f fd ["_law_can_here", "_law_some"] (spPick K) := by
  refine F.ok scPick (fun vs H Q E h => ?_) (fun cdv A outer s H vs Q E hr h => ?_)
  · obtain ⟨p, l, e, xs, n, rfl, _⟩ := h
    rfl
  · have nd := scPick.nd
    refine ⟨_, pss_one (ps_ret (pe_ix ix_list (pv 1) (pe_call D.ok hr rfl D.g D.kp D.b .nil pass0 (pa_cons (pv 0) (pa_cons (pe_callB call_len_seq (by rfl) T.len PySem.boot_len (pa_cons (pv 1) pa_nil)) pa_nil))) (fun _ _ => rfl))), ?_⟩
    obtain ⟨p, l, e, xs, n, rfl, hl, hlp, l1, l2, hn, pen, k⟩ := h
    refine ⟨_, rfl, _, rfl, _, rfl, l, xs, rfl, .inl hl, p, e, _, n, rfl, by omega, by omega, hn, pen, fun r H' r0 r1 b pen' => ?_⟩
    have hr : r.toNat < xs.length := by omega
    exact ⟨l, xs, r, _, rfl, rfl, b.seq hlp hl, at_of (j := r.toNat) (by omega) (List.getElem?_eq_getElem hr), k _ _ _ (List.getElem?_eq_getElem hr) b pen'⟩
theorem perm_take {l d : List V} {i : Nat} {x : V} (h : l[i]? = some x) : (d ++ [x] ++ l.eraseIdx i).Perm (d ++ l) := by
  obtain ⟨hi, rfl⟩ := List.getElem?_eq_some_iff.mp h
  rw [List.append_assoc]
  refine List.Perm.append_left d ?_
  rw [List.eraseIdx_eq_take_drop_succ]
  have e : l = l.take i ++ l[i] :: l.drop (i + 1) := by
    rw [List.getElem_cons_drop, List.take_append_drop]
  calc [l[i]] ++ (l.take i ++ l.drop (i + 1)) = l[i] :: (l.take i ++ l.drop (i + 1)) := rfl
    _ |>.Perm (l.take i ++ l[i] :: l.drop (i + 1)) := List.perm_middle.symm
    _ |>.Perm l := by rw [← e]
end
end K
namespace K
open PySem L2 Rg
open Evl (pss_cut)
/-- each from 1 to m -/
def Bd (m : Int) (ls : List Int) : Prop := ∀ x ∈ ls, 1 ≤ x ∧ x ≤ m
theorem Bd.snoc {m x : Int} {ls : List Int} (h : Bd m ls) (h1 : 1 ≤ x) (h2 : x ≤ m) : Bd m (ls ++ [x]) := fun y hy => by
  rcases List.mem_append.mp hy with z | z
  · exact h y z
  · rw [List.mem_singleton.mp z]
    exact ⟨h1, h2⟩
theorem Bd.le {m k : Int} {ls : List Int} (h : Bd m ls) (hk : m ≤ k) : Bd k ls := fun x hx => ⟨(h x hx).1, by have := (h x hx).2; omega⟩
theorem Bd.set {m x : Int} {ls : List Int} {i : Nat} (h : Bd m ls) (h1 : 1 ≤ x) (h2 : x ≤ m) : Bd m (ls.set i x) := fun y hy => by
  rcases List.mem_or_eq_of_mem_set hy with z | z
  · exact h y z
  · rw [z]; exact ⟨h1, h2⟩
theorem Bd.sum {m : Int} : ∀ {ls : List Int}, Bd m ls → (ls.length : Int) ≤ ls.sum ∧ ls.sum ≤ m * ls.length
  | [], _ => by simp
  | x :: ls, h => by
    have ih := Bd.sum (m := m) (ls := ls) fun y hy => h y (List.mem_cons_of_mem _ hy)
    have hx := h x (List.mem_cons_self ..)
    rw [List.sum_cons, List.length_cons]
    have e : m * ((ls.length + 1 : Nat) : Int) = m * ls.length + m := by push_cast; rw [Int.mul_add, Int.mul_one]
    rw [e]
    push_cast
    omega
theorem ixN_at {n : Nat} {r : Int} (h0 : 0 ≤ r) (h1 : r < n) : ixN n r = some r.toNat := by
  unfold ixN
  rw [if_pos h0, if_pos h1]
theorem int_get {ls : List Int} {i : Nat} (h : i < ls.length) : (ls.map V.int)[i]? = some (V.int ls[i]) := by
  rw [List.getElem?_map, List.getElem?_eq_getElem h]; rfl
theorem set_map (ls : List Int) (i : Nat) (x : Int) : (ls.map V.int).set i (V.int x) = (ls.set i x).map V.int := by
  rw [List.map_set]
theorem erase_sum : ∀ {ls : List Int} {i : Nat} (h : i < ls.length), (ls.eraseIdx i).sum = ls.sum - ls[i]
  | x :: ls, 0, h => by simp [List.sum_cons]; omega
  | x :: ls, i + 1, h => by
    have h' : i < ls.length := by simpa using h
    have ih := erase_sum h'
    rw [List.eraseIdx_cons_succ, List.sum_cons, List.sum_cons, ih, List.getElem_cons_succ]
    omega
theorem abs_sum {m : Int} (hm : 0 ≤ m) : ∀ {ls : List Int}, (∀ x ∈ ls, -m ≤ x ∧ x ≤ m) → -(m * ls.length) ≤ ls.sum ∧ ls.sum ≤ m * ls.length
  | [], _ => by simp
  | x :: ls, h => by
    have ih := abs_sum hm (ls := ls) fun y hy => h y (List.mem_cons_of_mem _ hy)
    have hx := h x (List.mem_cons_self ..)
    have e : m * ((ls.length + 1 : Nat) : Int) = m * ls.length + m := by push_cast; rw [Int.mul_add, Int.mul_one]
    rw [List.sum_cons, List.length_cons, e]
    omega
end K
namespace K
open PySem L2 Rg
open Evl (pss_cut)
/-- the kinds that are asked for -/
def kinds : List String := ["NoneType", "bool", "int", "str", "list", "tuple", "dict"]
theorem kit_int : ∀ k ∈ kinds, kitB k "int" = some (decide (k = "int" ∨ k = "bool")) := by decide +kernel
theorem kit_bool : ∀ k ∈ kinds, kitB k "bool" = some (decide (k = "bool")) := by decide +kernel
theorem kit_list : ∀ k ∈ kinds, kitB k "list" = some (decide (k = "list")) := by decide +kernel
theorem kit_tuple : ∀ k ∈ kinds, kitB k "tuple" = some (decide (k = "tuple")) := by decide +kernel
/-- v is of the kind k -/
def Knd (K : PySem.W.Frag) (H : Hp) (v : V) (k : String) : Prop := TyX K H v (.type k) ∧ k ∈ kinds
section
variable {P : Program} {w : World} {K : PySem.W.Frag} {mg : Str → Option Value} {base : Heap}
theorem Knd.int {H : Hp} {i : Int} : Knd K H (.int i) "int" := ⟨.base (.int i), by decide⟩
theorem tyx_same {H H' : Hp} {v : V} {t : Value} (h : TyX K H v t) (s : Same H H') : TyX K H' v t := by
  cases h with
  | base h =>
    refine .base ?_
    cases h with
    | non => exact .non
    | bl x => exact .bl x
    | int x => exact .int x
    | str x => exact .str x
    | flt x => exact .flt x
    | lst e => exact .lst (s _ _ e)
    | frz e => exact .frz (s _ _ e)
    | tup e => exact .tup (s _ _ e)
    | dK e => exact .dK (s _ _ e)
    | dT e => exact .dT (s _ _ e)
    | ins e cl ha hn htk hm => exact .ins (s _ _ e) cl ha hn htk hm
  | byt b => exact .byt b
  | set e => exact .set (s _ _ e)
  | kList e c => exact .kList e c
  | kTuple e c => exact .kTuple e c
  | kDict e c => exact .kDict e c
  | fTuple e => exact .fTuple (s _ _ e)
  | fDict e => exact .fDict (s _ _ e)
theorem Knd.same {H H' : Hp} {v : V} {k : String} (h : Knd K H v k) (s : Same H H') : Knd K H' v k := ⟨tyx_same h.1 s, h.2⟩
/-! ### is_integer -/
def spIsInt (K : PySem.W.Frag) : Sp := fun vs H Q _ => ∃ (v : V) (k : String), vs = [v] ∧ Knd K H v k ∧ Q (.bl (decide (k = "int"))) H
theorem scIsInt : FnScope ["value"] ["value"] (defScope sIsInteger) := ⟨rfl, rfl, rfl, by decide +kernel, rfl, by decide +kernel, by decide +kernel⟩
theorem ok_isInt {f : Addr} {fd : FuncData} (F : Fun K "is_integer" "is_integer" sIsInteger f fd) (T : Bi mg) : FnOk P w K mg base CX0 1 f fd ["value"] (spIsInt K) := by
  refine F.ok scIsInt (fun vs H Q E h => ?_) (fun cdv A outer s H vs Q E hr h => ?_)
  · obtain ⟨v, k, rfl, _⟩ := h
    rfl
  · refine ⟨_, pss_one (ps_ret (pe_and (pe_callB call_isi (by rfl) T.isinstance (by decide +kernel) (pa_cons (pv 0) (pa_cons (pe_bltn (v := .ty "int") (u := .type "int") (by rfl) T.int (by decide +kernel) rfl) pa_nil)))
      (pe_one (pe_not (pe_callB call_isi (by rfl) T.isinstance (by decide +kernel) (pa_cons (pv 0) (pa_cons (pe_bltn (v := .ty "bool") (u := .type "bool") (by rfl) T.bool (by decide +kernel) rfl) pa_nil))))))), ?_⟩
    obtain ⟨v, k, rfl, ⟨ty, hk⟩, q⟩ := h
    refine ⟨_, rfl, v, .ty "int", _, _, _, rfl, .ty _, ty, kit_ty (kit_int k hk), _, rfl, ?_⟩
    refine ite2 (fun c => ?_) (fun c => ?_)
    · refine ⟨_, rfl, v, .ty "bool", _, _, _, rfl, .ty _, ty, kit_ty (kit_bool k hk), _, rfl, ?_⟩
      have c' : k = "int" ∨ k = "bool" := of_decide_eq_true c
      have e : (!decide (k = "bool")) = decide (k = "int") := by
        rcases c' with rfl | rfl <;> decide
      rw [e]
      exact q
    · have c' : ¬ (k = "int" ∨ k = "bool") := fun z => c (decide_eq_true z)
      have e : decide (k = "int") = false := decide_eq_false fun z => c' (.inl z)
      rw [e] at q
      exact q
/-! ### is_list -/
def spIsList (K : PySem.W.Frag) : Sp := fun vs H Q _ => ∃ (v : V) (k : String), vs = [v] ∧ Knd K H v k ∧ ∀ H', Same H H' → Q (.bl (decide (k = "list" ∨ k = "tuple"))) H'
theorem scIsList : FnScope ["value"] ["value"] (defScope sIsList) := ⟨rfl, rfl, rfl, by decide +kernel, rfl, by decide +kernel, by decide +kernel⟩
theorem ok_isList {f : Addr} {fd : FuncData} (F : Fun K "is_list" "is_list" sIsList f fd) (T : Bi mg) : FnOk P w K mg base CX0 1 f fd ["value"] (spIsList K) := by
  refine F.ok scIsList (fun vs H Q E h => ?_) (fun cdv A outer s H vs Q E hr h => ?_)
  · obtain ⟨v, k, rfl, _⟩ := h
    rfl
  · refine ⟨_, pss_one (ps_ret (pe_callB call_isiT (by rfl) T.isinstance (by decide +kernel) (pa_cons (pv 0) (pa_cons (pe_tup (pa_cons (pe_bltn (v := .ty "list") (u := .type "list") (by rfl) T.list (by decide +kernel) rfl) (pa_cons (pe_bltn (v := .ty "tuple") (u := .type "tuple") (by rfl) T.tuple (by decide +kernel) rfl) pa_nil))) pa_nil)))), ?_⟩
    obtain ⟨v, k, rfl, ⟨ty, hk⟩, q⟩ := h
    refine ⟨_, rfl, (by show 2 ≤ sizeLine; decide), fun p hp => ?_⟩
    have s1 : Same H (upd H p (.tup [.ty "list", .ty "tuple"])) := (Same.refl H).new hp
    refine ⟨v, p, [.ty "list", .ty "tuple"], _, _, decide (k = "list" ∨ k = "tuple"), rfl, upd_same, .cons (.ty _) (.cons (.ty _) .nil), tyx_same ty s1, kitAny_cons (kit_ty (kit_list k hk)) (fun e => kitAny_cons (b := decide (k = "tuple")) (r := decide (k = "list" ∨ k = "tuple")) (kit_ty (kit_tuple k hk)) (fun e' => ?_) fun e' => ?_) fun e => ?_, q _ s1⟩
    · have h1 : ¬ k = "list" := of_decide_eq_false e
      have h2 : ¬ k = "tuple" := of_decide_eq_false e'
      rw [kitAny_nil, decide_eq_false (fun z => z.elim h1 h2)]
    · exact decide_eq_true (.inr (of_decide_eq_true e'))
    · exact decide_eq_true (.inl (of_decide_eq_true e))
end
end K
namespace K
open PySem L2 Rg
open Evl (pss_cut)
theorem iteDT {c A B : Prop} [Decidable c] (hc : c) (h : A) : if decide c = true then A else B := by
  rw [if_pos (decide_eq_true hc)]; exact h
theorem iteDF {c A B : Prop} [Decidable c] (hc : ¬ c) (h : B) : if decide c = true then A else B := by
  rw [if_neg (by rw [decide_eq_false hc]; exact Bool.false_ne_true)]; exact h
theorem iteBT {c : Bool} {A B : Prop} (hc : c = true) (h : A) : if c = true then A else B := by
  rw [if_pos hc]; exact h
theorem iteBF {c : Bool} {A B : Prop} (hc : c = false) (h : B) : if c = true then A else B := by
  rw [if_neg (by rw [hc]; exact Bool.false_ne_true)]; exact h
theorem sm {n : Nat} (h : n ≤ 10000) : n < sizeLine := Nat.lt_of_le_of_lt h (by decide)
/-- a def of the text, by its name -/
structure DefAt (P : Program) (w : World) (K : PySem.W.Frag) (mg : Str → Option Value) (base : Heap) (CX : CXT) (k : Nat) (x : Str) (ps : List Str) (sp : Sp) (f : Addr) (fd : FuncData) : Prop where
  ok : FnOk P w K mg base CX k f fd ps sp
  g : mg x = some (.ref f)
  kp : PySem.W.keepIn K (.ref f) = true
  b : Binds K fd ps []
section
variable {P : Program} {w : World} {K : PySem.W.Frag} {mg : Str → Option Value} {base : Heap}
/-- two promises of one def -/
theorem fn_or {CX : CXT} {k : Nat} {f : Addr} {fd : FuncData} {ps : List Str} {sp sp' : Sp} (F : FnOk P w K mg base CX k f fd ps sp) (G : FnOk P w K mg base CX k f fd ps sp') : FnOk P w K mg base CX k f fd ps (fun vs H Q E => sp vs H Q E ∨ sp' vs H Q E) :=
  ⟨fun vs H Q E h => h.elim (F.len vs H Q E) (G.len vs H Q E), fun A outer s H args us vs Q E hr e0 hb hv h => h.elim (F.run A outer s H args us vs Q E hr e0 hb hv) (G.run A outer s H args us vs Q E hr e0 hb hv)⟩
/-! ### is_within, of ints -/
def spWithin : Sp := fun vs H Q _ => ∃ (v lo hi : Int), vs = [.int v, .int lo, .int hi] ∧ Q (.bl (decide (lo ≤ v) && decide (v ≤ hi))) H
theorem scWithin : FnScope ["value", "least", "most"] ["value", "least", "most"] (defScope sIsWithin) := ⟨rfl, rfl, rfl, by decide +kernel, rfl, by decide +kernel, by decide +kernel⟩
theorem ok_within {f fI : Addr} {fd fdI : FuncData} (F : Fun K "is_within" "is_within" sIsWithin f fd) (G : DefAt P w K mg base CX0 1 "is_integer" ["value"] (spIsInt K) fI fdI) : FnOk P w K mg base CX0 2 f fd ["value", "least", "most"] spWithin := by
  refine F.ok scWithin (fun vs H Q E h => ?_) (fun cdv A outer s H vs Q E hr h => ?_)
  · obtain ⟨v, lo, hi, rfl, _⟩ := h
    rfl
  · refine ⟨_, pss_cons (ps_if (pt_not (pt_val (pe_call G.ok hr rfl G.g G.kp G.b .nil pass0 (pa_cons (pv 0) pa_nil)))) (pss_one (ps_ret pe_bl)) pss_nil)
      (pss_one (ps_ret (pe_and (pe_or (pe_cmpR op_isN (pv 1) pe_non (nomark _)) (pe_one (pe_cmpR op_ge (pv 0) (pv 1) (nomark _)))) (pe_one (pe_or (pe_cmpR op_isN (pv 2) pe_non (nomark _)) (pe_one (pe_cmpR op_le (pv 0) (pv 2) (nomark _)))))))), ?_⟩
    obtain ⟨v, lo, hi, rfl, q⟩ := h
    refine ⟨_, rfl, V.int v, "int", rfl, Knd.int, _, rfl, iteNS rfl ?_⟩
    refine ⟨_, rfl, rfl, _, rfl, iteDF (fun z => nomatch z) ⟨_, rfl, _, rfl, _, _, rfl, rfl, _, rfl, ?_⟩⟩
    refine ite2 (fun c => ?_) (fun c => ?_)
    · have c' : lo ≤ v := of_decide_eq_true c
      refine ⟨_, rfl, rfl, _, rfl, iteDF (fun z => nomatch z) ⟨_, rfl, _, rfl, _, _, rfl, rfl, ?_⟩⟩
      rw [decide_eq_true c', Bool.true_and] at q
      exact q
    · have c' : ¬ lo ≤ v := fun z => c (decide_eq_true z)
      rw [decide_eq_false c', Bool.false_and] at q
      exact q
/-! ### is_numbers -/
abbrev nNums : List Str := ["value", "one"]
theorem scNums : FnScope nNums ["value"] (defScope sIsNumbers) := ⟨rfl, rfl, rfl, by decide +kernel, rfl, by decide +kernel, by decide +kernel⟩
/-- of what is no list or tuple | of a list | of a tuple -/
def spNumsO (K : PySem.W.Frag) : Sp := fun vs H Q _ => ∃ (v : V) (k : String), vs = [v] ∧ Knd K H v k ∧ k ≠ "list" ∧ k ≠ "tuple" ∧ ∀ H', Same H H' → Q (.bl false) H'
def spNumsL (K : PySem.W.Frag) : Sp := fun vs H Q _ => ∃ (a : Addr) (xs : List V) (kf : V → String), vs = [.ref a] ∧ Knd K H (.ref a) "list" ∧ SqL K H a xs ∧ xs.length ≤ 1000 ∧ (∀ x ∈ xs, Knd K H x (kf x)) ∧ ∀ H', Same H H' → Q (.bl (xs.all fun x => decide (kf x = "int"))) H'
def spNumsT (K : PySem.W.Frag) : Sp := fun vs H Q _ => ∃ (a : Addr) (xs : List V) (kf : V → String), vs = [.ref a] ∧ Knd K H (.ref a) "tuple" ∧ SqT K H a xs ∧ xs.length ≤ 1000 ∧ (∀ x ∈ xs, Knd K H x (kf x)) ∧ ∀ H', Same H H' → Q (.bl (xs.all fun x => decide (kf x = "int"))) H'
theorem all_map_bl (xs : List V) (g : V → Bool) : ((xs.map g).all id) = xs.all g := by
  rw [List.all_map]; rfl
theorem ok_numsO {f fI fL : Addr} {fd fdI fdL : FuncData} (F : Fun K "is_numbers" "is_numbers" sIsNumbers f fd) (T : Bi mg) (G : DefAt P w K mg base CX0 1 "is_integer" ["value"] (spIsInt K) fI fdI) (L : DefAt P w K mg base CX0 1 "is_list" ["value"] (spIsList K) fL fdL) : FnOk P w K mg base CX0 2 f fd ["value"] (spNumsO K) := by
  refine F.ok scNums (fun vs H Q E h => ?_) (fun cdv A outer s H vs Q E hr h => ?_)
  · obtain ⟨v, k, rfl, _⟩ := h
    rfl
  · refine ⟨_, pss_one (ps_ret (pe_and (pe_call L.ok hr rfl L.g L.kp L.b .nil pass0 (pa_cons (pv 0) pa_nil)) (pe_one (pe_callB (cr_all rfl) (by rfl) T.all (by decide +kernel) (pa_cons (pe_lc (own := [("one", 1)]) (g := gName 1) (tt := tYes) rfl scNums.nd (pi_list (pv 0))
      (blkOk_by (N := nNums) (sc := defScope sIsNumbers) (by decide +kernel)) (fun _ _ _ _ _ => pg_name (i := 1) scNums.nd rfl (Or.inl rfl)) (fun _ _ _ _ _ => pts_nil) (fun _ _ _ _ _ => pe_call G.ok hr rfl G.g G.kp G.b .nil pass0 (pa_cons (pv 1) pa_nil))) pa_nil))))), ?_⟩
    obtain ⟨v, k, rfl, hk, k1, k2, q⟩ := h
    exact ⟨_, rfl, v, k, rfl, hk, fun H' s1 => ⟨_, rfl, iteDF (fun z => z.elim k1 k2) (q H' s1)⟩⟩
theorem ok_numsL {f fI fL : Addr} {fd fdI fdL : FuncData} (F : Fun K "is_numbers" "is_numbers" sIsNumbers f fd) (T : Bi mg) (G : DefAt P w K mg base CX0 1 "is_integer" ["value"] (spIsInt K) fI fdI) (L : DefAt P w K mg base CX0 1 "is_list" ["value"] (spIsList K) fL fdL) : FnOk P w K mg base CX0 2 f fd ["value"] (spNumsL K) := by
  refine F.ok scNums (fun vs H Q E h => ?_) (fun cdv A outer s H vs Q E hr h => ?_)
  · obtain ⟨v, k, kf, rfl, _⟩ := h
    rfl
  · refine ⟨_, pss_one (ps_ret (pe_and (pe_call L.ok hr rfl L.g L.kp L.b .nil pass0 (pa_cons (pv 0) pa_nil)) (pe_one (pe_callB (cr_all rfl) (by rfl) T.all (by decide +kernel) (pa_cons (pe_lc (own := [("one", 1)]) (g := gName 1) (tt := tYes) rfl scNums.nd (pi_list (pv 0))
      (blkOk_by (N := nNums) (sc := defScope sIsNumbers) (by decide +kernel)) (fun _ _ _ _ _ => pg_name (i := 1) scNums.nd rfl (Or.inl rfl)) (fun _ _ _ _ _ => pts_nil) (fun _ _ _ _ _ => pe_call G.ok hr rfl G.g G.kp G.b .nil pass0 (pa_cons (pv 1) pa_nil))) pa_nil))))), ?_⟩
    obtain ⟨a, xs, kf, rfl, hk, hs, hl, hx, q⟩ := h
    refine ⟨_, rfl, _, "list", rfl, hk, fun H1 s1 => ⟨_, rfl, iteDT (.inl rfl) ?_⟩⟩
    refine ⟨_, rfl, a, rfl, ⟨_, s1.seq hs⟩, fun D hD => ?_⟩
    have hD0 := s1.free hD
    refine lc_list (K := K) (a := a) (xs := xs) (fun i H' => Same H H' ∧ H' D = some (.lst ((xs.take i).map fun x => V.bl (decide (kf x = "int"))))) ⟨s1.new hD, upd_same⟩ (fun i H' _ p => p.1.seq hs) ?_ ?_
    · rintro i x H' hi ⟨s2, h2⟩
      refine ⟨rfl, _, rfl, x, kf x, rfl, (hx x (List.mem_of_getElem? hi)).same s2, _, h2, (by rw [List.length_map, List.length_take]; exact sm (by omega)), s2.mut hD0, ?_⟩
      rw [upd_same, List.take_succ, hi, List.map_append]
      rfl
    · rintro H' ⟨s2, h2⟩
      rw [List.take_length] at h2
      refine ⟨D, xs.map fun x => decide (kf x = "int"), rfl, SqL.of (by rw [List.map_map]; exact h2), ?_⟩
      rw [all_map_bl]
      exact q H' s2
theorem ok_numsT {f fI fL : Addr} {fd fdI fdL : FuncData} (F : Fun K "is_numbers" "is_numbers" sIsNumbers f fd) (T : Bi mg) (G : DefAt P w K mg base CX0 1 "is_integer" ["value"] (spIsInt K) fI fdI) (L : DefAt P w K mg base CX0 1 "is_list" ["value"] (spIsList K) fL fdL) : FnOk P w K mg base CX0 2 f fd ["value"] (spNumsT K) := by
  refine F.ok scNums (fun vs H Q E h => ?_) (fun cdv A outer s H vs Q E hr h => ?_)
  · obtain ⟨v, k, kf, rfl, _⟩ := h
    rfl
  · refine ⟨_, pss_one (ps_ret (pe_and (pe_call L.ok hr rfl L.g L.kp L.b .nil pass0 (pa_cons (pv 0) pa_nil)) (pe_one (pe_callB (cr_all rfl) (by rfl) T.all (by decide +kernel) (pa_cons (pe_lc (own := [("one", 1)]) (g := gName 1) (tt := tYes) rfl scNums.nd (pi_tup (pv 0))
      (blkOk_by (N := nNums) (sc := defScope sIsNumbers) (by decide +kernel)) (fun _ _ _ _ _ => pg_name (i := 1) scNums.nd rfl (Or.inl rfl)) (fun _ _ _ _ _ => pts_nil) (fun _ _ _ _ _ => pe_call G.ok hr rfl G.g G.kp G.b .nil pass0 (pa_cons (pv 1) pa_nil))) pa_nil))))), ?_⟩
    obtain ⟨a, xs, kf, rfl, hk, hs, hl, hx, q⟩ := h
    refine ⟨_, rfl, _, "tuple", rfl, hk, fun H1 s1 => ⟨_, rfl, iteDT (.inr rfl) ?_⟩⟩
    refine ⟨_, rfl, a, rfl, ⟨_, s1.tup hs⟩, fun D hD => ?_⟩
    have hD0 := s1.free hD
    refine lc_tup (K := K) (a := a) (xs := xs) (fun i H' => Same H H' ∧ H' D = some (.lst ((xs.take i).map fun x => V.bl (decide (kf x = "int"))))) ⟨s1.new hD, upd_same⟩ (fun i H' _ p => p.1.tup hs) ?_ ?_
    · rintro i x H' hi ⟨s2, h2⟩
      refine ⟨rfl, _, rfl, x, kf x, rfl, (hx x (List.mem_of_getElem? hi)).same s2, _, h2, (by rw [List.length_map, List.length_take]; exact sm (by omega)), s2.mut hD0, ?_⟩
      rw [upd_same, List.take_succ, hi, List.map_append]
      rfl
    · rintro H' ⟨s2, h2⟩
      rw [List.take_length] at h2
      refine ⟨D, xs.map fun x => decide (kf x = "int"), rfl, SqL.of (by rw [List.map_map]; exact h2), ?_⟩
      rw [all_map_bl]
      exact q H' s2
end
end K
namespace K
open PySem L2 Rg
open Evl (pss_cut)
/-- the first that stands twice, behind those seen -/
def ft : List Int → List Int → Option Int
  | _, [] => none
  | seen, x :: xs => if x ∈ seen then some x else ft (seen ++ [x]) xs
def oV : Option Int → V
  | none => .non
  | some x => .int x
def seenK (l : List Int) : List (Key × V) := l.map fun k => (Sum.inl k, V.bl true)
theorem seen_val (l : List Int) (n : Int) : valV (seenK l) (Sum.inl n : Key) = if n ∈ l then some (.bl true) else none := by
  induction l with
  | nil => rfl
  | cons x l ih =>
    by_cases e : x = n
    · rw [if_pos (by rw [e]; exact List.mem_cons_self ..)]
      exact valV_pos (p := ((Sum.inl x : Key), V.bl true)) (by rw [e])
    · have h1 : valV (seenK (x :: l)) (Sum.inl n : Key) = valV (seenK l) (Sum.inl n) := valV_neg (p := ((Sum.inl x : Key), V.bl true)) (fun z => e (Sum.inl.inj z))
      rw [h1, ih]
      by_cases f : n ∈ l
      · rw [if_pos f, if_pos (List.mem_cons_of_mem _ f)]
      · rw [if_neg f, if_neg fun z => (List.mem_cons.mp z).elim (fun q => e q.symm) f]
theorem seen_len (l : List Int) : (seenK l).length = l.length := List.length_map ..
theorem seen_put {l : List Int} {n : Int} (h : n ∉ l) : putK (seenK l) (Sum.inl n : Key) (.bl true) = seenK (l ++ [n]) := by
  rw [putK_new _ (by rw [seen_val, if_neg h])]
  simp [seenK]
theorem ft_step {ns : List Int} {i : Nat} {z : Int} (h : ns[i]? = some z) : ft (ns.take i) (ns.drop i) = if z ∈ ns.take i then some z else ft (ns.take (i + 1)) (ns.drop (i + 1)) := by
  obtain ⟨hi, rfl⟩ := List.getElem?_eq_some_iff.mp h
  rw [List.drop_eq_getElem_cons hi, ← take_snoc h]
  rfl
section
variable {P : Program} {w : World} {K : PySem.W.Frag} {mg : Str → Option Value} {base : Heap}
/-! ### fixed, of an int -/
def spFixed : Sp := fun vs H Q _ => ∃ i : Int, vs = [.int i] ∧ ∀ H', Same H H' → Q (.int i) H'
theorem scFixed : FnScope ["value"] ["value"] (defScope sFixed) := ⟨rfl, rfl, rfl, by decide +kernel, rfl, by decide +kernel, by decide +kernel⟩
theorem ok_fixed {f : Addr} {fd : FuncData} (F : Fun K "fixed" "fixed" sFixed f fd) (T : Bi mg) : FnOk P w K mg base CX0 1 f fd ["value"] spFixed := by
  refine F.ok scFixed (fun vs H Q E h => ?_) (fun cdv A outer s H vs Q E hr h => ?_)
  · obtain ⟨v, rfl, _⟩ := h
    rfl
  · refine ⟨_, pss_cons (ps_if (pt_val (pe_callB call_isiT (by rfl) T.isinstance (by decide +kernel) (pa_cons (pv 0) (pa_cons (pe_tup (pa_cons (pe_bltn (v := .ty "list") (u := .type "list") (by rfl) T.list (by decide +kernel) rfl) (pa_cons (pe_bltn (v := .ty "tuple") (u := .type "tuple") (by rfl) T.tuple (by decide +kernel) rfl) pa_nil))) pa_nil)))) (pss_one ps_never) pss_nil)
      (pss_one (ps_ret (pv 0))), ?_⟩
    obtain ⟨i, rfl, q⟩ := h
    refine ⟨_, rfl, (by show 2 ≤ sizeLine; decide), fun p hp => ?_⟩
    have s1 : Same H (upd H p (.tup [.ty "list", .ty "tuple"])) := (Same.refl H).new hp
    refine ⟨.int i, p, [.ty "list", .ty "tuple"], .type "int", _, false, rfl, upd_same, .cons (.ty _) (.cons (.ty _) .nil), .base (.int i), kitAny_cons (kit_ty (kit_list "int" (by decide))) (fun e => kitAny_cons (b := false) (r := false) (kit_ty (kit_tuple "int" (by decide))) (fun _ => kitAny_nil) fun e' => nomatch e') (fun e => nomatch e), _, rfl, iteF ?_⟩
    exact ⟨_, rfl, q _ s1⟩
/-! ### twice_at, first_twice, of ints: a list | a tuple -/
def tatQ (ns : List Int) (H : Hp) (Q : VK) : Prop := ∀ H', Same H H' → (ft [] ns = none → Q .non H') ∧ ∀ (i : Nat) (z : Int), ns[i]? = some z → ft [] ns = some z → Q (.int (i : Nat)) H'
def spTaL (K : PySem.W.Frag) : Sp := fun vs H Q _ => ∃ (a : Addr) (ns : List Int), vs = [.ref a] ∧ SqL K H a (ns.map V.int) ∧ ns.length ≤ 1000 ∧ tatQ ns H Q
def spTaT (K : PySem.W.Frag) : Sp := fun vs H Q _ => ∃ (a : Addr) (ns : List Int), vs = [.ref a] ∧ SqT K H a (ns.map V.int) ∧ ns.length ≤ 1000 ∧ tatQ ns H Q
abbrev nTa : List Str := ["values", "seen", "at", "value", "key"]
theorem scTa : FnScope nTa ["values"] (defScope sTwiceAt) := ⟨rfl, rfl, rfl, by decide +kernel, rfl, by decide +kernel, by decide +kernel⟩
theorem ok_taL {f fX : Addr} {fd fdX : FuncData} (F : Fun K "twice_at" "twice_at" sTwiceAt f fd) (T : Bi mg) (G : DefAt P w K mg base CX0 1 "fixed" ["value"] spFixed fX fdX) : FnOk P w K mg base CX0 2 f fd ["values"] (spTaL K) := by
  refine F.ok scTa (fun vs H Q E h => ?_) (fun cdv A outer s H vs Q E hr h => ?_)
  · obtain ⟨a, ns, rfl, _⟩ := h
    rfl
  · have hu := hu_of hr
    have nd := scTa.nd
    refine ⟨_, pss_cons (ps_set (i := 1) nd rfl (Or.inl rfl) pe_dnewK)
      (pss_cons (ps_for PassesOwn.never rfl (pi_enum (by rfl) T.enumerate (pa_cons (pv 0) pa_nil)) (pg_tup rfl (pgs_cons (pg_name (i := 2) nd rfl (Or.inl rfl)) (pgs_cons (pg_name (i := 3) nd rfl (Or.inl rfl)) pgs_nil)))
        (pss_cons (ps_set (i := 4) nd rfl (Or.inl rfl) (pe_call G.ok hr rfl G.g G.kp G.b .nil pass0 (pa_cons (pv 3) pa_nil)))
        (pss_cons (ps_if (pt_cmp (pc_din hu (pv 4) (pv 1))) (pss_one (ps_ret (pv 2))) pss_nil)
        (pss_one (ps_dput hu (pv 1) (pv 4) pe_bl rfl)))))
      (pss_one (ps_ret pe_non))), ?_⟩
    obtain ⟨a, ns, rfl, hs, hl, q⟩ := h
    intro d hd
    refine ⟨_, rfl, a, _, rfl, ((Same.refl H).new hd).seq hs, ?_⟩
    refine for_it walk_enum (fun i σ H' => ∃ (z1 v k : Option V), σ = [some (.ref a), some (.ref d), z1, v, k] ∧ Same H H' ∧ H' d = some (.dK (seenK (ns.take i))) ∧ ft [] ns = ft (ns.take i) (ns.drop i))
      ⟨none, none, none, rfl, (Same.refl H).new hd, upd_same, rfl⟩ (fun i σ H' _ ⟨_, _, _, _, s, _⟩ => s.seq hs) ?_ ?_
    · rintro i x σ H1 H2 hi ⟨z1, v, k, rfl, s1, h1, e1⟩ ⟨U, x1, x2, rfl, hU, rfl, ex1, ex2⟩
      obtain rfl := (Option.some.inj ex1).symm
      obtain ⟨z, hz, rfl⟩ := int_at ex2
      rw [List.length_map] at hi
      rw [ft_step hz] at e1
      have s2 : Same H1 (upd H1 U (.tup [.int (i : Nat), .int z])) := (Same.refl H1).new hU
      refine ⟨U, _, rfl, .inl (.inl upd_same), rfl, _, _, rfl, _, _, rfl, rfl, ?_⟩
      refine ⟨_, rfl, z, rfl, fun H3 s3 => ?_⟩
      have h3 := s3 _ _ (s2 _ _ h1)
      have s13 := s1.trans (s2.trans s3)
      refine ⟨_, rfl, _, rfl, d, _, rfl, DGet.k (k := Sum.inl z) h3, _, rfl, ?_⟩
      rw [seen_val]
      by_cases c : z ∈ ns.take i
      · rw [if_pos c] at e1 ⊢
        refine iteT ?_
        exact ⟨_, rfl, (q H3 s13).2 i z hz e1⟩
      · rw [if_neg c] at e1 ⊢
        refine iteF ?_
        refine ⟨_, rfl, _, rfl, d, _, rfl, DPut.k (k := Sum.inl z) h3 (by rw [seen_len, List.length_take]; exact sm (by omega)), ?_⟩
        rw [seen_put c, take_snoc hz]
        exact ⟨_, _, _, rfl, s13.mut hd, upd_same, e1⟩
    · rintro σ H' ⟨z1, v, k, rfl, s1, h1, e1⟩
      rw [List.length_map, List.drop_length] at e1
      exact (q H' s1).1 e1
theorem ok_taT {f fX : Addr} {fd fdX : FuncData} (F : Fun K "twice_at" "twice_at" sTwiceAt f fd) (T : Bi mg) (G : DefAt P w K mg base CX0 1 "fixed" ["value"] spFixed fX fdX) : FnOk P w K mg base CX0 2 f fd ["values"] (spTaT K) := by
  refine F.ok scTa (fun vs H Q E h => ?_) (fun cdv A outer s H vs Q E hr h => ?_)
  · obtain ⟨a, ns, rfl, _⟩ := h
    rfl
  · have hu := hu_of hr
    have nd := scTa.nd
    refine ⟨_, pss_cons (ps_set (i := 1) nd rfl (Or.inl rfl) pe_dnewK)
      (pss_cons (ps_for PassesOwn.never rfl (pi_enumT (by rfl) T.enumerate (pa_cons (pv 0) pa_nil)) (pg_tup rfl (pgs_cons (pg_name (i := 2) nd rfl (Or.inl rfl)) (pgs_cons (pg_name (i := 3) nd rfl (Or.inl rfl)) pgs_nil)))
        (pss_cons (ps_set (i := 4) nd rfl (Or.inl rfl) (pe_call G.ok hr rfl G.g G.kp G.b .nil pass0 (pa_cons (pv 3) pa_nil)))
        (pss_cons (ps_if (pt_cmp (pc_din hu (pv 4) (pv 1))) (pss_one (ps_ret (pv 2))) pss_nil)
        (pss_one (ps_dput hu (pv 1) (pv 4) pe_bl rfl)))))
      (pss_one (ps_ret pe_non))), ?_⟩
    obtain ⟨a, ns, rfl, hs, hl, q⟩ := h
    intro d hd
    refine ⟨_, rfl, a, _, rfl, ((Same.refl H).new hd).tup hs, ?_⟩
    refine for_it walk_enumT (fun i σ H' => ∃ (z1 v k : Option V), σ = [some (.ref a), some (.ref d), z1, v, k] ∧ Same H H' ∧ H' d = some (.dK (seenK (ns.take i))) ∧ ft [] ns = ft (ns.take i) (ns.drop i))
      ⟨none, none, none, rfl, (Same.refl H).new hd, upd_same, rfl⟩ (fun i σ H' _ ⟨_, _, _, _, s, _⟩ => s.tup hs) ?_ ?_
    · rintro i x σ H1 H2 hi ⟨z1, v, k, rfl, s1, h1, e1⟩ ⟨U, x1, x2, rfl, hU, rfl, ex1, ex2⟩
      obtain rfl := (Option.some.inj ex1).symm
      obtain ⟨z, hz, rfl⟩ := int_at ex2
      rw [List.length_map] at hi
      rw [ft_step hz] at e1
      have s2 : Same H1 (upd H1 U (.tup [.int (i : Nat), .int z])) := (Same.refl H1).new hU
      refine ⟨U, _, rfl, .inl (.inl upd_same), rfl, _, _, rfl, _, _, rfl, rfl, ?_⟩
      refine ⟨_, rfl, z, rfl, fun H3 s3 => ?_⟩
      have h3 := s3 _ _ (s2 _ _ h1)
      have s13 := s1.trans (s2.trans s3)
      refine ⟨_, rfl, _, rfl, d, _, rfl, DGet.k (k := Sum.inl z) h3, _, rfl, ?_⟩
      rw [seen_val]
      by_cases c : z ∈ ns.take i
      · rw [if_pos c] at e1 ⊢
        refine iteT ?_
        exact ⟨_, rfl, (q H3 s13).2 i z hz e1⟩
      · rw [if_neg c] at e1 ⊢
        refine iteF ?_
        refine ⟨_, rfl, _, rfl, d, _, rfl, DPut.k (k := Sum.inl z) h3 (by rw [seen_len, List.length_take]; exact sm (by omega)), ?_⟩
        rw [seen_put c, take_snoc hz]
        exact ⟨_, _, _, rfl, s13.mut hd, upd_same, e1⟩
    · rintro σ H' ⟨z1, v, k, rfl, s1, h1, e1⟩
      rw [List.length_map, List.drop_length] at e1
      exact (q H' s1).1 e1
def spTwL (K : PySem.W.Frag) : Sp := fun vs H Q _ => ∃ (a : Addr) (ns : List Int), vs = [.ref a] ∧ SqL K H a (ns.map V.int) ∧ ns.length ≤ 1000 ∧ ∀ H', Same H H' → Q (oV (ft [] ns)) H'
def spTwT (K : PySem.W.Frag) : Sp := fun vs H Q _ => ∃ (a : Addr) (ns : List Int), vs = [.ref a] ∧ SqT K H a (ns.map V.int) ∧ ns.length ≤ 1000 ∧ ∀ H', Same H H' → Q (oV (ft [] ns)) H'
theorem ft_mem : ∀ (xs seen : List Int) (z : Int), ft seen xs = some z → z ∈ xs
  | [], seen, z, h => by cases h
  | x :: xs, seen, z, h => by
    unfold ft at h
    by_cases c : x ∈ seen
    · rw [if_pos c] at h
      rw [Option.some.inj h]
      exact List.mem_cons_self ..
    · rw [if_neg c] at h
      exact List.mem_cons_of_mem _ (ft_mem xs _ z h)
abbrev nTw : List Str := ["values", "at"]
theorem scTw : FnScope nTw ["values"] (defScope sFirstTwice) := ⟨rfl, rfl, rfl, by decide +kernel, rfl, by decide +kernel, by decide +kernel⟩
theorem ok_twL {f fX fA : Addr} {fd fdX fdA : FuncData} (F : Fun K "first_twice" "first_twice" sFirstTwice f fd) (G : DefAt P w K mg base CX0 1 "fixed" ["value"] spFixed fX fdX) (A' : DefAt P w K mg base CX0 2 "twice_at" ["values"] (spTaL K) fA fdA) : FnOk P w K mg base CX0 3 f fd ["values"] (spTwL K) := by
  refine F.ok scTw (fun vs H Q E h => ?_) (fun cdv A outer s H vs Q E hr h => ?_)
  · obtain ⟨a, ns, rfl, _⟩ := h
    rfl
  · have nd := scTw.nd
    refine ⟨_, pss_cons (ps_set (i := 1) nd rfl (Or.inl rfl) (pe_call A'.ok hr rfl A'.g A'.kp A'.b .nil pass0 (pa_cons (pv 0) pa_nil)))
      (pss_one (ps_ret (pe_ifExp (pt_cmpR op_isN (pv 1) pe_non (nomark _)) pe_non (pe_call G.ok (hr.mono (by decide)) rfl G.g G.kp G.b .nil pass0 (pa_cons (pe_ix (r := rIxL K) ix_list (pv 0) (pv 1) (fun _ _ => rfl)) pa_nil))))), ?_⟩
    obtain ⟨a, ns, rfl, hs, hl, q⟩ := h
    refine ⟨_, rfl, a, ns, rfl, hs, hl, fun H1 s1 => ⟨fun e => ?_, fun i z hz e => ?_⟩⟩
    · have qq := q H1 s1
      rw [e] at qq
      exact ⟨_, rfl, rfl, _, rfl, iteT qq⟩
    · refine ⟨_, rfl, rfl, _, rfl, iteF ?_⟩
      refine ⟨_, rfl, _, rfl, a, _, _, _, rfl, rfl, s1.seq hs, atI_nat (by rw [List.getElem?_map, hz]; rfl), z, rfl, fun H2 s2 => ?_⟩
      have qq := q H2 (s1.trans s2)
      rw [e] at qq
      exact qq
theorem ok_twT {f fX fA : Addr} {fd fdX fdA : FuncData} (F : Fun K "first_twice" "first_twice" sFirstTwice f fd) (G : DefAt P w K mg base CX0 1 "fixed" ["value"] spFixed fX fdX) (A' : DefAt P w K mg base CX0 2 "twice_at" ["values"] (spTaT K) fA fdA) : FnOk P w K mg base CX0 3 f fd ["values"] (spTwT K) := by
  refine F.ok scTw (fun vs H Q E h => ?_) (fun cdv A outer s H vs Q E hr h => ?_)
  · obtain ⟨a, ns, rfl, _⟩ := h
    rfl
  · have nd := scTw.nd
    refine ⟨_, pss_cons (ps_set (i := 1) nd rfl (Or.inl rfl) (pe_call A'.ok hr rfl A'.g A'.kp A'.b .nil pass0 (pa_cons (pv 0) pa_nil)))
      (pss_one (ps_ret (pe_ifExp (pt_cmpR op_isN (pv 1) pe_non (nomark _)) pe_non (pe_call G.ok (hr.mono (by decide)) rfl G.g G.kp G.b .nil pass0 (pa_cons (pe_ix (r := rIxT K) ix_tup (pv 0) (pv 1) (fun _ _ => rfl)) pa_nil))))), ?_⟩
    obtain ⟨a, ns, rfl, hs, hl, q⟩ := h
    refine ⟨_, rfl, a, ns, rfl, hs, hl, fun H1 s1 => ⟨fun e => ?_, fun i z hz e => ?_⟩⟩
    · have qq := q H1 s1
      rw [e] at qq
      exact ⟨_, rfl, rfl, _, rfl, iteT qq⟩
    · refine ⟨_, rfl, rfl, _, rfl, iteF ?_⟩
      refine ⟨_, rfl, _, rfl, a, _, _, _, rfl, rfl, s1.tup hs, atI_nat (by rw [List.getElem?_map, hz]; rfl), z, rfl, fun H2 s2 => ?_⟩
      have qq := q H2 (s1.trans s2)
      rw [e] at qq
      exact qq
end
end K
namespace K
open PySem L2 Rg
open Evl (pss_cut)
section
variable {P : Program} {w : World} {K : PySem.W.Frag} {mg : Str → Option Value} {base : Heap}
/-! ### errors with one field -/
def spIni (K : PySem.W.Frag) (f : Str) : Sp := fun vs H Q _ => ∃ (a C : Addr) (v : V), vs = [.ref a, v] ∧ OexC K C ∧ PySem.W.findIn K (.ref C) f = some none ∧ H a = some (exo a C none) ∧
  ∀ d, H d = none → d ≠ a → Q .non (upd (upd H d (exd d [(f, v)])) a (exo a C (some d)))
theorem scBadLot : FnScope ["self", "part"] ["self", "part"] (defScope sBadLotInit) := ⟨rfl, rfl, rfl, by decide +kernel, rfl, by decide +kernel, by decide +kernel⟩
theorem scMissing : FnScope ["self", "value"] ["self", "value"] (defScope sMissingInit) := ⟨rfl, rfl, rfl, by decide +kernel, rfl, by decide +kernel, by decide +kernel⟩
theorem scTwice : FnScope ["self", "value"] ["self", "value"] (defScope sTwiceInit) := ⟨rfl, rfl, rfl, by decide +kernel, rfl, by decide +kernel, by decide +kernel⟩
theorem ok_badLotI {f : Addr} {fd : FuncData} (F : Fun K "__init__" "BadLot.__init__" sBadLotInit f fd) : FnOk P w K mg base CX0 1 f fd ["self", "part"] (spIni K "part") := by
  refine F.ok scBadLot (fun vs H Q E h => ?_) (fun cdv A outer s H vs Q E hr h => ?_)
  · obtain ⟨a, C, v, rfl, _⟩ := h
    rfl
  · refine ⟨_, pss_one (ps_ost (pv 0) (pv 1)), ?_⟩
    obtain ⟨a, C, v, rfl, o, n, ha, k⟩ := h
    exact ⟨_, rfl, _, rfl, a, C, rfl, o, n, .inl ⟨ha, fun d h1 h2 => k d h1 h2⟩⟩
theorem ok_missingI {f : Addr} {fd : FuncData} (F : Fun K "__init__" "Missing.__init__" sMissingInit f fd) : FnOk P w K mg base CX0 1 f fd ["self", "value"] (spIni K "value") := by
  refine F.ok scMissing (fun vs H Q E h => ?_) (fun cdv A outer s H vs Q E hr h => ?_)
  · obtain ⟨a, C, v, rfl, _⟩ := h
    rfl
  · refine ⟨_, pss_one (ps_ost (pv 0) (pv 1)), ?_⟩
    obtain ⟨a, C, v, rfl, o, n, ha, k⟩ := h
    exact ⟨_, rfl, _, rfl, a, C, rfl, o, n, .inl ⟨ha, fun d h1 h2 => k d h1 h2⟩⟩
theorem ok_twiceI {f : Addr} {fd : FuncData} (F : Fun K "__init__" "Twice.__init__" sTwiceInit f fd) : FnOk P w K mg base CX0 1 f fd ["self", "value"] (spIni K "value") := by
  refine F.ok scTwice (fun vs H Q E h => ?_) (fun cdv A outer s H vs Q E hr h => ?_)
  · obtain ⟨a, C, v, rfl, _⟩ := h
    rfl
  · refine ⟨_, pss_one (ps_ost (pv 0) (pv 1)), ?_⟩
    obtain ⟨a, C, v, rfl, o, n, ha, k⟩ := h
    exact ⟨_, rfl, _, rfl, a, C, rfl, o, n, .inl ⟨ha, fun d h1 h2 => k d h1 h2⟩⟩
/-- the class x of errors with the field f, at C, its __init__ at fI -/
structure ErrAt (P : Program) (w : World) (K : PySem.W.Frag) (mg : Str → Option Value) (base : Heap) (x f : Str) (C fI : Addr) (fdI : FuncData) : Prop where
  oex : OexC K C
  ic : PySem.W.findIn K (.ref C) "__init__" = some (some (.ref fI))
  ti : PySem.W.typeIn K (.ref fI) = some (.type "function")
  nf : PySem.W.findIn K (.ref C) f = some none
  g : mg x = some (.ref C)
  b : Binds K fdI ["self", f] []
  ok : FnOk P w K mg base CX0 1 fI fdI ["self", f] (spIni K f)
/-- an error of the class at C with the field f holding v leaves; what was tracked stands -/
def Errs (E : XK) (C : Addr) (f : Str) (v : V) (H : Hp) : Prop := ∀ (d : Addr) (H' : Hp), Same H H' → H d = none → H' d = some (.xd [(f, v)]) → E (.ref C) (some d) H'
theorem Errs.later {E : XK} {C : Addr} {f : Str} {v : V} {H H1 : Hp} (h : Errs E C f v H) (s : Same H H1) : Errs E C f v H1 := fun d H' s' n e => h d H' (s.trans s') (s.free n) e
/-- the making of such an error, as a raise asks it -/
theorem err_made {E : XK} {C : Addr} {f : Str} {v : V} {H : Hp} (o : OexC K C) (n : PySem.W.findIn K (.ref C) f = some none) (h : Errs E C f v H) :
    ([v] : List V).length ≤ 1000 ∧ ∀ a, H a = none → spIni K f (.ref a :: ([v] ++ [])) (upd H a (exo a C none))
      (fun u H2 => u = .non ∧ ∃ (d : Addr) (fs : List (Str × V)), H2 a = some (exo a C (some d)) ∧ H2 d = some (exd d fs) ∧ H d = none ∧ E (.ref C) (some d) (upd (del H2 a) d (.xd fs))) (fun _ _ _ => False) := by
  refine ⟨(by show 1 ≤ 1000; decide), fun a ha => ⟨a, C, v, rfl, o, n, upd_same, fun d hd hda => ⟨rfl, d, [(f, v)], upd_same, by rw [upd_ne hda, upd_same], ?_, ?_⟩⟩⟩
  · rw [upd_ne hda] at hd
    exact hd
  · rw [upd_ne hda] at hd
    refine h d _ (fun b u e => ?_) hd upd_same
    have hba : b ≠ a := ne_of_none e ha
    have hbd : b ≠ d := ne_of_none e hd
    rw [upd_ne hbd, del_ne hba, upd_ne hba, upd_ne hbd, upd_ne hba]
    exact e
/-! ### want_bar -/
def spWantBar (C : Addr) : Sp := fun vs H Q E => ∃ (v many : Int), vs = [.int v, .int many] ∧ ((0 ≤ v ∧ v < many ∧ ∀ H', Same H H' → Q .non H') ∨ (¬ (0 ≤ v ∧ v < many) ∧ Errs E C "value" (.int v) H))
theorem scWantBar : FnScope ["value", "many"] ["value", "many"] (defScope sWantBar) := ⟨rfl, rfl, rfl, by decide +kernel, rfl, by decide +kernel, by decide +kernel⟩
theorem ok_wantBar {f fW C fI : Addr} {fd fdW fdI : FuncData} (F : Fun K "want_bar" "want_bar" sWantBar f fd) (W : DefAt P w K mg base CX0 2 "is_within" ["value", "least", "most"] spWithin fW fdW) (B : ErrAt P w K mg base "NoBar" "value" C fI fdI) :
    FnOk P w K mg base (L2.CX P w) 3 f fd ["value", "many"] (spWantBar C) := by
  refine F.okX scWantBar (fun vs H Q E h => ?_) (fun cdv A outer s H vs Q E hr h => ?_)
  · obtain ⟨v, many, rfl, _⟩ := h
    rfl
  · refine ⟨_, pss_one (ps_if (pt_not (pt_val (pe_call W.ok hr rfl W.g W.kp W.b .nil pass0 (pa_cons (pv 0) (pa_cons pe_int (pa_cons (pe_op op_sub (pv 1) pe_int) pa_nil))))))
      (pss_one (ps_raise rfl (takes_of rfl rfl rfl rfl) (pmk_oex B.oex B.ic B.ti B.ok hr B.b .nil pass0 rfl B.g (pa_cons (pv 0) pa_nil)))) pss_nil), ?_⟩
    obtain ⟨v, many, rfl, h⟩ := h
    refine ⟨_, rfl, _, rfl, _, _, rfl, rfl, v, 0, many - 1, rfl, _, rfl, ?_⟩
    rcases h with ⟨h0, h1, q⟩ | ⟨hn, q⟩
    · refine iteBF ?_ (q H (Same.refl H))
      simp only [decide_eq_true h0, decide_eq_true (show v ≤ many - 1 by omega)]
      rfl
    · refine iteBT ?_ ?_
      · have e : (decide (0 ≤ v) && decide (v ≤ many - 1)) = false := by
          cases c : (decide (0 ≤ v) && decide (v ≤ many - 1)) with
          | false => rfl
          | true =>
            simp only [Bool.and_eq_true, decide_eq_true_eq] at c
            exact absurd ⟨c.1, by omega⟩ hn
        show (!(decide (0 ≤ v) && decide (v ≤ many - 1))) = true
        rw [e]
        rfl
      · exact ⟨_, rfl, err_made B.oex B.nf q⟩
end
end K
namespace K
open PySem L2 Rg
open Evl (pss_cut)
/-- what becomes of a lot that is passed -/
inductive Lr where
  | bad | bar (b : Int) | twice (b : Int) | ok (ns : List Int)
def isBar (many b : Int) : Bool := decide (0 ≤ b) && decide (b < many)
def res (many : Int) (ns : List Int) : Lr := match ns.find? (fun b => !isBar many b) with
  | some b => .bar b
  | none => match ft [] ns with
    | some b => .twice b
    | none => .ok ns
theorem isBar_iff {many b : Int} : isBar many b = true ↔ 0 ≤ b ∧ b < many := by
  unfold isBar
  rw [Bool.and_eq_true, decide_eq_true_eq, decide_eq_true_eq]
theorem res_bar {many b : Int} {ns : List Int} {i : Nat} (h : ∀ x ∈ ns.take i, isBar many x = true) (hb : ns[i]? = some b) (nb : ¬ isBar many b = true) : res many ns = .bar b := by
  have e : ns.find? (fun b => !isBar many b) = some b := by
    obtain ⟨hi, rfl⟩ := List.getElem?_eq_some_iff.mp hb
    have e1 : ns = ns.take i ++ ns[i] :: ns.drop (i + 1) := by rw [List.getElem_cons_drop, List.take_append_drop]
    have e2 : (ns.take i).find? (fun b => !isBar many b) = none := List.find?_eq_none.mpr fun x hx => by rw [h x hx]; decide
    have e3 : ns.find? (fun b => !isBar many b) = (ns.take i ++ ns[i] :: ns.drop (i + 1)).find? (fun b => !isBar many b) := congrArg _ e1
    rw [e3, List.find?_append, e2, List.find?_cons]
    have e4 : isBar many ns[i] = false := by
      cases q : isBar many ns[i] with
      | false => rfl
      | true => exact absurd q nb
    rw [e4]
    rfl
  unfold res
  rw [e]
theorem res_all {many : Int} {ns : List Int} (h : ∀ x ∈ ns, isBar many x = true) : res many ns = match ft [] ns with | some b => .twice b | none => .ok ns := by
  have e : ns.find? (fun b => !isBar many b) = none := List.find?_eq_none.mpr fun x hx => by rw [h x hx]; decide
  unfold res
  rw [e]
section
variable {P : Program} {w : World} {K : PySem.W.Frag} {mg : Str → Option Value} {base : Heap}
/-- where the three errors stand -/
structure Cs where
  l : Addr
  n : Addr
  t : Addr
def LotFin (E : XK) (c : Cs) (part : Str) (H : Hp) (r : Lr) (k : List Int → Prop) : Prop := match r with
  | .bad => Errs E c.l "part" (.str part) H
  | .bar b => Errs E c.n "value" (.int b) H
  | .twice b => Errs E c.t "value" (.int b) H
  | .ok ns => k ns
def spWLO (K : PySem.W.Frag) (c : Cs) : Sp := fun vs H Q E => ∃ (v : V) (k : String) (many : Int) (part : Str), vs = [v, .int many, .str part] ∧ Knd K H v k ∧ k ≠ "list" ∧ k ≠ "tuple" ∧ Errs E c.l "part" (.str part) H
def spWLL (K : PySem.W.Frag) (c : Cs) : Sp := fun vs H Q E => ∃ (a : Addr) (xs : List V) (kf : V → String) (many : Int) (part : Str), vs = [.ref a, .int many, .str part] ∧ Knd K H (.ref a) "list" ∧ SqL K H a xs ∧ xs.length ≤ 1000 ∧ (∀ x ∈ xs, Knd K H x (kf x)) ∧
  (((xs.all fun x => decide (kf x = "int")) = false ∧ Errs E c.l "part" (.str part) H) ∨
   ∃ ns, xs = ns.map V.int ∧ (xs.all fun x => decide (kf x = "int")) = true ∧ LotFin E c part H (res many ns) fun ns => ∀ (p : Addr) (ms : List Int) (H' : Hp), ms.Perm ns → Same H H' → H' p = some (.tup (ms.map V.int)) → Q (.ref p) H')
def spWLT (K : PySem.W.Frag) (c : Cs) : Sp := fun vs H Q E => ∃ (a : Addr) (ns : List Int) (many : Int) (part : Str), vs = [.ref a, .int many, .str part] ∧ Knd K H (.ref a) "tuple" ∧ SqT K H a (ns.map V.int) ∧ ns.length ≤ 1000 ∧
  LotFin E c part H (res many ns) fun ns => ∀ (p : Addr) (ms : List Int) (H' : Hp), ms.Perm ns → Same H H' → H' p = some (.tup (ms.map V.int)) → Q (.ref p) H'
abbrev nWL : List Str := ["value", "many", "part", "bar", "twice"]
theorem scWL : FnScope nWL ["value", "many", "part"] (defScope sWantLot) := ⟨rfl, rfl, rfl, by decide +kernel, rfl, by decide +kernel, by decide +kernel⟩
theorem ok_wlO {f fN fB fT : Addr} {c : Cs} {fL fTI : Addr} {fd fdN fdB fdT fdL fdTI : FuncData} (F : Fun K "want_lot" "want_lot" sWantLot f fd) (T : Bi mg) (N : DefAt P w K mg base CX0 2 "is_numbers" ["value"] (spNumsO K) fN fdN) (B : DefAt P w K mg base (L2.CX P w) 3 "want_bar" ["value", "many"] (spWantBar c.n) fB fdB)
    (Tw : DefAt P w K mg base CX0 3 "first_twice" ["values"] (spTwL K) fT fdT) (L : ErrAt P w K mg base "BadLot" "part" c.l fL fdL) (TI : ErrAt P w K mg base "Twice" "value" c.t fTI fdTI) : FnOk P w K mg base (L2.CX P w) 4 f fd ["value", "many", "part"] (spWLO K c) := by
  refine F.okX scWL (fun vs H Q E h => ?_) (fun cdv A outer s H vs Q E hr h => ?_)
  · obtain ⟨v, k, many, part, rfl, _⟩ := h
    rfl
  · have nd := scWL.nd
    have hr2 : Room 2 (A.deeper (PyProof.Rows.envOfC "want_lot" (defScope sWantLot) s.heap.objs.size f cdv)) := hr.mono (by decide)
    refine ⟨_, pss_cons (ps_if (pt_not (pt_val (pe_call N.ok hr2 rfl N.g N.kp N.b .nil pass0 (pa_cons (pv 0) pa_nil)))) (pss_one (ps_raise rfl (takes_of rfl rfl rfl rfl) (pmk_oex L.oex L.ic L.ti L.ok hr2 L.b .nil pass0 rfl L.g (pa_cons (pv 2) pa_nil)))) pss_nil) pss_never, ?_⟩
    obtain ⟨v, k, many, part, rfl, hk, k1, k2, q⟩ := h
    exact ⟨_, rfl, v, k, rfl, hk, k1, k2, fun H' s1 => ⟨_, rfl, iteT ⟨_, rfl, err_made L.oex L.nf (q.later s1)⟩⟩⟩
theorem ok_wlL {f fN fB fT : Addr} {c : Cs} {fL fTI : Addr} {fd fdN fdB fdT fdL fdTI : FuncData} (F : Fun K "want_lot" "want_lot" sWantLot f fd) (T : Bi mg) (N : DefAt P w K mg base CX0 2 "is_numbers" ["value"] (spNumsL K) fN fdN) (B : DefAt P w K mg base (L2.CX P w) 3 "want_bar" ["value", "many"] (spWantBar c.n) fB fdB)
    (Tw : DefAt P w K mg base CX0 3 "first_twice" ["values"] (spTwL K) fT fdT) (L : ErrAt P w K mg base "BadLot" "part" c.l fL fdL) (TI : ErrAt P w K mg base "Twice" "value" c.t fTI fdTI) : FnOk P w K mg base (L2.CX P w) 4 f fd ["value", "many", "part"] (spWLL K c) := by
  refine F.okX scWL (fun vs H Q E h => ?_) (fun cdv A outer s H vs Q E hr h => ?_)
  · obtain ⟨a, xs, kf, many, part, rfl, _⟩ := h
    rfl
  · have nd := scWL.nd
    have hr2 : Room 2 (A.deeper (PyProof.Rows.envOfC "want_lot" (defScope sWantLot) s.heap.objs.size f cdv)) := hr.mono (by decide)
    refine ⟨_, pss_cons (ps_if (pt_not (pt_val (pe_call N.ok hr2 rfl N.g N.kp N.b .nil pass0 (pa_cons (pv 0) pa_nil)))) (pss_one (ps_raise rfl (takes_of rfl rfl rfl rfl) (pmk_oex L.oex L.ic L.ti L.ok hr2 L.b .nil pass0 rfl L.g (pa_cons (pv 2) pa_nil)))) pss_nil)
      (pss_cons (ps_for (passes_of rfl) rfl (pi_list (pv 0)) (pg_name (i := 3) nd rfl (Or.inl rfl)) (pss_one (ps_expr (pe_call B.ok hr rfl B.g B.kp B.b .nil (passes_call (takes_of rfl rfl rfl rfl) (fun _ _ _ _ h => h)) (pa_cons (pv 3) (pa_cons (pv 1) pa_nil))))))
      (pss_cons (ps_set (i := 4) nd rfl (Or.inl rfl) (pe_call Tw.ok hr rfl Tw.g Tw.kp Tw.b .nil pass0 (pa_cons (pv 0) pa_nil)))
      (pss_cons (ps_if (pt_cmpR op_notN (pv 4) pe_non (nomark _)) (pss_one (ps_raise rfl (takes_of rfl rfl rfl rfl) (pmk_oex TI.oex TI.ic TI.ti TI.ok hr2 TI.b .nil pass0 rfl TI.g (pa_cons (pv 4) pa_nil)))) pss_nil)
      (pss_one (ps_ret (pe_callTy call_tuple_of (by rfl) T.tuple (by decide +kernel) (pa_cons (pe_callB cr_sortedI (by rfl) T.sorted (by decide +kernel) (pa_cons (pv 0) pa_nil)) pa_nil))))))), ?_⟩
    obtain ⟨a, xs, kf, many, part, rfl, hk, hs, hl, hx, q⟩ := h
    refine ⟨_, rfl, a, xs, kf, rfl, hk, hs, hl, hx, fun H1 s1 => ⟨_, rfl, ?_⟩⟩
    rcases q with ⟨e, q⟩ | ⟨ns, rfl, e, q⟩
    · rw [e]
      exact iteT ⟨_, rfl, err_made L.oex L.nf (q.later s1)⟩
    · rw [e]
      refine iteF ?_
      refine ⟨_, rfl, a, rfl, ⟨_, s1.seq hs⟩, for_list (K := K) (a := a) (xs := ns.map V.int) (fun i σ H' => ∃ (b : Option V), σ = [some (.ref a), some (.int many), some (.str part), b, none] ∧ Same H H' ∧ ∀ x ∈ ns.take i, isBar many x = true)
        ⟨none, rfl, s1, fun x hx => nomatch hx⟩ (fun i σ H' _ ⟨_, _, s, _⟩ => s.seq hs) ?_ ?_⟩
      · rintro i x σ H' hi ⟨b, rfl, s2, al⟩
        obtain ⟨z, hz, rfl⟩ := int_at hi
        refine ⟨_, rfl, _, rfl, z, many, rfl, ?_⟩
        by_cases c : isBar many z = true
        · obtain ⟨c1, c2⟩ := isBar_iff.mp c
          refine .inl ⟨c1, c2, fun H3 s3 => ⟨_, rfl, s2.trans s3, fun y hy => ?_⟩⟩
          rw [← take_snoc hz] at hy
          rcases List.mem_append.mp hy with m | m
          · exact al y m
          · rw [List.mem_singleton.mp m]
            exact c
        · refine .inr ⟨fun z => c (isBar_iff.mpr z), ?_⟩
          rw [res_bar al hz c] at q
          exact Errs.later q s2
      · rintro σ H' ⟨b, rfl, s2, al⟩
        rw [List.length_map, List.take_length] at al
        rw [res_all al] at q
        rw [List.length_map] at hl
        refine ⟨_, rfl, a, ns, rfl, s2.seq hs, hl, fun H3 s3 => ?_⟩
        have s23 := s2.trans s3
        cases e2 : ft [] ns with
        | some z =>
          rw [e2] at q
          exact ⟨_, rfl, rfl, _, rfl, iteT ⟨_, rfl, err_made TI.oex TI.nf (Errs.later q s23)⟩⟩
        | none =>
          rw [e2] at q
          refine ⟨_, rfl, rfl, _, rfl, iteF ?_⟩
          refine ⟨_, rfl, a, ns, rfl, s23.seq hs, fun ms p pm _ hp => ⟨p, _, rfl, .inl ⟨SqL.of upd_same, fun t ht => ?_⟩⟩⟩
          exact q t ms _ pm ((s23.new hp).new ht) upd_same
theorem ok_wlT {f fN fB fT : Addr} {c : Cs} {fL fTI : Addr} {fd fdN fdB fdT fdL fdTI : FuncData} (F : Fun K "want_lot" "want_lot" sWantLot f fd) (T : Bi mg) (N : DefAt P w K mg base CX0 2 "is_numbers" ["value"] (spNumsT K) fN fdN) (B : DefAt P w K mg base (L2.CX P w) 3 "want_bar" ["value", "many"] (spWantBar c.n) fB fdB)
    (Tw : DefAt P w K mg base CX0 3 "first_twice" ["values"] (spTwT K) fT fdT) (L : ErrAt P w K mg base "BadLot" "part" c.l fL fdL) (TI : ErrAt P w K mg base "Twice" "value" c.t fTI fdTI) : FnOk P w K mg base (L2.CX P w) 4 f fd ["value", "many", "part"] (spWLT K c) := by
  refine F.okX scWL (fun vs H Q E h => ?_) (fun cdv A outer s H vs Q E hr h => ?_)
  · obtain ⟨a, ns, many, part, rfl, _⟩ := h
    rfl
  · have nd := scWL.nd
    have hr2 : Room 2 (A.deeper (PyProof.Rows.envOfC "want_lot" (defScope sWantLot) s.heap.objs.size f cdv)) := hr.mono (by decide)
    refine ⟨_, pss_cons (ps_if (pt_not (pt_val (pe_call N.ok hr2 rfl N.g N.kp N.b .nil pass0 (pa_cons (pv 0) pa_nil)))) (pss_one (ps_raise rfl (takes_of rfl rfl rfl rfl) (pmk_oex L.oex L.ic L.ti L.ok hr2 L.b .nil pass0 rfl L.g (pa_cons (pv 2) pa_nil)))) pss_nil)
      (pss_cons (ps_for (passes_of rfl) rfl (pi_tup (pv 0)) (pg_name (i := 3) nd rfl (Or.inl rfl)) (pss_one (ps_expr (pe_call B.ok hr rfl B.g B.kp B.b .nil (passes_call (takes_of rfl rfl rfl rfl) (fun _ _ _ _ h => h)) (pa_cons (pv 3) (pa_cons (pv 1) pa_nil))))))
      (pss_cons (ps_set (i := 4) nd rfl (Or.inl rfl) (pe_call Tw.ok hr rfl Tw.g Tw.kp Tw.b .nil pass0 (pa_cons (pv 0) pa_nil)))
      (pss_cons (ps_if (pt_cmpR op_notN (pv 4) pe_non (nomark _)) (pss_one (ps_raise rfl (takes_of rfl rfl rfl rfl) (pmk_oex TI.oex TI.ic TI.ti TI.ok hr2 TI.b .nil pass0 rfl TI.g (pa_cons (pv 4) pa_nil)))) pss_nil)
      (pss_one (ps_ret (pe_callTy call_tuple_of (by rfl) T.tuple (by decide +kernel) (pa_cons (pe_callB cr_sortedT (by rfl) T.sorted (by decide +kernel) (pa_cons (pv 0) pa_nil)) pa_nil))))))), ?_⟩
    obtain ⟨a, ns, many, part, rfl, hk, hs, hl, q⟩ := h
    refine ⟨_, rfl, a, _, (fun _ => "int"), rfl, hk, hs, (by rw [List.length_map]; exact hl), (fun x hx => ?_), fun H1 s1 => ⟨_, rfl, ?_⟩⟩
    · obtain ⟨z, _, rfl⟩ := List.mem_map.mp hx
      exact Knd.int
    · have e : ((ns.map V.int).all fun x => decide (("int" : String) = "int")) = true := List.all_eq_true.mpr fun _ _ => rfl
      rw [e]
      refine iteF ?_
      refine ⟨_, rfl, a, rfl, ⟨_, s1.tup hs⟩, for_tup (K := K) (a := a) (xs := ns.map V.int) (fun i σ H' => ∃ (b : Option V), σ = [some (.ref a), some (.int many), some (.str part), b, none] ∧ Same H H' ∧ ∀ x ∈ ns.take i, isBar many x = true)
        ⟨none, rfl, s1, fun x hx => nomatch hx⟩ (fun i σ H' _ ⟨_, _, s, _⟩ => s.tup hs) ?_ ?_⟩
      · rintro i x σ H' hi ⟨b, rfl, s2, al⟩
        obtain ⟨z, hz, rfl⟩ := int_at hi
        refine ⟨_, rfl, _, rfl, z, many, rfl, ?_⟩
        by_cases c : isBar many z = true
        · obtain ⟨c1, c2⟩ := isBar_iff.mp c
          refine .inl ⟨c1, c2, fun H3 s3 => ⟨_, rfl, s2.trans s3, fun y hy => ?_⟩⟩
          rw [← take_snoc hz] at hy
          rcases List.mem_append.mp hy with m | m
          · exact al y m
          · rw [List.mem_singleton.mp m]
            exact c
        · refine .inr ⟨fun z => c (isBar_iff.mpr z), ?_⟩
          rw [res_bar al hz c] at q
          exact Errs.later q s2
      · rintro σ H' ⟨b, rfl, s2, al⟩
        rw [List.length_map, List.take_length] at al
        rw [res_all al] at q
        refine ⟨_, rfl, a, ns, rfl, s2.tup hs, hl, fun H3 s3 => ?_⟩
        have s23 := s2.trans s3
        cases e2 : ft [] ns with
        | some z =>
          rw [e2] at q
          exact ⟨_, rfl, rfl, _, rfl, iteT ⟨_, rfl, err_made TI.oex TI.nf (Errs.later q s23)⟩⟩
        | none =>
          rw [e2] at q
          refine ⟨_, rfl, rfl, _, rfl, iteF ?_⟩
          refine ⟨_, rfl, a, ns, rfl, s23.tup hs, fun ms p pm _ hp => ⟨p, _, rfl, .inl ⟨SqL.of upd_same, fun t ht => ?_⟩⟩⟩
          exact q t ms _ pm ((s23.new hp).new ht) upd_same
end
end K
namespace K
open PySem L2 Rg
open Evl (pss_cut)
/-! ### what a ring tells -/
def sumsOf (ls : List Int) : List Int := ls.foldl (fun s l => s ++ s.map (· + l)) [0]
def levelB (ls : List Int) : Bool := (sumsOf ls).any fun o => decide (2 * o = ls.sum)
def closesB (ls : List Int) : Bool := ls.all fun x => decide (2 * x ≤ ls.sum)
def lsum (ls ns : List Int) : Int := (ns.map fun b => ls.getD b.toNat 0).sum
def sortV (ls ns : List Int) : Str := if 2 * lsum ls ns = ls.sum then "level" else if 2 * lsum ls ns < ls.sum then "short" else "long"
theorem sums_take {ls : List Int} {i : Nat} {z : Int} (h : ls[i]? = some z) : sumsOf (ls.take (i + 1)) = sumsOf (ls.take i) ++ (sumsOf (ls.take i)).map (· + z) := by
  unfold sumsOf
  rw [← take_snoc h, List.foldl_append]
  rfl
theorem sums_len : ∀ (ls : List Int) (i : Nat), i ≤ ls.length → (sumsOf (ls.take i)).length = 2 ^ i
  | ls, 0, _ => rfl
  | ls, i + 1, h => by
    have hz : ls[i]? = some ls[i] := List.getElem?_eq_getElem h
    rw [sums_take hz, List.length_append, List.length_map, sums_len ls i (by omega), Nat.pow_succ]
    omega
theorem closes_max {ls : List Int} {m : Int} (hm : m ∈ ls) (hx : ∀ y ∈ ls, y ≤ m) : decide (2 * m ≤ ls.sum) = closesB ls := by
  unfold closesB
  by_cases c : 2 * m ≤ ls.sum
  · rw [decide_eq_true c]
    refine (List.all_eq_true.mpr fun y hy => decide_eq_true ?_).symm
    have := hx y hy
    omega
  · rw [decide_eq_false c]
    cases e : ls.all fun x => decide (2 * x ≤ ls.sum) with
    | false => rfl
    | true => exact absurd (of_decide_eq_true (List.all_eq_true.mp e m hm)) c
theorem dec_int (a b : Int) : decide (V.int a = V.int b) = decide (a = b) := by
  by_cases e : a = b
  · rw [e]; simp
  · rw [decide_eq_false e, decide_eq_false fun z => e (V.int.inj z)]
theorem all_any (l : List Int) (g : Int → Bool) : (l.map g).any id = l.any g := by
  rw [List.any_map]; rfl
/-- the attributes of a ring, in the order in which __init__ stores them -/
def rf (t : Addr) (ls : List Int) : List (Str × V) := putF "is_clear" (.bl (!levelB ls)) (putF "closes" (.bl (closesB ls)) (putF "total" (.int ls.sum) (putF "lengths" (.ref t) [])))
theorem n1 : ¬ (("lengths" : Str) = "total") := by decide +kernel
theorem n2 : ¬ (("lengths" : Str) = "closes") := by decide +kernel
theorem n3 : ¬ (("lengths" : Str) = "is_clear") := by decide +kernel
theorem n4 : ¬ (("total" : Str) = "closes") := by decide +kernel
theorem n5 : ¬ (("total" : Str) = "is_clear") := by decide +kernel
theorem n6 : ¬ (("closes" : Str) = "is_clear") := by decide +kernel
theorem rf_lengths (t : Addr) (ls : List Int) : (rf t ls).lookup ("lengths" : Str) = some (.ref t) := by
  unfold rf
  rw [lookup_putF, if_neg n3, lookup_putF, if_neg n2, lookup_putF, if_neg n1, lookup_putF, if_pos rfl]
theorem rf_total (t : Addr) (ls : List Int) : (rf t ls).lookup ("total" : Str) = some (.int ls.sum) := by
  unfold rf
  rw [lookup_putF, if_neg n5, lookup_putF, if_neg n4, lookup_putF, if_pos rfl]
theorem rf_closes (t : Addr) (ls : List Int) : (rf t ls).lookup ("closes" : Str) = some (.bl (closesB ls)) := by
  unfold rf
  rw [lookup_putF, if_neg n6, lookup_putF, if_pos rfl]
theorem rf_clear (t : Addr) (ls : List Int) : (rf t ls).lookup ("is_clear" : Str) = some (.bl (!levelB ls)) := by
  unfold rf
  rw [lookup_putF, if_pos rfl]
theorem rf_no (t : Addr) (ls : List Int) {m : Str} (h1 : ¬ m = "lengths") (h2 : ¬ m = "total") (h3 : ¬ m = "closes") (h4 : ¬ m = "is_clear") : (rf t ls).lookup m = none := by
  unfold rf
  rw [lookup_putF, if_neg h4, lookup_putF, if_neg h3, lookup_putF, if_neg h2, lookup_putF, if_neg h1]
  rfl
section
variable {P : Program} {w : World} {K : PySem.W.Frag} {mg : Str → Option Value} {base : Heap}
def RingAt (K : PySem.W.Frag) (C : Addr) (H : Hp) (r : Addr) (ls : List Int) : Prop := ∃ dx t, H r = some (.ins C dx (rf t ls)) ∧ SqT K H t (ls.map V.int) ∧ ∃ o : Obj, H t = some (.frz o (.tup (ls.map V.int))) ∧ o.dict = none
theorem RingAt.same {C : Addr} {H H' : Hp} {r : Addr} {ls : List Int} (h : RingAt K C H r ls) (s : Same H H') : RingAt K C H' r ls := by
  obtain ⟨dx, t, h1, h2, o, h3, h4⟩ := h
  exact ⟨dx, t, s _ _ h1, s.tup h2, o, s _ _ h3, h4⟩
/-- the class Ring as the top has made it -/
structure RingC (K : PySem.W.Frag) (mg : Str → Option Value) (C : Addr) : Prop where
  cl : Cls K C
  nL : NoAttr K C "lengths"
  nT : NoAttr K C "total"
  nC : NoAttr K C "closes"
  nI : NoAttr K C "is_clear"
  g : mg "Ring" = some (.ref C)
  ha : PySem.W.findIn K (.ref C) "__class__" = some (some (.builtin "object.__class__"))
  hn : PySem.W.specialIn K (.builtin "object.__class__") "__get__" = some (some (.builtin "getset_descriptor.__get__"))
  ht : PySem.W.takesIn K (.builtin "object.__class__") = some true
  hm : PySem.W.mroIn K C (.type "object") = some true
structure Nm (mg : Str → Option Value) : Prop where
  mostL : ∃ t, mg "MOST_LENGTH" = some (.int 1000000 t)
  leastB : ∃ t, mg "LEAST_BARS" = some (.int 3 t)
  mostB : ∃ t, mg "MOST_BARS" = some (.int 8 t)
/-! ### are_lengths -/
def spAreL (K : PySem.W.Frag) : Sp := fun vs H Q _ => ∃ (a : Addr) (ls : List Int), vs = [.ref a] ∧ Knd K H (.ref a) "list" ∧ SqL K H a (ls.map V.int) ∧ ls.length ≤ 1000 ∧ Bd 1000000 ls ∧ ∀ H', Same H H' → Q (.bl true) H'
abbrev nAreL : List Str := ["value", "one"]
theorem scAreL : FnScope nAreL ["value"] (defScope sAreLengths) := ⟨rfl, rfl, rfl, by decide +kernel, rfl, by decide +kernel, by decide +kernel⟩
theorem all_true {bs : List Bool} (h : ∀ b ∈ bs, b = true) : bs.all id = true := List.all_eq_true.mpr fun b hb => h b hb
theorem ok_areL {f fW fL : Addr} {fd fdW fdL : FuncData} (F : Fun K "are_lengths" "are_lengths" sAreLengths f fd) (T : Bi mg) (N : Nm mg) (W : DefAt P w K mg base CX0 2 "is_within" ["value", "least", "most"] spWithin fW fdW) (L : DefAt P w K mg base CX0 1 "is_list" ["value"] (spIsList K) fL fdL) : FnOk P w K mg base CX0 3 f fd ["value"] (spAreL K) := by
  refine F.ok scAreL (fun vs H Q E h => ?_) (fun cdv A outer s H vs Q E hr h => ?_)
  · obtain ⟨a, ls, rfl, _⟩ := h
    rfl
  · obtain ⟨tM, hM⟩ := N.mostL
    refine ⟨_, pss_one (ps_ret (pe_and (pe_call L.ok (hr.mono (by decide)) rfl L.g L.kp L.b .nil pass0 (pa_cons (pv 0) pa_nil)) (pe_one (pe_callB (cr_all rfl) (by rfl) T.all (by decide +kernel) (pa_cons (pe_lc (own := [("one", 1)]) (g := gName 1) (tt := tYes) rfl scAreL.nd (pi_list (pv 0))
      (blkOk_by (N := nAreL) (sc := defScope sAreLengths) (by decide +kernel)) (fun _ _ _ _ _ => pg_name (i := 1) scAreL.nd rfl (Or.inl rfl)) (fun _ _ _ _ _ => pts_nil) (fun _ _ _ _ _ => pe_call W.ok hr rfl W.g W.kp W.b .nil pass0 (pa_cons (pv 1) (pa_cons pe_int (pa_cons (pe_glob (v := .int 1000000) rfl hM ⟨_, rfl⟩) pa_nil))))) pa_nil))))), ?_⟩
    obtain ⟨a, ls, rfl, hk, hs, hl, hb, q⟩ := h
    refine ⟨_, rfl, _, "list", rfl, hk, fun H1 s1 => ⟨_, rfl, iteDT (.inl rfl) ?_⟩⟩
    refine ⟨_, rfl, a, rfl, ⟨_, s1.seq hs⟩, fun D hD => ?_⟩
    have hD0 := s1.free hD
    refine lc_list (K := K) (a := a) (xs := ls.map V.int) (fun i H' => Same H H' ∧ ∃ bs : List Bool, (∀ b ∈ bs, b = true) ∧ bs.length ≤ i ∧ H' D = some (.lst (bs.map V.bl))) ⟨s1.new hD, [], (fun b hb => nomatch hb), Nat.le_refl _, upd_same⟩ (fun i H' _ p => p.1.seq hs) ?_ ?_
    · rintro i x H' hi ⟨s2, bs, h1, h2, h3⟩
      obtain ⟨z, hz, rfl⟩ := int_at hi
      have hil : i < ls.length := (List.getElem?_eq_some_iff.mp hz).1
      have hzb := hb z (List.mem_of_getElem? hz)
      refine ⟨rfl, _, rfl, z, 1, 1000000, rfl, _, h3, (by rw [List.length_map]; exact sm (by omega)), s2.mut hD0, bs ++ [true], fun b hb => ?_, by rw [List.length_append, List.length_singleton]; omega, ?_⟩
      · rcases List.mem_append.mp hb with m | m
        · exact h1 b m
        · exact List.mem_singleton.mp m
      · rw [upd_same, List.map_append, decide_eq_true hzb.1, decide_eq_true hzb.2]
        rfl
    · rintro H' ⟨s2, bs, h1, h2, h3⟩
      refine ⟨D, bs, rfl, SqL.of h3, ?_⟩
      rw [all_true h1]
      exact q H' s2
/-! ### has_level -/
def spHasL (K : PySem.W.Frag) : Sp := fun vs H Q _ => ∃ (t : Addr) (ls : List Int), vs = [.ref t] ∧ SqT K H t (ls.map V.int) ∧ ls.length ≤ 8 ∧ ∀ H', Same H H' → Q (.bl (levelB ls)) H'
abbrev nHasL : List Str := ["lengths", "sums", "length", "one"]
theorem scHasL : FnScope nHasL ["lengths"] (defScope sHasLevel) := ⟨rfl, rfl, rfl, by decide +kernel, rfl, by decide +kernel, by decide +kernel⟩
theorem ok_hasL {f : Addr} {fd : FuncData} (F : Fun K "has_level" "has_level" sHasLevel f fd) (T : Bi mg) : FnOk P w K mg base CX0 2 f fd ["lengths"] (spHasL K) := by
  refine F.ok scHasL (fun vs H Q E h => ?_) (fun cdv A outer s H vs Q E hr h => ?_)
  · obtain ⟨a, ls, rfl, _⟩ := h
    rfl
  · have nd := scHasL.nd
    refine ⟨_, pss_cons (ps_set (i := 1) nd rfl (Or.inl rfl) (pe_lst (pa_cons pe_int pa_nil)))
      (pss_cons (ps_for PassesOwn.never rfl (pi_tup (pv 0)) (pg_name (i := 2) nd rfl (Or.inr rfl)) (pss_one (ps_set (i := 1) nd rfl (Or.inl rfl) (pe_op op_cat (pv 1) (pe_lc (own := [("one", 3)]) (g := gName 3) (tt := tYes) rfl nd (pi_list (pv 1))
        (blkOk_by (N := nHasL) (sc := defScope sHasLevel) (by decide +kernel)) (fun _ _ _ _ _ => pg_name (i := 3) nd rfl (Or.inl rfl)) (fun _ _ _ _ _ => pts_nil) (fun _ _ _ _ _ => pe_op op_add (pv 3) (pv 2)))))))
      (pss_one (ps_ret (pe_callB (cr_any rfl) (by rfl) T.any (by decide +kernel) (pa_cons (pe_lc (own := [("one", 3)]) (g := gName 3) (tt := tYes) rfl nd (pi_list (pv 1))
        (blkOk_by (N := nHasL) (sc := defScope sHasLevel) (by decide +kernel)) (fun _ _ _ _ _ => pg_name (i := 3) nd rfl (Or.inl rfl)) (fun _ _ _ _ _ => pts_nil) (fun _ _ _ _ _ => pe_cmpR op_eq (pe_op op_mul pe_int (pv 3)) (pe_callB (r := rSumT K) (cr_sumT (by rfl)) (by rfl) T.sum (by decide +kernel) (pa_cons (pv 0) pa_nil)) (nomark _))) pa_nil))))), ?_⟩
    obtain ⟨t, ls, rfl, hs, hl, q⟩ := h
    refine ⟨(by show 1 ≤ sizeLine; decide), fun l0 hl0 => ?_⟩
    have s0 : Same H (upd H l0 (.lst [.int 0])) := (Same.refl H).new hl0
    have pw : ∀ i, i ≤ ls.length → (sumsOf (ls.take i)).length ≤ 256 := fun i hi => by
      rw [sums_len ls i hi]
      exact Nat.pow_le_pow_right (by decide) (show i ≤ 8 by omega)
    refine ⟨_, rfl, t, rfl, ⟨_, s0.tup hs⟩, for_tup (K := K) (a := t) (xs := ls.map V.int) (fun i σ H' => ∃ (l : Addr) (z : Option V), σ = [some (.ref t), some (.ref l), z, none] ∧ Same H H' ∧ H' l = some (.lst ((sumsOf (ls.take i)).map V.int)))
      ⟨l0, none, rfl, s0, upd_same⟩ (fun i σ H' _ ⟨_, _, _, s, _⟩ => s.tup hs) ?_ ?_⟩
    · rintro i x σ H' hi ⟨l, z, rfl, s1, h1⟩
      obtain ⟨z, hz, rfl⟩ := int_at hi
      have hil : i < ls.length := (List.getElem?_eq_some_iff.mp hz).1
      have p1 := pw i (by omega)
      refine ⟨_, rfl, _, rfl, l, rfl, ⟨_, SqL.of h1⟩, fun D hD => ?_⟩
      have hlD : l ≠ D := ne_of_none h1 hD
      refine lc_list (K := K) (a := l) (xs := (sumsOf (ls.take i)).map V.int) (fun j H2 => Same H' H2 ∧ H2 D = some (.lst ((((sumsOf (ls.take i)).take j).map (· + z)).map V.int))) ⟨(Same.refl H').new hD, upd_same⟩ (fun j H2 _ p => p.1.seq (SqL.of h1)) ?_ ?_
      · rintro j y H2 hj ⟨s2, h2⟩
        obtain ⟨o, ho, rfl⟩ := int_at hj
        refine ⟨rfl, _, rfl, _, rfl, _, _, rfl, rfl, _, h2, (by rw [List.length_map, List.length_map, List.length_take]; exact sm (by omega)), s2.mut hD, ?_⟩
        rw [upd_same, ← take_snoc ho, List.map_append, List.map_append]
        rfl
      · rintro H2 ⟨s2, h2⟩
        rw [List.length_map, List.take_length] at h2
        refine ⟨l, D, _, _, rfl, rfl, s2 _ _ h1, h2, (by rw [List.length_map, List.length_map, List.length_map]; exact Nat.le_of_lt (sm (by omega))), fun p hp => ⟨p, _, rfl, (s1.trans s2).new hp, ?_⟩⟩
        rw [upd_same, sums_take hz, List.map_append]
    · rintro σ H' ⟨l, z, rfl, s1, h1⟩
      rw [List.length_map, List.take_length] at h1
      have p1 := pw ls.length (Nat.le_refl _)
      rw [List.take_length] at p1
      refine ⟨_, rfl, l, rfl, ⟨_, SqL.of h1⟩, fun D hD => ?_⟩
      refine lc_list (K := K) (a := l) (xs := (sumsOf ls).map V.int) (fun j H2 => Same H' H2 ∧ H2 D = some (.lst ((((sumsOf ls).take j).map fun o => decide (2 * o = ls.sum)).map V.bl))) ⟨(Same.refl H').new hD, upd_same⟩ (fun j H2 _ p => p.1.seq (SqL.of h1)) ?_ ?_
      · rintro j y H2 hj ⟨s2, h2⟩
        obtain ⟨o, ho, rfl⟩ := int_at hj
        refine ⟨rfl, _, rfl, _, _, rfl, rfl, .inl ⟨by decide, by decide⟩, _, rfl, t, ls, rfl, (s1.trans s2).tup hs, rfl, _, h2, (by rw [List.length_map, List.length_map, List.length_take]; exact sm (by omega)), s2.mut hD, ?_⟩
        rw [upd_same, ← take_snoc ho, List.map_append, List.map_append, dec_int]
        rfl
      · rintro H2 ⟨s2, h2⟩
        rw [List.length_map, List.take_length] at h2
        refine ⟨D, _, rfl, SqL.of h2, ?_⟩
        rw [all_any]
        exact q H2 (s1.trans s2)
/-! ### Ring.__init__ -/
def spRI (K : PySem.W.Frag) (C : Addr) : Sp := fun vs H Q _ => ∃ (r l dx : Addr) (ls : List Int), vs = [.ref r, .ref l] ∧ H r = some (.ins C dx []) ∧ Knd K H (.ref l) "list" ∧ SqL K H l (ls.map V.int) ∧ 3 ≤ ls.length ∧ ls.length ≤ 8 ∧ Bd 1000000 ls ∧
  ∀ H', RingAt K C H' r ls → (∀ b o, H b = some o → b ≠ r → H' b = some o) → Q .non H'
theorem scRI : FnScope ["self", "lengths"] ["self", "lengths"] (defScope sRingInit) := ⟨rfl, rfl, rfl, by decide +kernel, rfl, by decide +kernel, by decide +kernel⟩
theorem ok_ri {C f fA fH : Addr} {fd fdA fdH : FuncData} (F : Fun K "__init__" "Ring.__init__" sRingInit f fd) (T : Bi mg) (N : Nm mg) (R : RingC K mg C) (A' : DefAt P w K mg base CX0 3 "are_lengths" ["value"] (spAreL K) fA fdA) (L : DefAt P w K mg base CX0 2 "has_level" ["lengths"] (spHasL K) fH fdH) : FnOk P w K mg base CX0 4 f fd ["self", "lengths"] (spRI K C) := by
  refine F.ok scRI (fun vs H Q E h => ?_) (fun cdv A outer s H vs Q E hr h => ?_)
  · obtain ⟨r, l, dx, ls, rfl, _⟩ := h
    rfl
  · obtain ⟨t3, h3⟩ := N.leastB
    obtain ⟨t8, h8⟩ := N.mostB
    refine ⟨_, pss_cons (ps_if (pt_not (pt_val (pe_call A'.ok hr rfl A'.g A'.kp A'.b .nil pass0 (pa_cons (pv 1) pa_nil)))) (pss_one ps_never) pss_nil)
      (pss_cons (ps_if (pt_cmpR op_lt (pe_callB call_len_seq (by rfl) T.len PySem.boot_len (pa_cons (pv 1) pa_nil)) (pe_glob (v := .int 3) rfl h3 ⟨_, rfl⟩) (nomark _)) (pss_one ps_never) pss_nil)
      (pss_cons (ps_if (pt_cmpR op_gt (pe_callB call_len_seq (by rfl) T.len PySem.boot_len (pa_cons (pv 1) pa_nil)) (pe_glob (v := .int 8) rfl h8 ⟨_, rfl⟩) (nomark _)) (pss_one ps_never) pss_nil)
      (pss_cons (ps_fld (pv 0) (pe_callTy cr_tupF (by rfl) T.tuple (by decide +kernel) (pa_cons (pv 1) pa_nil)) rfl)
      (pss_cons (ps_fld (pv 0) (pe_callB (cr_sumT rfl) (by rfl) T.sum (by decide +kernel) (pa_cons (pe_fld (pv 0) rfl) pa_nil)) rfl)
      (pss_cons (ps_fld (pv 0) (pe_cmpR op_le (pe_op op_mul pe_int (pe_callB (cr_maxT rfl) (by rfl) T.max (by decide +kernel) (pa_cons (pe_fld (pv 0) rfl) pa_nil))) (pe_fld (pv 0) rfl) (nomark _)) rfl)
      (pss_one (ps_fld (pv 0) (pe_not (pe_call L.ok (hr.mono (by decide)) rfl L.g L.kp L.b .nil pass0 (pa_cons (pe_fld (pv 0) rfl) pa_nil))) rfl))))))), ?_⟩
    obtain ⟨r, l, dx, ls, rfl, hr0, hk, hs, l3, l8, hb, q⟩ := h
    refine ⟨_, rfl, l, ls, rfl, hk, hs, by omega, hb, fun H1 s1 => ⟨_, rfl, iteF ?_⟩⟩
    refine ⟨_, rfl, l, _, rfl, .inl (s1.seq hs), _, _, rfl, rfl, _, rfl, iteDF (by rw [List.length_map]; omega) ?_⟩
    refine ⟨_, rfl, l, _, rfl, .inl (s1.seq hs), _, _, rfl, rfl, _, rfl, iteDF (by rw [List.length_map]; omega) ?_⟩
    have hr1 := s1 _ _ hr0
    refine ⟨_, rfl, l, _, rfl, s1.seq hs, fun t o ht hd => ?_⟩
    have nrt : r ≠ t := ne_of_none hr1 ht
    have ht0 := s1.free ht
    have tup0 : ∀ u, upd (upd H1 t (.frz o (.tup (ls.map V.int)))) r u t = some (.frz o (.tup (ls.map V.int))) := fun u => by rw [upd_ne nrt.symm, upd_same]
    refine ⟨_, rfl, r, C, dx, [], rfl, (by rw [upd_ne nrt]; exact hr1), R.cl, R.nL, (by show 0 < 1000; decide), ?_⟩
    -- self.total
    refine ⟨_, rfl, r, C, dx, _, _, rfl, upd_same, R.cl, R.nL, (by rw [lookup_putF, if_pos rfl]), t, ls, rfl, .inl (.inr ⟨o, tup0 _⟩), _, rfl, r, C, dx, _, rfl, upd_same, R.cl, R.nT, (by show 1 < 1000; decide), ?_⟩
    rw [upd_upd]
    -- self.closes
    refine ⟨_, rfl, r, C, dx, _, _, rfl, upd_same, R.cl, R.nL, (by rw [lookup_putF, if_neg n1, lookup_putF, if_pos rfl]), t, ls, rfl, .inl (.inr ⟨o, tup0 _⟩), by omega, fun m hm hx => ?_⟩
    refine ⟨_, _, rfl, rfl, .inl ⟨by decide, by decide⟩, _, rfl, r, C, dx, _, _, rfl, upd_same, R.cl, R.nT, (by rw [lookup_putF, if_pos rfl]), _, _, rfl, rfl, _, rfl, r, C, dx, _, rfl, upd_same, R.cl, R.nC, ?_, ?_⟩
    · have e1 := length_putF "total" (V.int ls.sum) (putF "lengths" (V.ref t) [])
      have e2 := length_putF "lengths" (V.ref t) []
      simp only [List.length_nil] at e2
      omega
    dsimp only
    rw [upd_upd, closes_max hm hx]
    -- self.is_clear
    refine ⟨_, rfl, r, C, dx, _, _, rfl, upd_same, R.cl, R.nL, (by rw [lookup_putF, if_neg n2, lookup_putF, if_neg n1, lookup_putF, if_pos rfl]), t, ls, rfl, .inl (.inr ⟨o, tup0 _⟩), l8, fun H5 s5 => ⟨_, rfl, _, rfl, r, C, dx, _, rfl, s5 _ _ upd_same, R.cl, R.nI, ?_, ?_⟩⟩
    · have e1 := length_putF "total" (V.int ls.sum) (putF "lengths" (V.ref t) [])
      have e2 := length_putF "lengths" (V.ref t) []
      have e3 := length_putF "closes" (V.bl (closesB ls)) (putF "total" (V.int ls.sum) (putF "lengths" (V.ref t) []))
      simp only [List.length_nil] at e2
      omega
    · have tf := s5 _ _ (tup0 _)
      refine q _ ⟨dx, t, upd_same, .inl (.inr ⟨o, by rw [upd_ne nrt.symm]; exact tf⟩), o, by rw [upd_ne nrt.symm]; exact tf, hd⟩ fun b o e hbr => ?_
      rw [upd_ne hbr]
      refine s5 _ _ ?_
      rw [upd_ne hbr, upd_ne (ne_of_none (s1 _ _ e) ht)]
      exact s1 _ _ e
end
end K
namespace K
open PySem L2 Rg
open Evl (pss_cut)
theorem perm_sum {a b : List Int} (h : a.Perm b) : a.sum = b.sum := by
  induction h with
  | nil => rfl
  | cons x _ ih => rw [List.sum_cons, List.sum_cons, ih]
  | swap x y l => simp only [List.sum_cons]; omega
  | trans _ _ ih1 ih2 => exact ih1.trans ih2
theorem lsum_perm {ls a b : List Int} (h : a.Perm b) : lsum ls a = lsum ls b := perm_sum (h.map _)
section
variable {P : Program} {w : World} {K : PySem.W.Frag} {mg : Str → Option Value} {base : Heap}
/-- a value passed for a lot of a ring of many bars: what becomes of it, k of what it is if it is one -/
def LotV (K : PySem.W.Frag) (H : Hp) (E : XK) (c : Cs) (many : Int) (part : Str) (v : V) (k : List Int → Prop) : Prop :=
  (∃ kd, Knd K H v kd ∧ kd ≠ "list" ∧ kd ≠ "tuple" ∧ Errs E c.l "part" (.str part) H) ∨
  (∃ (a : Addr) (xs : List V) (kf : V → String), v = .ref a ∧ Knd K H (.ref a) "list" ∧ SqL K H a xs ∧ xs.length ≤ 1000 ∧ (∀ x ∈ xs, Knd K H x (kf x)) ∧
    (((xs.all fun x => decide (kf x = "int")) = false ∧ Errs E c.l "part" (.str part) H) ∨ ∃ ns, xs = ns.map V.int ∧ (xs.all fun x => decide (kf x = "int")) = true ∧ LotFin E c part H (res many ns) k)) ∨
  (∃ (a : Addr) (ns : List Int), v = .ref a ∧ Knd K H (.ref a) "tuple" ∧ SqT K H a (ns.map V.int) ∧ ns.length ≤ 1000 ∧ LotFin E c part H (res many ns) k)
theorem LotFin.imp {E : XK} {c : Cs} {part : Str} {H : Hp} {r : Lr} {k k' : List Int → Prop} (h : LotFin E c part H r k) (i : ∀ ns, k ns → k' ns) : LotFin E c part H r k' := by
  cases r with
  | bad => exact h
  | bar b => exact h
  | twice b => exact h
  | ok ns => exact i ns h
theorem LotV.imp {H : Hp} {E : XK} {c : Cs} {many : Int} {part : Str} {v : V} {k k' : List Int → Prop} (h : LotV K H E c many part v k) (i : ∀ ns, k ns → k' ns) : LotV K H E c many part v k' := by
  rcases h with h | ⟨a, xs, kf, e, h1, h2, h3, h4, h⟩ | ⟨a, ns, e, h1, h2, h3, h4⟩
  · exact .inl h
  · refine .inr (.inl ⟨a, xs, kf, e, h1, h2, h3, h4, ?_⟩)
    rcases h with h | ⟨ns, q1, q2, q3⟩
    · exact .inl h
    · exact .inr ⟨ns, q1, q2, q3.imp i⟩
  · exact .inr (.inr ⟨a, ns, e, h1, h2, h3, h4.imp i⟩)
def spWL (K : PySem.W.Frag) (c : Cs) : Sp := fun vs H Q E => ∃ (v : V) (many : Int) (part : Str), vs = [v, .int many, .str part] ∧ LotV K H E c many part v fun ns => ∀ (p : Addr) (ms : List Int) (H' : Hp), ms.Perm ns → Same H H' → H' p = some (.tup (ms.map V.int)) → Q (.ref p) H'
theorem ok_wl {CX : CXT} {k : Nat} {f : Addr} {fd : FuncData} {ps : List Str} {c : Cs} (F1 : FnOk P w K mg base CX k f fd ps (spWLO K c)) (F2 : FnOk P w K mg base CX k f fd ps (spWLL K c)) (F3 : FnOk P w K mg base CX k f fd ps (spWLT K c)) : FnOk P w K mg base CX k f fd ps (spWL K c) := by
  refine (fn_or F1 (fn_or F2 F3)).imp fun vs H Q E h => ?_
  obtain ⟨v, many, part, rfl, h⟩ := h
  rcases h with ⟨kd, h1, h2, h3, h4⟩ | ⟨a, xs, kf, rfl, h1, h2, h3, h4, h⟩ | ⟨a, ns, rfl, h1, h2, h3, h4⟩
  · exact .inl ⟨v, kd, many, part, rfl, h1, h2, h3, h4⟩
  · exact .inr (.inl ⟨a, xs, kf, many, part, rfl, h1, h2, h3, h4, h⟩)
  · exact .inr (.inr ⟨a, ns, many, part, rfl, h1, h2, h3, h4⟩)
/-- a ring, of whose tuple of lengths nothing is known but its items -/
def RingW (K : PySem.W.Frag) (C : Addr) (H : Hp) (r : Addr) (ls : List Int) : Prop := ∃ dx t, H r = some (.ins C dx (rf t ls)) ∧ SqT K H t (ls.map V.int)
theorem RingAt.weak {C : Addr} {H : Hp} {r : Addr} {ls : List Int} (h : RingAt K C H r ls) : RingW K C H r ls := let ⟨dx, t, h1, h2, _⟩ := h; ⟨dx, t, h1, h2⟩
/-! ### len(ring) -/
def spRLen (K : PySem.W.Frag) (C : Addr) : Sp := fun vs H Q _ => ∃ (r : Addr) (ls : List Int), vs = [.ref r] ∧ RingW K C H r ls ∧ Q (.int ls.length) H
theorem scRLen : FnScope ["self"] ["self"] (defScope sRingLen) := ⟨rfl, rfl, rfl, by decide +kernel, rfl, by decide +kernel, by decide +kernel⟩
theorem ok_rlen {C f : Addr} {fd : FuncData} (F : Fun K "__len__" "Ring.__len__" sRingLen f fd) (T : Bi mg) (R : RingC K mg C) : FnOk P w K mg base CX0 1 f fd ["self"] (spRLen K C) := by
  refine F.ok scRLen (fun vs H Q E h => ?_) (fun cdv A outer s H vs Q E hr h => ?_)
  · obtain ⟨r, ls, rfl, _⟩ := h
    rfl
  · refine ⟨_, pss_one (ps_ret (pe_callB call_len_seq (by rfl) T.len PySem.boot_len (pa_cons (pe_fld (pv 0) rfl) pa_nil))), ?_⟩
    obtain ⟨r, ls, rfl, ⟨dx, t, hr0, ht⟩, q⟩ := h
    refine ⟨_, rfl, r, C, dx, _, _, rfl, hr0, R.cl, R.nL, rf_lengths _ _, t, _, rfl, .inr ht, ?_⟩
    rw [List.length_map]
    exact q
/-! ### ring.length_of(lot), ring.sort_of(lot) -/
def spLenOf (K : PySem.W.Frag) (C : Addr) (c : Cs) : Sp := fun vs H Q E => ∃ (r : Addr) (v : V) (ls : List Int), vs = [.ref r, v] ∧ RingW K C H r ls ∧ ls.length ≤ 8 ∧ LotV K H E c ls.length "lot" v fun ns => ∀ H', Same H H' → Q (.int (lsum ls ns)) H'
abbrev nLenOf : List Str := ["self", "lot", "bars", "bar"]
theorem scLenOf : FnScope nLenOf ["self", "lot"] (defScope sRingLengthOf) := ⟨rfl, rfl, rfl, by decide +kernel, rfl, by decide +kernel, by decide +kernel⟩
theorem get_len {ls : List Int} {b : Int} (h0 : 0 ≤ b) (h1 : b < (ls.length : Int)) : atI (ls.map V.int) b = some (V.int (ls.getD b.toNat 0)) := by
  have hb : b.toNat < ls.length := by omega
  refine at_of (j := b.toNat) (by omega) ?_
  rw [int_get hb, List.getD_eq_getElem?_getD, List.getElem?_eq_getElem hb]
  rfl
theorem res_ok {many : Int} {ns ms : List Int} (h : res many ns = .ok ms) : ms = ns ∧ (∀ x ∈ ns, isBar many x = true) ∧ ft [] ns = none := by
  unfold res at h
  cases e : ns.find? (fun b => !isBar many b) with
  | some b => rw [e] at h; cases h
  | none =>
    rw [e] at h
    cases e2 : ft [] ns with
    | some b => rw [e2] at h; cases h
    | none =>
      rw [e2] at h
      cases h
      refine ⟨rfl, fun x hx => ?_, rfl⟩
      have := List.find?_eq_none.mp e x hx
      simpa using this
/-- a lot that is one, with what is known of it -/
theorem LotFin.fine {E : XK} {c : Cs} {part : Str} {H : Hp} {many : Int} {ns : List Int} {k k' : List Int → Prop} (h : LotFin E c part H (res many ns) k) (hl : ns.length ≤ 1000) (i : ∀ ms, ms.length ≤ 1000 → (∀ x ∈ ms, isBar many x = true) → k ms → k' ms) : LotFin E c part H (res many ns) k' := by
  cases e : res many ns with
  | bad => rw [e] at h; exact h
  | bar b => rw [e] at h; exact h
  | twice b => rw [e] at h; exact h
  | ok ms =>
    rw [e] at h
    obtain ⟨rfl, a, _⟩ := res_ok e
    exact i ms hl a h
theorem LotV.fine {H : Hp} {E : XK} {c : Cs} {many : Int} {part : Str} {v : V} {k k' : List Int → Prop} (h : LotV K H E c many part v k) (i : ∀ ms, ms.length ≤ 1000 → (∀ x ∈ ms, isBar many x = true) → k ms → k' ms) : LotV K H E c many part v k' := by
  rcases h with h | ⟨a, xs, kf, e, h1, h2, h3, h4, h⟩ | ⟨a, ns, e, h1, h2, h3, h4⟩
  · exact .inl h
  · refine .inr (.inl ⟨a, xs, kf, e, h1, h2, h3, h4, ?_⟩)
    rcases h with h | ⟨ns, q1, q2, q3⟩
    · exact .inl h
    · exact .inr ⟨ns, q1, q2, q3.fine (by rw [q1, List.length_map] at h3; exact h3) i⟩
  · exact .inr (.inr ⟨a, ns, e, h1, h2, h3, h4.fine h3 i⟩)
theorem ok_lenOf {C f fW : Addr} {c : Cs} {fd fdW : FuncData} (F : Fun K "length_of" "Ring.length_of" sRingLengthOf f fd) (T : Bi mg) (R : RingC K mg C) (W : DefAt P w K mg base (L2.CX P w) 4 "want_lot" ["value", "many", "part"] (spWL K c) fW fdW) : FnOk P w K mg base (L2.CX P w) 5 f fd ["self", "lot"] (spLenOf K C c) := by
  refine F.okX scLenOf (fun vs H Q E h => ?_) (fun cdv A outer s H vs Q E hr h => ?_)
  · obtain ⟨r, v, ls, rfl, _⟩ := h
    rfl
  · have nd := scLenOf.nd
    refine ⟨_, pss_cons (ps_set (i := 2) nd rfl (Or.inl rfl) (pe_call W.ok hr rfl W.g W.kp W.b .nil (passes_call (takes_of rfl rfl rfl rfl) (fun _ _ _ _ h => h)) (pa_cons (pv 1) (pa_cons (pe_callB call_len_seq (by rfl) T.len PySem.boot_len (pa_cons (pe_fld (pv 0) rfl) pa_nil)) (pa_cons pe_str pa_nil)))))
      (pss_one (ps_ret (pe_callB (cr_sum rfl) (by rfl) T.sum (by decide +kernel) (pa_cons (pe_lc (own := [("bar", 3)]) (g := gName 3) (tt := tYes) (te := tOp (rIxT K) (tFld K (tVar 0) "lengths") (tVar 3)) rfl nd (pi_tup (pv 2))
        (blkOk_by (N := nLenOf) (sc := defScope sRingLengthOf) (by decide +kernel)) (fun _ _ _ _ _ => pg_name (i := 3) nd rfl (Or.inl rfl)) (fun _ _ _ _ _ => pts_nil) (fun _ _ _ _ _ => pe_ix (r := rIxT K) ix_tup (pe_fld (pv 0) rfl) (pv 3) (fun _ _ => rfl))) pa_nil)))), ?_⟩
    obtain ⟨r, v, ls, rfl, ⟨dx, t, hr0, ht⟩, l8, q⟩ := h
    refine ⟨_, rfl, _, rfl, r, C, dx, _, _, rfl, hr0, R.cl, R.nL, rf_lengths _ _, t, _, rfl, .inr ht, v, ls.length, "lot", by rw [List.length_map]; rfl, q.fine fun ns hns al q => ?_⟩
    intro p ms H1 pm s1 hp
    have hms : ms.length ≤ 1000 := by rw [pm.length_eq]; exact hns
    refine ⟨_, rfl, p, rfl, ⟨_, .inl (.inl hp)⟩, fun D hD => ?_⟩
    have hD0 := s1.free hD
    refine lc_tup (K := K) (a := p) (xs := ms.map V.int) (fun i H' => Same H H' ∧ H' p = some (.tup (ms.map V.int)) ∧ H' D = some (.lst (((ms.take i).map fun b => ls.getD b.toNat 0).map V.int))) ⟨s1.new hD, by rw [upd_ne (ne_of_none hp hD)]; exact hp, upd_same⟩ (fun i H' _ q => .inl (.inl q.2.1)) ?_ ?_
    · rintro i x H' hi ⟨s2, h1, h2⟩
      obtain ⟨z, hz, rfl⟩ := int_at hi
      have hil : i < ms.length := (List.getElem?_eq_some_iff.mp hz).1
      have az := al z (pm.mem_iff.mp (List.mem_of_getElem? hz))
      refine ⟨rfl, _, rfl, r, C, dx, _, _, rfl, s2 _ _ hr0, R.cl, R.nL, rf_lengths _ _, _, rfl, t, _, z, _, rfl, rfl, s2.tup ht, get_len (isBar_iff.mp az).1 (isBar_iff.mp az).2, _, h2, (by rw [List.length_map, List.length_map, List.length_take]; exact sm (by omega)), s2.mut hD0, by rw [upd_ne (ne_of_none hp hD)]; exact h1, ?_⟩
      rw [upd_same, ← take_snoc hz, List.map_append, List.map_append]
      rfl
    · rintro H' ⟨s2, h1, h2⟩
      rw [List.length_map, List.take_length] at h2
      refine ⟨D, _, rfl, SqL.of h2, ?_⟩
      have q2 := q H' s2
      rw [← lsum_perm pm] at q2
      exact q2
def sbV (e : Int) : Str := if e = 0 then "level" else if e < 0 then "short" else "long"
def spSortBy : Sp := fun vs H Q _ => ∃ e : Int, vs = [.int e] ∧ Q (.str (sbV e)) H
theorem scSortBy : FnScope ["excess"] ["excess"] (defScope sSortBy) := ⟨rfl, rfl, rfl, by decide +kernel, rfl, by decide +kernel, by decide +kernel⟩
theorem ok_sortBy {f : Addr} {fd : FuncData} (F : Fun K "sort_by" "sort_by" sSortBy f fd) : FnOk P w K mg base CX0 1 f fd ["excess"] spSortBy := by
  refine F.ok scSortBy (fun vs H Q E h => ?_) (fun cdv A outer s H vs Q E hr h => ?_)
  · obtain ⟨e, rfl, _⟩ := h
    rfl
  · refine ⟨_, pss_cons (ps_if (pt_cmpR op_eq (pv 0) pe_int (nomark _)) (pss_one (ps_ret pe_str)) pss_nil)
      (pss_one (ps_ret (pe_ifExp (pt_cmpR op_lt (pv 0) pe_int (nomark _)) pe_str pe_str))), ?_⟩
    obtain ⟨e, rfl, q⟩ := h
    unfold sbV at q
    refine ⟨_, rfl, rfl, _, rfl, ?_⟩
    by_cases c : e = 0
    · rw [if_pos c] at q
      exact iteDT (congrArg V.int c) q
    · rw [if_neg c] at q
      refine iteDF (fun z => c (V.int.inj z)) ?_
      refine ⟨_, rfl, _, _, rfl, rfl, _, rfl, ?_⟩
      by_cases c2 : e < 0
      · rw [if_pos c2] at q
        exact iteDT c2 q
      · rw [if_neg c2] at q
        exact iteDF c2 q
theorem sbV_sort (ls ns : List Int) : sbV (2 * lsum ls ns - ls.sum) = sortV ls ns := by
  unfold sbV sortV
  by_cases c : 2 * lsum ls ns = ls.sum
  · rw [if_pos c, if_pos (by omega)]
  · rw [if_neg c, if_neg (by omega)]
    by_cases d : 2 * lsum ls ns < ls.sum
    · rw [if_pos d, if_pos (by omega)]
    · rw [if_neg d, if_neg (by omega)]
abbrev nSortOf : List Str := ["self", "lot"]
theorem scSortOf : FnScope nSortOf ["self", "lot"] (defScope sRingSortOf) := ⟨rfl, rfl, rfl, by decide +kernel, rfl, by decide +kernel, by decide +kernel⟩
def spSortOf (K : PySem.W.Frag) (C : Addr) (c : Cs) : Sp := fun vs H Q E => ∃ (r : Addr) (v : V) (ls : List Int), vs = [.ref r, v] ∧ RingW K C H r ls ∧ ls.length ≤ 8 ∧ LotV K H E c ls.length "lot" v fun ns => ∀ H', Same H H' → Q (.str (sortV ls ns)) H'
theorem ok_sortOf {C f fL fB : Addr} {c : Cs} {fd fdL fdB : FuncData} (F : Fun K "sort_of" "Ring.sort_of" sRingSortOf f fd) (R : RingC K mg C) (M : Meth K C "length_of" fL) (L : FnOk P w K mg base (L2.CX P w) 5 fL fdL ["self", "lot"] (spLenOf K C c)) (LB : Binds K fdL ["self", "lot"] []) (SB : DefAt P w K mg base CX0 1 "sort_by" ["excess"] spSortBy fB fdB) : FnOk P w K mg base (L2.CX P w) 6 f fd ["self", "lot"] (spSortOf K C c) := by
  refine F.okX scSortOf (fun vs H Q E h => ?_) (fun cdv A outer s H vs Q E hr h => ?_)
  · obtain ⟨r, v, ls, rfl, _⟩ := h
    rfl
  · have nd := scSortOf.nd
    refine ⟨_, pss_one (ps_ret (pe_call SB.ok (hr.mono (by decide)) rfl SB.g SB.kp SB.b .nil pass0 (pa_cons (pe_op op_sub (pe_op op_mul pe_int (pe_meth (pv 0) R.cl M L hr LB .nil (passes_call (takes_of rfl rfl rfl rfl) (fun _ _ _ _ h => h)) (pa_cons (pv 1) pa_nil))) (pe_fld (pv 0) rfl)) pa_nil))), ?_⟩
    obtain ⟨r, v, ls, rfl, ⟨dx, t, hr0, ht⟩, l8, q⟩ := h
    refine ⟨_, rfl, r, dx, _, rfl, hr0, rf_no _ _ (by decide +kernel) (by decide +kernel) (by decide +kernel) (by decide +kernel), _, rfl, r, v, ls, rfl, ⟨dx, t, hr0, ht⟩, l8, q.imp fun ns q => ?_⟩
    intro H1 s1
    have hr1 := s1 _ _ hr0
    refine ⟨_, _, rfl, rfl, .inl ⟨by decide, by decide⟩, _, rfl, r, C, dx, _, _, rfl, hr1, R.cl, R.nT, rf_total _ _, _, _, rfl, rfl, _, rfl, ?_⟩
    have q1 := q H1 s1
    rw [← sbV_sort] at q1
    exact q1
end
end K
namespace K
open PySem L2 Rg
open Evl (pss_cut)
section
variable {P : Program} {w : World} {K : PySem.W.Frag} {mg : Str → Option Value} {base : Heap}
theorem kit_self {K : PySem.W.Frag} {C : Addr} : PySem.W.kitOne K (.ref C) (.ref C) = some true := by
  unfold PySem.W.kitOne
  simp
/-- what is no ring: a value of a kind that is no Ring -/
def NoR (K : PySem.W.Frag) (C : Addr) (H : Hp) (v : V) : Prop := ∃ k : String, TyX K H v (.type k) ∧ PySem.W.kitOne K (.type k) (.ref C) = some false
theorem NoR.same {C : Addr} {H H' : Hp} {v : V} (h : NoR K C H v) (s : Same H H') : NoR K C H' v := let ⟨k, a, b⟩ := h; ⟨k, tyx_same a s, b⟩
def spWantR (K : PySem.W.Frag) (C cR : Addr) : Sp := fun vs H Q E => ∃ (v : V) (part : Str), vs = [v, .str part] ∧ ((∃ r ls, v = .ref r ∧ RingW K C H r ls ∧ Q .non H) ∨ (NoR K C H v ∧ Errs E cR "part" (.str part) H))
theorem scWantR : FnScope ["value", "part"] ["value", "part"] (defScope sWantRing) := ⟨rfl, rfl, rfl, by decide +kernel, rfl, by decide +kernel, by decide +kernel⟩
theorem ok_wantR {C cR f fI : Addr} {fd fdI : FuncData} (F : Fun K "want_ring" "want_ring" sWantRing f fd) (T : Bi mg) (R : RingC K mg C) (B : ErrAt P w K mg base "BadRing" "part" cR fI fdI) : FnOk P w K mg base (L2.CX P w) 3 f fd ["value", "part"] (spWantR K C cR) := by
  refine F.okX scWantR (fun vs H Q E h => ?_) (fun cdv A outer s H vs Q E hr h => ?_)
  · obtain ⟨v, part, rfl, _⟩ := h
    rfl
  · refine ⟨_, pss_one (ps_if (pt_not (pt_val (pe_callB call_isi (by rfl) T.isinstance (by decide +kernel) (pa_cons (pv 0) (pa_cons (pe_glob (v := .ref C) rfl R.g rfl) pa_nil)))))
      (pss_one (ps_raise rfl (takes_of rfl rfl rfl rfl) (pmk_oex B.oex B.ic B.ti B.ok hr B.b .nil pass0 rfl B.g (pa_cons (pv 1) pa_nil)))) pss_nil), ?_⟩
    obtain ⟨v, part, rfl, h⟩ := h
    rcases h with ⟨r, ls, rfl, ⟨dx, t, hr0, ht⟩, q⟩ | ⟨⟨k, ty, kit⟩, er⟩
    · refine ⟨_, rfl, .ref r, .ref C, _, _, _, rfl, .own C, .base (.ins hr0 R.cl R.ha R.hn R.ht R.hm), kit_self, ?_⟩
      exact ⟨_, rfl, iteF q⟩
    · refine ⟨_, rfl, v, .ref C, _, _, _, rfl, .own C, ty, kit, ?_⟩
      exact ⟨_, rfl, iteT ⟨_, rfl, err_made B.oex B.nf er⟩⟩
end
end K
namespace K
open PySem L2 Rg
open Evl (pss_cut)
theorem ne_bb {a b : Bool} (h : a = b) : (!decide (V.bl a = V.bl b)) = false := by rw [h, decide_eq_true rfl]; rfl
theorem ne_vv (v : V) : (!decide (v = v)) = false := by rw [decide_eq_true rfl]; rfl
theorem at_back {α : Type} {xs : List α} {v : α} (hl : 0 < xs.length) (h : xs[xs.length - 1]? = some v) : atI xs (-1) = some v := by
  unfold atI ixN
  rw [if_neg (by decide), if_pos (by omega), show ((-1 : Int) + (xs.length : Int)).toNat = xs.length - 1 by omega]
  exact h
theorem shaped_nil : SeqAt.shaped (.list []) = true := shaped_ints []
theorem Bd.app {m : Int} {a b : List Int} (h : Bd m a) (k : Bd m b) : Bd m (a ++ b) := fun x hx => (List.mem_append.mp hx).elim (h x) (k x)
theorem Bd.take {m : Int} {a : List Int} (i : Nat) (h : Bd m a) : Bd m (a.take i) := fun x hx => h x (List.mem_of_mem_take hx)
theorem Bd.drop {m : Int} {a : List Int} (i : Nat) (h : Bd m a) : Bd m (a.drop i) := fun x hx => h x (List.mem_of_mem_drop hx)
theorem Bd.one {m x : Int} (h1 : 1 ≤ x) (h2 : x ≤ m) : Bd m [x] := fun y hy => by rw [List.mem_singleton.mp hy]; exact ⟨h1, h2⟩
theorem getD_mem {ls : List Int} {i : Nat} (h : i < ls.length) : ls.getD i 0 ∈ ls := by
  rw [List.getD_eq_getElem?_getD, List.getElem?_eq_getElem h]
  exact List.getElem_mem h
theorem Bd.get {m : Int} {ls : List Int} (h : Bd m ls) {i : Nat} (hi : i < ls.length) : 1 ≤ ls.getD i 0 ∧ ls.getD i 0 ≤ m := h _ (getD_mem hi)
theorem cut_from (xs : List V) {z : Int} {k : Nat} (hz : z = (k : Int)) : cutV xs (some z) none = xs.drop k := by
  subst hz
  unfold cutV
  rw [HT.sIx_nat, HT.sIx_none]
  by_cases h : k ≤ xs.length
  · rw [Nat.min_eq_left h, List.take_of_length_le (by rw [List.length_drop]; omega)]
  · rw [Nat.min_eq_right (by omega), List.drop_eq_nil_of_le (Nat.le_refl _), List.drop_eq_nil_of_le (show xs.length ≤ k by omega), List.take_nil]
theorem getL {ls : List Int} {z : Int} {i : Nat} (hz : z = (i : Int)) (h1 : i < ls.length) : atI (ls.map V.int) z = some (V.int (ls.getD i 0)) := by
  subst hz
  have h : (ls.map V.int)[i]? = some (V.int (ls.getD i 0)) := by rw [int_get h1, List.getD_eq_getElem?_getD, List.getElem?_eq_getElem h1]; rfl
  exact atI_nat h
theorem get_z {ls : List Int} {z : Int} (h0 : 0 ≤ z) (h1 : z < ls.length) : atI (ls.map V.int) z = some (V.int (ls.getD z.toNat 0)) := getL (i := z.toNat) (by omega) (by omega)
theorem eqvA_pd (a b : List Int) : PyData.eqv (.list (a.map PyData.int)) (.list (b.map PyData.int)) = decide (a = b) := by
  simp [PyData.eqv, Rg.eqvA_ints8]
section
variable {P : Program} {w : World} {K : PySem.W.Frag} {mg : Str → Option Value} {base : Heap}
theorem RingW.same {C : Addr} {H H' : Hp} {r : Addr} {ls : List Int} (h : RingW K C H r ls) (s : Same H H') : RingW K C H' r ls := by
  obtain ⟨dx, t, h1, h2⟩ := h
  exact ⟨dx, t, s _ _ h1, s.tup h2⟩
/-- a new ring is told, all that was tracked stands -/
def NewA (K : PySem.W.Frag) (C : Addr) (ls : List Int) (H : Hp) (Q : VK) : Prop := ∀ r H', RingAt K C H' r ls → Same H H' → H r = none → Q (.ref r) H'
theorem NewA.later {C : Addr} {ls : List Int} {H H1 : Hp} {Q : VK} (h : NewA K C ls H Q) (s : Same H H1) : NewA K C ls H1 Q := fun r H' a b c => h r H' a (s.trans b) (s.free c)
/-! ### want_number of what is one -/
def spNumV : Sp := fun vs H Q _ => ∃ (v lo hi : Int) (part : Str), vs = [.int v, .int lo, .int hi, .str part] ∧ lo ≤ v ∧ v ≤ hi ∧ Q .non H
theorem scWantNum : FnScope ["value", "least", "most", "part"] ["value", "least", "most", "part"] (defScope sWantNumber) := ⟨rfl, rfl, rfl, by decide +kernel, rfl, by decide +kernel, by decide +kernel⟩
theorem ok_numV {f fW : Addr} {fd fdW : FuncData} (F : Fun K "want_number" "want_number" sWantNumber f fd) (W : DefAt P w K mg base CX0 2 "is_within" ["value", "least", "most"] spWithin fW fdW) : FnOk P w K mg base CX0 3 f fd ["value", "least", "most", "part"] spNumV := by
  refine F.ok scWantNum (fun vs H Q E h => ?_) (fun cdv A outer s H vs Q E hr h => ?_)
  · obtain ⟨v, lo, hi, part, rfl, _⟩ := h
    rfl
  · refine ⟨_, pss_one (ps_if (pt_not (pt_val (pe_call W.ok hr rfl W.g W.kp W.b .nil pass0 (pa_cons (pv 0) (pa_cons (pv 1) (pa_cons (pv 2) pa_nil)))))) (pss_one ps_never) pss_nil), ?_⟩
    obtain ⟨v, lo, hi, part, rfl, h0, h1, q⟩ := h
    refine ⟨_, rfl, _, rfl, _, rfl, v, lo, hi, rfl, _, rfl, ?_⟩
    refine iteBF ?_ q
    simp only [decide_eq_true h0, decide_eq_true h1]
    rfl
/-! ### is_within of anything -/
/-- what is_within tells of a value of the kind k -/
def winB (k : String) (lo hi : Int) (v : V) : Bool := decide (k = "int") && match v with
  | .int i => decide (lo ≤ i) && decide (i ≤ hi)
  | _ => false
def spWithinO (K : PySem.W.Frag) : Sp := fun vs H Q _ => ∃ (v : V) (k : String) (lo hi : Int), vs = [v, .int lo, .int hi] ∧ Knd K H v k ∧ k ≠ "int" ∧ Q (.bl false) H
theorem ok_withinO {f fI : Addr} {fd fdI : FuncData} (F : Fun K "is_within" "is_within" sIsWithin f fd) (G : DefAt P w K mg base CX0 1 "is_integer" ["value"] (spIsInt K) fI fdI) : FnOk P w K mg base CX0 2 f fd ["value", "least", "most"] (spWithinO K) := by
  refine F.ok scWithin (fun vs H Q E h => ?_) (fun cdv A outer s H vs Q E hr h => ?_)
  · obtain ⟨v, k, lo, hi, rfl, _⟩ := h
    rfl
  · refine ⟨_, pss_cons (ps_if (pt_not (pt_val (pe_call G.ok hr rfl G.g G.kp G.b .nil pass0 (pa_cons (pv 0) pa_nil)))) (pss_one (ps_ret pe_bl)) pss_nil) (pss_one ps_never), ?_⟩
    obtain ⟨v, k, lo, hi, rfl, hk, nk, q⟩ := h
    refine ⟨_, rfl, v, k, rfl, hk, _, rfl, ?_⟩
    rw [decide_eq_false nk]
    exact iteT q
/-- a value, of a kind, that is an int just if the kind says so -/
def KndI (K : PySem.W.Frag) (H : Hp) (v : V) (k : String) : Prop := Knd K H v k ∧ (k = "int" → ∃ i, v = .int i)
def spWithinG (K : PySem.W.Frag) : Sp := fun vs H Q _ => ∃ (v : V) (k : String) (lo hi : Int), vs = [v, .int lo, .int hi] ∧ KndI K H v k ∧ Q (.bl (winB k lo hi v)) H
theorem ok_withinG {f fI : Addr} {fd fdI : FuncData} (F : Fun K "is_within" "is_within" sIsWithin f fd) (G : DefAt P w K mg base CX0 1 "is_integer" ["value"] (spIsInt K) fI fdI) : FnOk P w K mg base CX0 2 f fd ["value", "least", "most"] (spWithinG K) := by
  refine (fn_or (ok_within F G) (ok_withinO F G)).imp fun vs H Q E h => ?_
  obtain ⟨v, k, lo, hi, rfl, ⟨hk, hi'⟩, q⟩ := h
  by_cases c : k = "int"
  · obtain ⟨i, rfl⟩ := hi' c
    refine .inl ⟨i, lo, hi, rfl, ?_⟩
    unfold winB at q
    rw [decide_eq_true c, Bool.true_and] at q
    exact q
  · refine .inr ⟨v, k, lo, hi, rfl, hk, c, ?_⟩
    unfold winB at q
    rw [decide_eq_false c, Bool.false_and] at q
    exact q
/-! ### want_number of anything -/
def spNumG (K : PySem.W.Frag) (C : Addr) : Sp := fun vs H Q E => ∃ (v : V) (k : String) (lo hi : Int) (part : Str), vs = [v, .int lo, .int hi, .str part] ∧ KndI K H v k ∧ ((winB k lo hi v = true ∧ Q .non H) ∨ (winB k lo hi v = false ∧ Errs E C "part" (.str part) H))
theorem ok_numG {f fW C fI : Addr} {fd fdW fdI : FuncData} (F : Fun K "want_number" "want_number" sWantNumber f fd) (W : DefAt P w K mg base CX0 2 "is_within" ["value", "least", "most"] (spWithinG K) fW fdW) (B : ErrAt P w K mg base "BadNumber" "part" C fI fdI) :
    FnOk P w K mg base (L2.CX P w) 3 f fd ["value", "least", "most", "part"] (spNumG K C) := by
  refine F.okX scWantNum (fun vs H Q E h => ?_) (fun cdv A outer s H vs Q E hr h => ?_)
  · obtain ⟨v, k, lo, hi, part, rfl, _⟩ := h
    rfl
  · refine ⟨_, pss_one (ps_if (pt_not (pt_val (pe_call W.ok hr rfl W.g W.kp W.b .nil pass0 (pa_cons (pv 0) (pa_cons (pv 1) (pa_cons (pv 2) pa_nil))))))
      (pss_one (ps_raise rfl (takes_of rfl rfl rfl rfl) (pmk_oex B.oex B.ic B.ti B.ok hr B.b .nil pass0 rfl B.g (pa_cons (pv 3) pa_nil)))) pss_nil), ?_⟩
    obtain ⟨v, k, lo, hi, part, rfl, hk, h⟩ := h
    refine ⟨_, rfl, _, rfl, _, rfl, v, k, lo, hi, rfl, hk, _, rfl, ?_⟩
    rcases h with ⟨e, q⟩ | ⟨e, q⟩
    · rw [e]; exact iteF q
    · rw [e]; exact iteT ⟨_, rfl, err_made B.oex B.nf q⟩
theorem madeL2 {C l : Addr} {E : XK} {H : Hp} {ls : List Int} {R : Addr → VK} (hs : H l = some (.lst (ls.map V.int))) (l3 : 3 ≤ ls.length) (l8 : ls.length ≤ 8) (bd : Bd 1000000 ls) (h : ∀ r H', RingAt K C H' r ls → Same H H' → H r = none → R r .non H') :
    ∀ x dx, H x = none → H dx = none → dx ≠ x → spRI K C (.ref x :: ([.ref l] ++ [])) (upd (upd H dx (.own x)) x (.ins C dx [])) (R x) E := by
  intro x dx hx hdx _
  have s0 : Same H (upd (upd H dx (.own x)) x (.ins C dx [])) := fun b o q => by
    rw [upd_ne (ne_of_none q hx), upd_ne (ne_of_none q hdx)]
    exact q
  exact ⟨x, l, dx, ls, rfl, upd_same, ⟨.base (.lst (s0 _ _ hs)), by decide⟩, SqL.of (s0 _ _ hs), l3, l8, bd, fun H' ring kp => h x H' ring (fun b o e => kp b o (s0 b o e) (ne_of_none e hx)) hx⟩
/-- the making of a Ring of a right list -/
structure RingP (P : Program) (w : World) (K : PySem.W.Frag) (mg : Str → Option Value) (base : Heap) (C fI : Addr) (fdI : FuncData) : Prop where
  made : Mk K C fI
  ok : FnOk P w K mg base CX0 4 fI fdI ["self", "lengths"] (spRI K C)
  b : Binds K fdI ["self", "lengths"] []
theorem sl_to {a : Addr} {ls : List Int} {i : Nat} {H : Hp} {Q : VK} (hs : SqT K H a (ls.map V.int)) (hi : i < ls.length) (k : ∀ t, H t = none → Q (.ref t) (upd H t (.tup ((ls.take i).map V.int)))) : rSlA K (.ref a) none (some (i : Int)) H Q := by
  refine ⟨a, _, rfl, hs, fun ⟨_, e2⟩ => ?_, fun _ p hp => ?_⟩
  · rw [HT.sIx_nat, List.length_map] at e2
    omega
  · rw [cutV_to, ← List.map_take]
    exact k p hp
theorem sl_from {a : Addr} {ls : List Int} {z : Int} {i : Nat} {H : Hp} {Q : VK} (hs : SqT K H a (ls.map V.int)) (hz : z = ((i + 1 : Nat) : Int)) (h0 : 0 < ls.length) (k : ∀ t, H t = none → Q (.ref t) (upd H t (.tup ((ls.drop (i + 1)).map V.int)))) : rSlA K (.ref a) (some z) none H Q := by
  refine ⟨a, _, rfl, hs, fun ⟨e1, _⟩ => ?_, fun _ p hp => ?_⟩
  · subst hz
    rw [HT.sIx_nat, List.length_map] at e1
    omega
  · rw [cut_from _ hz, ← List.map_drop]
    exact k p hp
theorem catI {a b : Addr} {xs ys : List Int} {H : Hp} {Q : VK} (ha : H a = some (.tup (xs.map V.int))) (hb : H b = some (.tup (ys.map V.int))) (hl : xs.length + ys.length ≤ 1000) (k : ∀ t H', H' t = some (.tup ((xs ++ ys).map V.int)) → Same H H' → Q (.ref t) H') : rCatA K (.ref a) (.ref b) H Q := by
  refine ⟨a, b, _, _, rfl, rfl, .inl (.inl ha), .inl (.inl hb), by rw [List.length_map, List.length_map]; exact Nat.le_of_lt (sm (by omega)), fun e => k b H ?_ (Same.refl H), fun _ e => k a H ?_ (Same.refl H), fun _ _ p hp => k p _ ?_ ((Same.refl H).new hp)⟩
  · rw [List.map_eq_nil_iff.mp e]; exact hb
  · rw [List.map_eq_nil_iff.mp e, List.append_nil]; exact ha
  · rw [upd_same, List.map_append]
end
end K
namespace K
open PySem L2 Rg
open Evl (pss_cut)
/-! ### all lots -/
def lotsN : Nat → List (List Int)
  | 0 => [[]]
  | n + 1 => lotsN n ++ (lotsN n).map (· ++ [(n : Int)])
def barsN : Nat → List Int
  | 0 => []
  | n + 1 => barsN n ++ [(n : Int)]
theorem lotsN_succ (n : Nat) : lotsN (n + 1) = lotsN n ++ (lotsN n).map (· ++ [(n : Int)]) := rfl
theorem barsN_succ (n : Nat) : barsN (n + 1) = barsN n ++ [(n : Int)] := rfl
theorem barsN_length : ∀ n, (barsN n).length = n
  | 0 => rfl
  | n + 1 => by unfold barsN; rw [List.length_append, barsN_length n]; rfl
theorem lotsN_length : ∀ n, (lotsN n).length = 2 ^ n
  | 0 => rfl
  | n + 1 => by unfold lotsN; rw [List.length_append, List.length_map, lotsN_length n, Nat.pow_succ]; omega
theorem lotsN_len : ∀ n, ∀ l ∈ lotsN n, l.length ≤ n
  | 0, l, h => by rw [List.mem_singleton.mp h]; exact Nat.le_refl _
  | n + 1, l, h => by
    rcases List.mem_append.mp h with h | h
    · exact Nat.le_succ_of_le (lotsN_len n l h)
    · obtain ⟨a, ha, rfl⟩ := List.mem_map.mp h
      have := lotsN_len n a ha
      rw [List.length_append, List.length_singleton]
      omega
theorem lotsN_full : ∀ n, ∀ l ∈ lotsN n, l.length = n → l = barsN n
  | 0, l, h, _ => List.mem_singleton.mp h
  | n + 1, l, h, hl => by
    rcases List.mem_append.mp h with h | h
    · have := lotsN_len n l h
      omega
    · obtain ⟨a, ha, rfl⟩ := List.mem_map.mp h
      rw [List.length_append, List.length_singleton] at hl
      rw [lotsN_full n a ha (by omega)]
      rfl
theorem lotsN_in : ∀ n, ∀ l ∈ lotsN n, ∀ b ∈ l, 0 ≤ b ∧ b < n
  | 0, l, h, b, hb => by rw [List.mem_singleton.mp h] at hb; cases hb
  | n + 1, l, h, b, hb => by
    rcases List.mem_append.mp h with h | h
    · have := lotsN_in n l h b hb
      omega
    · obtain ⟨a, ha, rfl⟩ := List.mem_map.mp h
      rcases List.mem_append.mp hb with hb | hb
      · have := lotsN_in n a ha b hb
        omega
      · rw [List.mem_singleton.mp hb]
        omega
theorem lotsN_nodup : ∀ n, ∀ l ∈ lotsN n, l.Nodup
  | 0, l, h => by rw [List.mem_singleton.mp h]; exact List.nodup_nil
  | n + 1, l, h => by
    rcases List.mem_append.mp h with h | h
    · exact lotsN_nodup n l h
    · obtain ⟨a, ha, rfl⟩ := List.mem_map.mp h
      rw [List.nodup_append]
      refine ⟨lotsN_nodup n a ha, by simp, fun x hx y hy => ?_⟩
      have := lotsN_in n a ha x hx
      rw [List.mem_singleton.mp hy]
      omega
theorem lotsN_nil : ∀ n, [] ∈ lotsN n
  | 0 => List.mem_singleton.mpr rfl
  | n + 1 => List.mem_append_left _ (lotsN_nil n)
theorem barsN_mem : ∀ n, barsN n ∈ lotsN n
  | 0 => List.mem_singleton.mpr rfl
  | n + 1 => List.mem_append_right _ (List.mem_map.mpr ⟨_, barsN_mem n, rfl⟩)
/-- the sums of the lengths are those of all lots -/
theorem lots_sums {ls : List Int} : ∀ n, n ≤ ls.length → (lotsN n).map (lsum ls) = sumsOf (ls.take n)
  | 0, _ => rfl
  | n + 1, h => by
    have hz : ls[n]? = some ls[n] := List.getElem?_eq_getElem h
    have ih := lots_sums (ls := ls) n (by omega)
    rw [sums_take hz, ← ih, lotsN_succ, List.map_append, List.map_map, List.map_map]
    congr 1
    refine List.map_congr_left fun l _ => ?_
    show lsum ls (l ++ [(n : Int)]) = lsum ls l + ls[n]
    unfold lsum
    rw [List.map_append, List.sum_append, List.map_singleton, List.sum_singleton, List.getD_eq_getElem?_getD, Int.toNat_natCast, hz]
    rfl
theorem level_lots (ls : List Int) : levelB ls = (lotsN ls.length).any fun l => decide (2 * lsum ls l = ls.sum) := by
  have h := lots_sums (ls := ls) ls.length (Nat.le_refl _)
  rw [List.take_length] at h
  unfold levelB
  rw [← h, List.any_map]
  rfl
theorem sum_bars {ls : List Int} : ∀ n, n ≤ ls.length → lsum ls (barsN n) = (ls.take n).sum
  | 0, _ => rfl
  | n + 1, h => by
    have hz : ls[n]? = some ls[n] := List.getElem?_eq_getElem h
    rw [← take_snoc hz, List.sum_append, ← sum_bars n (by omega), barsN_succ]
    unfold lsum
    rw [List.map_append, List.sum_append, List.map_singleton, List.sum_singleton, List.sum_singleton, List.getD_eq_getElem?_getD, Int.toNat_natCast, hz]
    rfl
section
variable {P : Program} {w : World} {K : PySem.W.Frag} {mg : Str → Option Value} {base : Heap}
/-- lots in a heap: kf tells the bars of each -/
def LotsAt (H : Hp) (xs : List V) (kf : V → List Int) : Prop := ∀ x ∈ xs, ∃ a, x = .ref a ∧ H a = some (.tup ((kf x).map V.int))
theorem LotsAt.same {H H' : Hp} {xs : List V} {kf : V → List Int} (h : LotsAt H xs kf) (s : Same H H') : LotsAt H' xs kf := fun x hx => let ⟨a, e, q⟩ := h x hx; ⟨a, e, s _ _ q⟩
/-- refs to tuples of ints, what they hold -/
def TL (H : Hp) : List V → List (List Int) → Prop := Paired fun x ns => ∃ a, x = V.ref a ∧ H a = some (.tup (ns.map V.int))
def PL (H : Hp) : List V → List (List Int) → Prop := Paired fun x ns => ∃ t b, x = V.ref t ∧ H t = some (.tup [.int (ns.length : Nat), .ref b]) ∧ H b = some (.tup (ns.map V.int))
theorem par_imp {α β : Type} {R S : α → β → Prop} (i : ∀ a b, R a b → S a b) : ∀ {xs : List α} {ys : List β}, Paired R xs ys → Paired S xs ys
  | _, _, .nil => .nil
  | _, _, .cons h t => .cons (i _ _ h) (par_imp i t)
theorem par_app {α β : Type} {R : α → β → Prop} : ∀ {xs : List α} {ys : List β} {zs : List α} {ws : List β}, Paired R xs ys → Paired R zs ws → Paired R (xs ++ zs) (ys ++ ws)
  | _, _, _, _, .nil, q => q
  | _, _, _, _, .cons h t, q => .cons h (par_app t q)
theorem par_len {α β : Type} {R : α → β → Prop} : ∀ {xs : List α} {ys : List β}, Paired R xs ys → xs.length = ys.length
  | _, _, .nil => rfl
  | _, _, .cons _ t => congrArg (· + 1) (par_len t)
theorem par_get {α β : Type} {R : α → β → Prop} : ∀ {xs : List α} {ys : List β}, Paired R xs ys → ∀ {i : Nat} {x : α}, xs[i]? = some x → ∃ y, ys[i]? = some y ∧ R x y
  | _, _, .cons h t, 0, x, e => ⟨_, rfl, by cases e; exact h⟩
  | _, _, .cons h t, i + 1, x, e => par_get t (by simpa using e)
theorem par_mem {α β : Type} {R : α → β → Prop} : ∀ {xs : List α} {ys : List β}, Paired R xs ys → ∀ {x : α}, x ∈ xs → ∃ y ∈ ys, R x y
  | _, _, .cons h t, x, e => by
    rcases List.mem_cons.mp e with rfl | e
    · exact ⟨_, List.mem_cons_self .., h⟩
    · obtain ⟨y, hy, r⟩ := par_mem t e
      exact ⟨y, List.mem_cons_of_mem _ hy, r⟩
theorem par_mem2 {α β : Type} {R : α → β → Prop} : ∀ {xs : List α} {ys : List β}, Paired R xs ys → ∀ {y : β}, y ∈ ys → ∃ x ∈ xs, R x y
  | _, _, .cons h t, y, e => by
    rcases List.mem_cons.mp e with rfl | e
    · exact ⟨_, List.mem_cons_self .., h⟩
    · obtain ⟨x, hx, r⟩ := par_mem2 t e
      exact ⟨x, List.mem_cons_of_mem _ hx, r⟩
theorem par_map {α β : Type} {R : α → β → Prop} {f : α → β} (i : ∀ a b, R a b → f a = b) : ∀ {xs : List α} {ys : List β}, Paired R xs ys → xs.map f = ys
  | _, _, .nil => rfl
  | _, _, .cons h t => by rw [List.map_cons, i _ _ h, par_map i t]
theorem TL.same {H H' : Hp} {xs : List V} {nss : List (List Int)} (h : TL H xs nss) (s : Same H H') : TL H' xs nss := par_imp (fun _ _ ⟨a, e, q⟩ => ⟨a, e, s _ _ q⟩) h
theorem PL.same {H H' : Hp} {xs : List V} {nss : List (List Int)} (h : PL H xs nss) (s : Same H H') : PL H' xs nss := par_imp (fun _ _ ⟨t, b, e, q, r⟩ => ⟨t, b, e, s _ _ q, s _ _ r⟩) h
def vint : V → Int
  | .int z => z
  | _ => 0
theorem vints : ∀ ns : List Int, (ns.map V.int).map vint = ns
  | [] => rfl
  | n :: ns => by rw [List.map_cons, List.map_cons, vints ns]; rfl
def cont (H : Hp) (x : V) : List Int := match x with
  | .ref a => (match H a with
    | some (.tup ys) => ys.map vint
    | _ => [])
  | _ => []
theorem cont_at {H : Hp} {a : Addr} {ns : List Int} (h : H a = some (.tup (ns.map V.int))) : cont H (.ref a) = ns := by
  show (match H a with
    | some (.tup ys) => ys.map vint
    | _ => []) = ns
  rw [h]
  exact vints ns
end
end K
namespace K
open PySem L2 Rg
open Evl (pss_cut)
/-! ### a lot against all other bars -/
def Lot (n : Nat) (ns : List Int) : Prop := ns.Nodup ∧ ∀ b ∈ ns, 0 ≤ b ∧ b < (n : Int)
def hasB (ns : List Int) (j : Nat) : Bool := ns.any fun y => decide (y = (j : Int))
def oth (ls ns : List Int) (i : Nat) : List Int := ((List.range i).filter fun j => !hasB ns j).map fun j => ls.getD j 0
theorem inV_int (z : Int) : ∀ ns : List Int, inV (.int z) (ns.map V.int) = ns.any fun y => decide (y = z) := by
  intro ns
  unfold inV
  rw [List.any_map]
  rfl
theorem oth_len (ls ns : List Int) (i : Nat) : (oth ls ns i).length ≤ i := by
  unfold oth
  rw [List.length_map]
  exact Nat.le_trans (List.length_filter_le ..) (by rw [List.length_range]; exact Nat.le_refl _)
theorem oth_in {ls ns : List Int} {i : Nat} {z : Int} (hz : ls[i]? = some z) (h : hasB ns i = false) : oth ls ns (i + 1) = oth ls ns i ++ [z] := by
  unfold oth
  rw [List.range_succ, List.filter_append, List.map_append]
  simp [h, List.getD_eq_getElem?_getD, hz]
theorem oth_out {ls ns : List Int} {i : Nat} (h : hasB ns i = true) : oth ls ns (i + 1) = oth ls ns i := by
  unfold oth
  rw [List.range_succ, List.filter_append, List.map_append]
  simp [h]
theorem sum_range (ls : List Int) : ∀ n, n ≤ ls.length → ((List.range n).map fun j => ls.getD j 0).sum = (ls.take n).sum
  | 0, _ => rfl
  | n + 1, h => by
    have hz : ls[n]? = some ls[n] := List.getElem?_eq_getElem h
    rw [← take_snoc hz, List.sum_append, ← sum_range ls n (by omega), List.range_succ, List.map_append, List.sum_append]
    simp [List.getD_eq_getElem?_getD, hz]
theorem sum_split (f : Nat → Int) (p : Nat → Bool) : ∀ l : List Nat, ((l.filter fun j => !p j).map f).sum + ((l.filter p).map f).sum = (l.map f).sum
  | [] => rfl
  | x :: l => by
    have ih := sum_split f p l
    cases e : p x <;> simp [e, List.sum_cons] <;> omega
theorem hasB_iff {ns : List Int} {j : Nat} : hasB ns j = true ↔ (j : Int) ∈ ns := by
  unfold hasB
  rw [List.any_eq_true]
  constructor
  · rintro ⟨y, hy, e⟩
    rw [← of_decide_eq_true e]
    exact hy
  · intro h
    exact ⟨_, h, decide_eq_true rfl⟩
theorem nodup_cast : ∀ {l : List Nat}, l.Nodup → (l.map fun j : Nat => (j : Int)).Nodup
  | [], _ => List.nodup_nil
  | x :: l, h => by
    rw [List.nodup_cons] at h
    rw [List.map_cons, List.nodup_cons]
    refine ⟨fun m => ?_, nodup_cast h.2⟩
    obtain ⟨y, hy, e⟩ := List.mem_map.mp m
    exact h.1 (by rw [show x = y by omega]; exact hy)
theorem lot_sorted {n : Nat} {ns : List Int} (h : Lot n ns) : (((List.range n).filter (hasB ns)).map fun j : Nat => (j : Int)).Perm ns := by
    refine (List.perm_ext_iff_of_nodup (nodup_cast (List.Pairwise.filter _ List.nodup_range)) h.1).mpr fun z => ?_
    constructor
    · intro m
      obtain ⟨j, hj, rfl⟩ := List.mem_map.mp m
      exact hasB_iff.mp (List.mem_filter.mp hj).2
    · intro m
      have b := h.2 z m
      refine List.mem_map.mpr ⟨z.toNat, List.mem_filter.mpr ⟨List.mem_range.mpr (by omega), hasB_iff.mpr ?_⟩, by omega⟩
      rw [show ((z.toNat : Nat) : Int) = z by omega]
      exact m
theorem oth_sum {ls ns : List Int} (h : Lot ls.length ns) : (oth ls ns ls.length).sum + lsum ls ns = ls.sum := by
  have e1 := sum_split (fun j => ls.getD j 0) (hasB ns) (List.range ls.length)
  rw [sum_range ls _ (Nat.le_refl _), List.take_length] at e1
  rw [← e1]
  congr 1
  rw [← lsum_perm (lot_sorted h)]
  unfold lsum
  rw [List.map_map]
  rfl
theorem sort_eq {ls ns : List Int} (h : Lot ls.length ns) : sortV ls ns = (if lsum ls ns = (oth ls ns ls.length).sum then ("level" : Str) else if lsum ls ns < (oth ls ns ls.length).sum then ("short" : Str) else ("long" : Str) : Str) := by
  have e := oth_sum h
  unfold sortV
  by_cases c : 2 * lsum ls ns = ls.sum
  · rw [if_pos c, if_pos (show lsum ls ns = (oth ls ns ls.length).sum by omega)]
  · rw [if_neg c, if_neg (show ¬ lsum ls ns = (oth ls ns ls.length).sum by omega)]
    by_cases d : 2 * lsum ls ns < ls.sum
    · rw [if_pos d, if_pos (show lsum ls ns < (oth ls ns ls.length).sum by omega)]
    · rw [if_neg d, if_neg (show ¬ lsum ls ns < (oth ls ns ls.length).sum by omega)]
theorem lsum_take {ls ns : List Int} {i : Nat} {z : Int} (h : ns[i]? = some z) : (ns.take (i + 1)).map (fun b => ls.getD b.toNat 0) = (ns.take i).map (fun b => ls.getD b.toNat 0) ++ [ls.getD z.toNat 0] := by
  rw [← take_snoc h, List.map_append]
  rfl
end K
namespace K
open PySem L2 Rg
open Evl (pss_cut)
/-! ### a lot that is one -/
theorem ft_none : ∀ {ns seen : List Int}, ns.Nodup → (∀ x ∈ ns, x ∉ seen) → ft seen ns = none
  | [], _, _, _ => rfl
  | x :: ns, seen, h, hs => by
    rw [List.nodup_cons] at h
    show (if x ∈ seen then some x else ft (seen ++ [x]) ns) = none
    rw [if_neg (hs x (List.mem_cons_self ..))]
    refine ft_none h.2 fun y hy m => ?_
    rcases List.mem_append.mp m with m | m
    · exact hs y (List.mem_cons_of_mem _ hy) m
    · rw [List.mem_singleton.mp m] at hy
      exact h.1 hy
theorem res_lot {n : Nat} {ns : List Int} (h : Lot n ns) : res n ns = .ok ns := by
  rw [res_all fun x hx => isBar_iff.mpr (h.2 x hx), ft_none h.1 fun x _ m => by cases m]
theorem lot_perm {n : Nat} {ms ns : List Int} (h : Lot n ns) (p : ms.Perm ns) : Lot n ms := ⟨p.nodup_iff.mpr h.1, fun b hb => h.2 b (p.mem_iff.mp hb)⟩
theorem lot_take {n d : Nat} {ns : List Int} (h : Lot n ns) : Lot n (ns.take d) := ⟨h.1.sublist (List.take_sublist ..), fun b hb => h.2 b (List.mem_of_mem_take hb)⟩
def natB (l : List Nat) : List Int := l.map fun j : Nat => (j : Int)
theorem lot_nat {n : Nat} {p : Nat → Bool} : Lot n (natB ((List.range n).filter p)) := by
  refine ⟨nodup_cast (List.Pairwise.filter _ List.nodup_range), fun b hb => ?_⟩
  obtain ⟨j, hj, rfl⟩ := List.mem_map.mp hb
  have := List.mem_range.mp (List.mem_filter.mp hj).1
  omega
theorem lot_all {n : Nat} : Lot n (natB (List.range n)) := by
  refine ⟨nodup_cast List.nodup_range, fun b hb => ?_⟩
  obtain ⟨j, hj, rfl⟩ := List.mem_map.mp hb
  have := List.mem_range.mp hj
  omega
theorem lot_len {n : Nat} {ns : List Int} (h : Lot n ns) : ns.length ≤ n := by
  have e := lot_sorted h
  rw [e.length_eq.symm, List.length_map]
  exact Nat.le_trans (List.length_filter_le ..) (by rw [List.length_range]; exact Nat.le_refl _)
def restN (n : Nat) (ns : List Int) (i : Nat) : List Int := natB ((List.range i).filter fun j => !hasB ns j)
theorem rest_in {n : Nat} {ns : List Int} {i : Nat} (h : hasB ns i = false) : restN n ns (i + 1) = restN n ns i ++ [(i : Int)] := by
  unfold restN natB
  rw [List.range_succ, List.filter_append, List.map_append]
  simp [h]
theorem rest_out {n : Nat} {ns : List Int} {i : Nat} (h : hasB ns i = true) : restN n ns (i + 1) = restN n ns i := by
  unfold restN natB
  rw [List.range_succ, List.filter_append, List.map_append]
  simp [h]
theorem rest_len {n : Nat} {ns : List Int} {i : Nat} : (restN n ns i).length ≤ i := by
  unfold restN natB
  rw [List.length_map]
  exact Nat.le_trans (List.length_filter_le ..) (by rw [List.length_range]; exact Nat.le_refl _)
theorem rest_lot {n : Nat} {ns : List Int} : Lot n (restN n ns n) := lot_nat
theorem rest_sum {ls ns : List Int} (h : Lot ls.length ns) : lsum ls (restN ls.length ns ls.length) + lsum ls ns = ls.sum := by
  have e : lsum ls (restN ls.length ns ls.length) = (oth ls ns ls.length).sum := by
    unfold lsum restN natB oth
    rw [List.map_map]
    rfl
  rw [e]
  exact oth_sum h
theorem nat_lots (p : Nat → Bool) : ∀ n, natB ((List.range n).filter p) ∈ lotsN n
  | 0 => List.mem_singleton.mpr rfl
  | n + 1 => by
    have ih := nat_lots p n
    rw [List.range_succ, List.filter_append, lotsN_succ]
    unfold natB at ih ⊢
    rw [List.map_append]
    cases e : p n with
    | true => exact List.mem_append_right _ (List.mem_map.mpr ⟨_, ih, by simp [e]⟩)
    | false => exact List.mem_append_left _ (by simpa [e] using ih)
theorem level_of {ls ns : List Int} (h : Lot ls.length ns) (e : 2 * lsum ls ns = ls.sum) : levelB ls = true := by
  rw [level_lots, List.any_eq_true]
  exact ⟨_, nat_lots (hasB ns) ls.length, decide_eq_true (by rw [lsum_perm (show (natB _).Perm ns from lot_sorted h)]; exact e)⟩
/-- the sort of the other bars -/
def opp (z : Str) : Str := if z = "short" then "long" else if z = "long" then "short" else "level"
theorem ne_sl : ¬ (("short" : Str) = "long") := by decide +kernel
theorem ne_sv : ¬ (("short" : Str) = "level") := by decide +kernel
theorem ne_lv : ¬ (("long" : Str) = "level") := by decide +kernel
theorem sort_cases (ls ns : List Int) : (2 * lsum ls ns = ls.sum ∧ sortV ls ns = "level") ∨ (2 * lsum ls ns < ls.sum ∧ sortV ls ns = "short") ∨ (ls.sum < 2 * lsum ls ns ∧ sortV ls ns = "long") := by
  unfold sortV
  by_cases c : 2 * lsum ls ns = ls.sum
  · exact .inl ⟨c, if_pos c⟩
  · by_cases d : 2 * lsum ls ns < ls.sum
    · exact .inr (.inl ⟨d, by rw [if_neg c, if_pos d]⟩)
    · exact .inr (.inr ⟨by omega, by rw [if_neg c, if_neg d]⟩)
theorem sort_rest {ls ns ms : List Int} (h : lsum ls ms + lsum ls ns = ls.sum) : sortV ls ms = opp (sortV ls ns) := by
  unfold opp
  rcases sort_cases ls ns with ⟨a, e⟩ | ⟨a, e⟩ | ⟨a, e⟩ <;> rcases sort_cases ls ms with ⟨b, f⟩ | ⟨b, f⟩ | ⟨b, f⟩ <;> rw [e, f] <;> first | (exfalso; omega) | skip
  · rw [if_neg fun z => ne_sv z.symm, if_neg fun z => ne_lv z.symm]
  · rw [if_pos rfl]
  · rw [if_neg fun z => ne_sl z.symm, if_pos rfl]
theorem perm_ints {ys : List V} {l : List Int} (h : ys.Perm (l.map V.int)) : ∃ ms : List Int, ys = ms.map V.int ∧ ms.Perm l := by
  refine ⟨ys.map vint, ?_, ?_⟩
  · rw [List.map_map]
    refine (List.map_id ys).symm.trans (List.map_congr_left fun y hy => ?_)
    obtain ⟨i, _, rfl⟩ := List.mem_map.mp (h.mem_iff.mp hy)
    rfl
  · have := h.map vint
    rw [vints] at this
    exact this
theorem rg_nat (n : Nat) : rgV 0 (n : Int) = (natB (List.range n)).map V.int := by
  unfold rgV natB
  rw [List.map_map, show (((n : Nat) : Int) - 0).toNat = n by omega]
  refine List.map_congr_left fun j _ => ?_
  show V.int (0 + (j : Int)) = V.int (j : Int)
  rw [Int.zero_add]
section
variable {P : Program} {w : World} {K : PySem.W.Frag} {mg : Str → Option Value} {base : Heap}
theorem LotV.lst {H : Hp} {E : XK} {c : Cs} {n : Nat} {part : Str} {a : Addr} {ns : List Int} {k : List Int → Prop} (h : H a = some (.lst (ns.map V.int))) (l : Lot n ns) (hn : ns.length ≤ 8) (q : k ns) : LotV K H E c n part (.ref a) k := by
  refine .inr (.inl ⟨a, ns.map V.int, fun _ => "int", rfl, ⟨.base (.lst h), by decide⟩, SqL.of h, by rw [List.length_map]; omega, fun x hx => ?_, .inr ⟨ns, rfl, List.all_eq_true.mpr fun _ _ => rfl, ?_⟩⟩)
  · obtain ⟨i, _, rfl⟩ := List.mem_map.mp hx
    exact Knd.int
  · rw [res_lot l]
    exact q
theorem LotV.tpl {H : Hp} {E : XK} {c : Cs} {n : Nat} {part : Str} {a : Addr} {ns : List Int} {k : List Int → Prop} (h : H a = some (.tup (ns.map V.int))) (l : Lot n ns) (hn : ns.length ≤ 8) (q : k ns) : LotV K H E c n part (.ref a) k := by
  refine .inr (.inr ⟨a, ns, rfl, ⟨.base (.tup h), by decide⟩, .inl (.inl h), by omega, ?_⟩)
  rw [res_lot l]
  exact q
theorem RingAt.but {C p : Addr} {e : Addr × List Int} {n : Nat} {H H' : Hp} {r : Addr} {ls : List Int} (h : RingAt K C H r ls) (b : But p H H') (pen : PenAt K H p e n) : RingAt K C H' r ls := by
  obtain ⟨dx, t, h1, h2, o, h3, h4⟩ := h
  obtain ⟨_, _, hp, _⟩ := pen.ex
  have nr : r ≠ p := fun z => by rw [z, hp] at h1; cases h1
  have nt : t ≠ p := fun z => by rw [z, hp] at h3; cases h3
  exact ⟨dx, t, b _ _ nr h1, .inl (.inr ⟨o, b _ _ nt h3⟩), o, b _ _ nt h3, h4⟩
end

end K
namespace K
open PySem L2 Rg
open Evl (pss_cut)
theorem dec_str (a b : Str) : decide (V.str a = V.str b) = decide (a = b) := by
  by_cases e : a = b
  · rw [e]; simp
  · rw [decide_eq_false e, decide_eq_false fun z => e (V.str.inj z)]
theorem lex_nil2 : HT.lexLt [] [] = false := rfl
theorem lex_nc (y : Int) (ys : List Int) : HT.lexLt [] (y :: ys) = true := rfl
theorem lexLt_anti : ∀ a b : List Int, HT.lexLt a b = false → HT.lexLt b a = false → a = b
  | [], [], _, _ => rfl
  | [], _ :: _, h, _ => by rw [lex_nc] at h; cases h
  | _ :: _, [], _, h => by rw [lex_nc] at h; cases h
  | x :: a, y :: b, h, g => by
    rw [HT.lexLt_cons] at h g
    by_cases e : x = y
    · subst e
      rw [if_pos rfl] at h g
      rw [lexLt_anti a b h g]
    · rw [if_neg e] at h
      rw [if_neg fun z => e z.symm] at g
      have := of_decide_eq_false h
      have := of_decide_eq_false g
      omega
theorem ints_lt : ∀ a b : List Int, PyProof.Rows.lexLt PyProof.Rows.itemOrd (PySem.W.keyToksAll (a.map PyData.int)) (PySem.W.keyToksAll (b.map PyData.int)) = HT.lexLt a b
  | [], [] => by rw [lex_nil2]; exact PyProof.Rows.lex_irrefl _
  | [], y :: b => by
    rw [lex_nc, List.map_nil, List.map_cons, PySem.W.keyToksAll, PySem.W.keyToksAll, PyProof.Rows.lex_diff (by simp)]
    decide +kernel
  | x :: a, [] => by
    rw [HT.lexLt_cons_nil, List.map_nil, List.map_cons, PySem.W.keyToksAll, PySem.W.keyToksAll, PyProof.Rows.lex_diff (by simp)]
    decide +kernel
  | x :: a, y :: b => by
    rw [List.map_cons, List.map_cons, PySem.W.dataLt_cons (by simp [PySem.W.alike]), HT.lexLt_cons, PySem.W.dataLt_int, ints_lt a b]
    by_cases e : x = y
    · rw [if_pos e, if_pos (by simp [PyData.eqv, e])]
    · rw [if_neg e, if_neg (by simp [PyData.eqv, e])]
theorem uniq_of {α : Type} {R : α → α → Prop} (anti : ∀ a b, R a b → R b a → a = b) : ∀ {xs ys : List α}, xs.Perm ys → xs.Pairwise R → ys.Pairwise R → xs = ys
  | [], ys, p, _, _ => (List.nil_perm.mp p).symm
  | x :: xs, [], p, _, _ => by cases p.length_eq
  | x :: xs, y :: ys, p, hx, hy => by
    rw [List.pairwise_cons] at hx hy
    have e : x = y := by
      have m1 : y ∈ x :: xs := p.mem_iff.mpr (List.mem_cons_self ..)
      have m2 : x ∈ y :: ys := p.mem_iff.mp (List.mem_cons_self ..)
      rcases List.mem_cons.mp m1 with z | z
      · exact z.symm
      · rcases List.mem_cons.mp m2 with z' | z'
        · exact z'
        · exact anti _ _ (hx.1 _ z) (hy.1 _ z')
    subst e
    rw [uniq_of anti p.cons_inv hx.2 hy.2]
theorem par_take {α β : Type} {R : α → β → Prop} : ∀ (n : Nat) {xs : List α} {ys : List β}, Paired R xs ys → Paired R (xs.take n) (ys.take n)
  | 0, _, _, _ => by rw [List.take_zero, List.take_zero]; exact .nil
  | n + 1, _, _, .nil => .nil
  | n + 1, _, _, .cons h t => .cons h (par_take n t)
theorem par_drop {α β : Type} {R : α → β → Prop} : ∀ (n : Nat) {xs : List α} {ys : List β}, Paired R xs ys → Paired R (xs.drop n) (ys.drop n)
  | 0, _, _, h => h
  | n + 1, _, _, .nil => .nil
  | n + 1, _, _, .cons h t => par_drop n t
def rLenS (K : PySem.W.Frag) : List V → Hp → VK → Prop := fun xs H Q => ∃ p ys, xs = [.ref p] ∧ (SqL K H p ys ∨ SqT K H p ys) ∧ Q (.int ys.length) H
theorem tl_dp {K : PySem.W.Frag} {H : Hp} : ∀ {xs : List V} {nss : List (List Int)}, TL H xs nss → DpAll K H xs (nss.map fun ns => PyData.tuple (ns.map PyData.int))
  | _, _, .nil => .nil
  | _, _, .cons ⟨a, e, h⟩ t => by
    subst e
    exact .cons (.tup (.inl (.inl h)) (dp_ints _)) (tl_dp t)
theorem tl_lay : ∀ nss : List (List Int), PyData.canLayAll0 (nss.map fun ns => PyData.tuple (ns.map PyData.int)) = true
  | [] => by simp [PyData.canLayAll0]
  | ns :: nss => by simp [PyData.canLayAll0, PyData.canLay0, lay_ints ns, tl_lay nss]
theorem tl_deep : ∀ nss : List (List Int), PyData.depthAll (nss.map fun ns => PyData.tuple (ns.map PyData.int)) ≤ 1
  | [] => by simp [PyData.depthAll]
  | ns :: nss => by
    have := tl_deep nss
    simp [PyData.depthAll, PyData.depth, deep_ints ns]
    omega
theorem tl_shaped (nss : List (List Int)) : SeqAt.shaped (.list (nss.map fun ns => PyData.tuple (ns.map PyData.int))) = true := by
  have := tl_deep nss
  simp [SeqAt.shaped, PyData.canLay0, PyData.depth, tl_lay nss]
  omega
theorem eqv_tup (a b : List Int) : PyData.eqv (.tuple (a.map PyData.int)) (.tuple (b.map PyData.int)) = decide (a = b) := by
  simp [PyData.eqv, Rg.eqvA_ints8]
theorem sh_tup (l : List Int) : SeqAt.shaped (.tuple (l.map PyData.int)) = true := by
  simp [SeqAt.shaped, PyData.canLay0, PyData.depth, lay_ints l, deep_ints l]
theorem TL.mut {H : Hp} {D : Addr} {us ws : List V} {xs : List V} {nss : List (List Int)} (h : TL H xs nss) (hD : H D = some (.lst us)) : TL (upd H D (.lst ws)) xs nss := par_imp (fun _ _ ⟨a, q, z⟩ => ⟨a, q, by
  rw [upd_ne fun e => ?_]
  · exact z
  · rw [e, hD] at z
    cases z⟩) h
theorem tl_at {H : Hp} {xs : List V} {nss : List (List Int)} (h : TL H xs nss) {i : Nat} {ns : List Int} (e : nss[i]? = some ns) : ∃ a, xs[i]? = some (.ref a) ∧ H a = some (.tup (ns.map V.int)) := by
  have hi : i < xs.length := by rw [par_len h]; exact (List.getElem?_eq_some_iff.mp e).1
  obtain ⟨y, h1, a, h2, h3⟩ := par_get h (List.getElem?_eq_getElem hi)
  rw [e] at h1
  cases h1
  exact ⟨a, by rw [List.getElem?_eq_getElem hi, h2], h3⟩

theorem tl_nil (nss : List (List Int)) : PyData.eqv (.list (nss.map fun ns => PyData.tuple (ns.map PyData.int))) (.list []) = nss.isEmpty := by
  cases nss <;> simp [PyData.eqv, PyData.eqvAll] <;> rfl
theorem tl_eqA : ∀ nss mss : List (List Int), PyData.eqvAll (nss.map fun ns => PyData.tuple (ns.map PyData.int)) (mss.map fun ns => PyData.tuple (ns.map PyData.int)) = decide (nss = mss)
  | [], [] => by simp [PyData.eqvAll]
  | [], _ :: _ => by simp [PyData.eqvAll]
  | _ :: _, [] => by simp [PyData.eqvAll]
  | ns :: nss, ms :: mss => by
    have e := eqv_tup ns ms
    rw [List.map_cons, List.map_cons, PyData.eqvAll, e, tl_eqA nss mss]
    by_cases c : ns = ms <;> by_cases d : nss = mss <;> simp [c, d]
theorem tl_eqT (nss mss : List (List Int)) : PyData.eqv (.tuple (nss.map fun ns => PyData.tuple (ns.map PyData.int))) (.tuple (mss.map fun ns => PyData.tuple (ns.map PyData.int))) = decide (nss = mss) := by
  rw [← tl_eqA]
  simp [PyData.eqv]
theorem tl_shapedT (nss : List (List Int)) : SeqAt.shaped (.tuple (nss.map fun ns => PyData.tuple (ns.map PyData.int))) = true := by
  have := tl_deep nss
  simp [SeqAt.shaped, PyData.canLay0, PyData.depth, tl_lay nss]
  omega

theorem tl_any (L : List (List Int)) (m : List Int) : ((L.map fun ns => PyData.tuple (ns.map PyData.int)).any fun z => PyData.eqv z (.tuple (m.map PyData.int))) = decide (m ∈ L) := by
  rw [List.any_map]
  by_cases h : m ∈ L
  · rw [decide_eq_true h, List.any_eq_true]
    exact ⟨m, h, by rw [Function.comp_apply, eqv_tup]; exact decide_eq_true rfl⟩
  · rw [decide_eq_false h, List.any_eq_false]
    intro x hx
    rw [Function.comp_apply, eqv_tup]
    intro z
    rw [of_decide_eq_true z] at hx
    exact h hx
theorem fn_calm {P : Program} {w : World} {K : PySem.W.Frag} {mg : Str → Option Value} {base : Heap} {k : Nat} {f : Addr} {fd : FuncData} {ps : List Str} {sp : Sp} (F : FnOk P w K mg base (L2.CX P w) k f fd ps sp) : FnOk P w K mg base CX0 k f fd ps (fun vs H Q _ => sp vs H Q fun _ _ _ => False) :=
  ⟨fun vs H Q E h => F.len _ _ _ _ h, fun A outer s H args us vs Q E hr e0 hb hv h => codeAny_mono (F.run A outer s H args us vs Q (fun _ _ _ => False) hr e0 hb hv h) fun r s' hq => by
    cases r with
    | ok fl => cases fl <;> exact hq
    | error e =>
      obtain ⟨_, _, _, _, _, _, _, _, _, _, _, _, z⟩ := hq
      exact z⟩
theorem ints_perm {ys : List V} {ls : List Int} (p : ys.Perm (ls.map V.int)) : ∃ ms : List Int, ys = ms.map V.int ∧ ms.Perm ls := by
  have e : (ls.map V.int).map (fun v => match v with | .int i => i | _ => 0) = ls := by
    rw [List.map_map]
    conv => rhs; rw [← List.map_id ls]
    exact List.map_congr_left fun x _ => rfl
  refine ⟨ys.map fun v => match v with | .int i => i | _ => 0, ?_, ?_⟩
  · rw [List.map_map]
    conv => lhs; rw [← List.map_id ys]
    refine List.map_congr_left fun y hy => ?_
    obtain ⟨i, _, rfl⟩ := List.mem_map.mp (p.mem_iff.mp hy)
    rfl
  · have z := p.map (fun v => match v with | .int i => i | _ => 0)
    rw [e] at z
    exact z
theorem Bd.perm {m : Int} {a b : List Int} (h : Bd m a) (p : b.Perm a) : Bd m b := fun x hx => h x (p.mem_iff.mp hx)
theorem ne_int {a b : Int} (h : a = b) : (!decide (V.int a = V.int b)) = false := by rw [h]; simp
theorem eqvI (l : List Int) : PyData.eqv (.list (l.map PyData.int)) (.list (l.map PyData.int)) = true := by
  simp [PyData.eqv, Rg.eqvA_ints8]
section
variable {P : Program} {w : World} {K : PySem.W.Frag} {mg : Str → Option Value} {base : Heap}
theorem catV {a b : Addr} {xs ys : List V} {H : Hp} {Q : VK} (ha : H a = some (.tup xs)) (hb : H b = some (.tup ys)) (hl : xs.length + ys.length ≤ 1000) (k : ∀ t H', H' t = some (.tup (xs ++ ys)) → Same H H' → Q (.ref t) H') : rCatA K (.ref a) (.ref b) H Q := by
  refine ⟨a, b, _, _, rfl, rfl, .inl (.inl ha), .inl (.inl hb), Nat.le_of_lt (sm (by omega)), fun e => k b H ?_ (Same.refl H), fun _ e => k a H ?_ (Same.refl H), fun _ _ p hp => k p _ upd_same ((Same.refl H).new hp)⟩
  · rw [e]; exact hb
  · rw [e, List.append_nil]; exact ha
theorem slTo {a : Addr} {xs : List V} {i : Nat} {H : Hp} {Q : VK} (ha : H a = some (.tup xs)) (k : ∀ t H', H' t = some (.tup (xs.take i)) → Same H H' → Q (.ref t) H') : rSlA K (.ref a) none (some (i : Int)) H Q := by
  refine ⟨a, xs, rfl, .inl (.inl ha), fun ⟨_, e⟩ => k a H ?_ (Same.refl H), fun _ p hp => k p _ ?_ ((Same.refl H).new hp)⟩
  · rw [HT.sIx_nat] at e
    rw [List.take_of_length_le (by omega)]
    exact ha
  · rw [upd_same, cutV_to]
theorem slFrom {a : Addr} {xs : List V} {i : Nat} {H : Hp} {Q : VK} (ha : H a = some (.tup xs)) (k : ∀ t H', H' t = some (.tup (xs.drop i)) → Same H H' → Q (.ref t) H') : rSlA K (.ref a) (some (i : Int)) none H Q := by
  refine ⟨a, xs, rfl, .inl (.inl ha), fun ⟨e, _⟩ => k a H ?_ (Same.refl H), fun _ p hp => k p _ ?_ ((Same.refl H).new hp)⟩
  · rw [HT.sIx_nat] at e
    rcases Nat.eq_zero_or_pos i with z | z
    · rw [z]; exact ha
    · have : xs.length = 0 := by omega
      rw [List.eq_nil_of_length_eq_zero this, List.drop_nil]
      rw [List.eq_nil_of_length_eq_zero this] at ha
      exact ha
  · rw [upd_same, cut_from xs rfl]
structure MethV (P : Program) (w : World) (K : PySem.W.Frag) (mg : Str → Option Value) (base : Heap) (C : Addr) (x : Str) (ps : List Str) (sp : Sp) (f : Addr) (fd : FuncData) : Prop where
  m : Meth K C x f
  ok : FnOk P w K mg base CX0 6 f fd ps sp
  b : Binds K fd ps []
def spSortV (K : PySem.W.Frag) (C : Addr) : Sp := fun vs H Q _ => ∃ (r a : Addr) (ls ns : List Int), vs = [.ref r, .ref a] ∧ RingW K C H r ls ∧ ls.length ≤ 8 ∧ H a = some (.tup (ns.map V.int)) ∧ Lot ls.length ns ∧ ns.length ≤ 8 ∧ ∀ H', Same H H' → Q (.str (sortV ls ns)) H'
theorem ok_sortVal {C f : Addr} {c : Cs} {fd : FuncData} (F : FnOk P w K mg base (L2.CX P w) 6 f fd ["self", "lot"] (spSortOf K C c)) : FnOk P w K mg base CX0 6 f fd ["self", "lot"] (spSortV K C) :=
  (fn_calm F).imp fun vs H Q E ⟨r, a, ls, ns, hv, ring, l8, ha, lot, n8, q⟩ => ⟨r, .ref a, ls, hv, ring, l8, LotV.tpl ha lot n8 q⟩
def tooV (ls : List Int) (v : V) : Prop := (closesB ls = true → v = .non) ∧ (closesB ls = false → ∃ (j : Nat) (m : Int), v = .int (j : Nat) ∧ ls[j]? = some m ∧ (∀ y ∈ ls, y ≤ m) ∧ ∀ i, i < j → ls[i]? ≠ some m)
def spTooL (K : PySem.W.Frag) (C cR : Addr) : Sp := fun vs H Q E => ∃ v : V, vs = [v] ∧ ((∃ (r : Addr) (ls : List Int), v = .ref r ∧ RingAt K C H r ls ∧ 0 < ls.length ∧ ∀ v, tooV ls v → Q v H) ∨ (NoR K C H v ∧ Errs E cR "part" (.str "ring") H))
theorem scTooL : FnScope ["ring"] ["ring"] (defScope sTooLong) := ⟨rfl, rfl, rfl, by decide +kernel, rfl, by decide +kernel, by decide +kernel⟩
theorem first_at {ls : List Int} {m : Int} (h : m ∈ ls) : ∃ j : Nat, ls[j]? = some m ∧ ∀ i, i < j → ls[i]? ≠ some m := by
  induction ls with
  | nil => cases h
  | cons x l ih =>
    by_cases e : x = m
    · exact ⟨0, by rw [e]; rfl, fun i hi => by omega⟩
    · obtain ⟨j, h1, h2⟩ := ih ((List.mem_cons.mp h).resolve_left fun z => e z.symm)
      refine ⟨j + 1, h1, fun i hi => ?_⟩
      cases i with
      | zero => exact fun z => e (Option.some.inj z)
      | succ i => exact h2 i (by omega)
theorem ok_tooL {C cR f fW : Addr} {fd fdW : FuncData} (F : Fun K "too_long" "too_long" sTooLong f fd) (T : Bi mg) (R : RingC K mg C) (W : DefAt P w K mg base (L2.CX P w) 3 "want_ring" ["value", "part"] (spWantR K C cR) fW fdW) : FnOk P w K mg base (L2.CX P w) 4 f fd ["ring"] (spTooL K C cR) := by
  refine F.okX scTooL (fun vs H Q E h => ?_) (fun cdv A outer s H vs Q E hr h => ?_)
  · obtain ⟨v, rfl, _⟩ := h
    rfl
  · refine ⟨_, pss_cons (ps_expr (pe_call W.ok hr rfl W.g W.kp W.b .nil (passes_call (takes_of rfl rfl rfl rfl) (fun _ _ _ _ h => h)) (pa_cons (pv 0) (pa_cons pe_str pa_nil))))
      (pss_cons (ps_if (pt_val (pe_fld (pv 0) rfl)) (pss_one (ps_ret pe_non)) pss_nil)
      (pss_one (ps_ret (pe_mG ty_tf PySem.F.plainAttrs_tuple PySem.F.slot_tuple_index PySem.F.type_tuple_index mt_tupIdx (pe_fld (pv 0) rfl) (pa_cons (pe_callB (cr_maxT rfl) (by rfl) T.max (by decide +kernel) (pa_cons (pe_fld (pv 0) rfl) pa_nil)) pa_nil))))), ?_⟩
    obtain ⟨v, rfl, ⟨r, ls, rfl, W1, l0, q⟩ | ⟨no, er⟩⟩ := h
    · obtain ⟨dx, t, hr0, ht, hf⟩ := id W1
      refine ⟨_, rfl, _, "ring", rfl, .inl ⟨r, ls, rfl, W1.weak, _, rfl, r, C, dx, _, _, rfl, hr0, R.cl, R.nC, rf_closes _ _, _, rfl, ?_⟩⟩
      cases e : closesB ls with
      | true => exact ite2 (fun _ => q _ ⟨fun _ => rfl, fun z => by rw [e] at z; cases z⟩) (fun z => absurd rfl z)
      | false =>
        refine ite2 (fun z => by cases z) (fun _ => ?_)
        refine ⟨_, rfl, r, C, dx, _, _, rfl, hr0, R.cl, R.nL, rf_lengths _ _, ⟨t, hf.choose, _, rfl, hf.choose_spec.1, hf.choose_spec.2⟩, _, rfl, r, C, dx, _, _, rfl, hr0, R.cl, R.nL, rf_lengths _ _, t, ls, rfl, ht, l0, fun m hm hx => ?_⟩
        obtain ⟨j, h1, h2⟩ := first_at hm
        exact ⟨t, ls, m, j, rfl, rfl, ht, h1, h2, q _ ⟨fun z => (by rw [e] at z; cases z), fun _ => ⟨j, m, rfl, h1, hx, h2⟩⟩⟩
    · exact ⟨_, rfl, _, "ring", rfl, .inr ⟨no, er⟩⟩
end
end K
namespace K
open PySem L2 Rg
open Evl (pss_cut)
theorem sorted_eqI {a b : List Int} (p : a.Perm b) (ha : a.Pairwise (· ≤ ·)) (hb : b.Pairwise (· ≤ ·)) : a = b := List.Perm.eq_of_pairwise (fun x y _ _ h1 h2 => Int.le_antisymm h1 h2) ha hb p
def rgN (n : Nat) : List Int := natB (List.range n)
theorem rgN_sorted (n : Nat) : (rgN n).Pairwise (· ≤ ·) := by
  refine List.pairwise_map.mpr (List.Pairwise.imp (fun {a b} h => ?_) List.pairwise_lt_range)
  omega
theorem rgN_len (n : Nat) : (rgN n).length = n := by unfold rgN natB; rw [List.length_map, List.length_range]
/-- a round of n bars -/
def rdB (n : Nat) (ns : List Int) : Bool := decide (ns.Perm (rgN n)) && decide (ns[0]? = some 0)
theorem rd_sorted {n : Nat} {ms ns : List Int} (pm : ms.Perm ns) (od : ms.Pairwise (· ≤ ·)) : decide (ms = rgN n) = decide (ns.Perm (rgN n)) := by
  by_cases c : ns.Perm (rgN n)
  · rw [decide_eq_true c, decide_eq_true (sorted_eqI (pm.trans c) od (rgN_sorted n))]
  · rw [decide_eq_false c, decide_eq_false fun z => c (by rw [← z]; exact pm.symm)]
/-- a value for a round, and whether it is one -/
def RV (K : PySem.W.Frag) (H : Hp) (n : Nat) (v : V) (b : Bool) : Prop :=
  (∃ k, Knd K H v k ∧ k ≠ "list" ∧ k ≠ "tuple" ∧ b = false) ∨
  (∃ (a : Addr) (xs : List V) (kf : V → String), v = .ref a ∧ ((Knd K H (.ref a) "list" ∧ SqL K H a xs) ∨ (Knd K H (.ref a) "tuple" ∧ SqT K H a xs)) ∧ xs.length ≤ 1000 ∧ (∀ x ∈ xs, Knd K H x (kf x)) ∧
    (((xs.all fun x => decide (kf x = "int")) = false ∧ b = false) ∨ ∃ ns : List Int, xs = ns.map V.int ∧ (xs.all fun x => decide (kf x = "int")) = true ∧ b = rdB n ns))
theorem RV.same {K : PySem.W.Frag} {H H' : Hp} {n : Nat} {v : V} {b : Bool} (h : RV K H n v b) (s : Same H H') : RV K H' n v b := by
  rcases h with ⟨k, h1, h2⟩ | ⟨a, xs, kf, e, h1, h2, h3, h4⟩
  · exact .inl ⟨k, h1.same s, h2⟩
  · refine .inr ⟨a, xs, kf, e, ?_, h2, fun x hx => (h3 x hx).same s, h4⟩
    rcases h1 with ⟨z1, z2⟩ | ⟨z1, z2⟩
    · exact .inl ⟨z1.same s, s.seq z2⟩
    · exact .inr ⟨z1.same s, s.tup z2⟩
theorem RV.lst {K : PySem.W.Frag} {H : Hp} {n : Nat} {a : Addr} {ns : List Int} (h : H a = some (.lst (ns.map V.int))) (hl : ns.length ≤ 1000) : RV K H n (.ref a) (rdB n ns) := by
  refine .inr ⟨a, ns.map V.int, fun _ => "int", rfl, .inl ⟨⟨.base (.lst h), by decide⟩, SqL.of h⟩, by rw [List.length_map]; exact hl, fun x hx => ?_, .inr ⟨ns, rfl, List.all_eq_true.mpr fun _ _ => rfl, rfl⟩⟩
  obtain ⟨i, _, rfl⟩ := List.mem_map.mp hx
  exact Knd.int
theorem RV.tpl {K : PySem.W.Frag} {H : Hp} {n : Nat} {a : Addr} {ns : List Int} (h : H a = some (.tup (ns.map V.int))) (hl : ns.length ≤ 1000) : RV K H n (.ref a) (rdB n ns) := by
  refine .inr ⟨a, ns.map V.int, fun _ => "int", rfl, .inr ⟨⟨.base (.tup h), by decide⟩, .inl (.inl h)⟩, by rw [List.length_map]; exact hl, fun x hx => ?_, .inr ⟨ns, rfl, List.all_eq_true.mpr fun _ _ => rfl, rfl⟩⟩
  obtain ⟨i, _, rfl⟩ := List.mem_map.mp hx
  exact Knd.int
/-- a ring that closes and has no level -/
structure RC (K : PySem.W.Frag) (C : Addr) (H : Hp) (r : Addr) (ls : List Int) : Prop where
  ring : RingAt K C H r ls
  l3 : 3 ≤ ls.length
  l8 : ls.length ≤ 8
  cl : closesB ls = true
  nl : levelB ls = false
theorem RC.same {K : PySem.W.Frag} {C : Addr} {H H' : Hp} {r : Addr} {ls : List Int} (h : RC K C H r ls) (s : Same H H') : RC K C H' r ls := ⟨h.ring.same s, h.l3, h.l8, h.cl, h.nl⟩
section
variable {P : Program} {w : World} {K : PySem.W.Frag} {mg : Str → Option Value} {base : Heap}
def spTooV (K : PySem.W.Frag) (C : Addr) : Sp := fun vs H Q _ => ∃ (r : Addr) (ls : List Int), vs = [.ref r] ∧ RC K C H r ls ∧ Q .non H
theorem ok_tooV {C cR f : Addr} {fd : FuncData} (F : FnOk P w K mg base (L2.CX P w) 4 f fd ["ring"] (spTooL K C cR)) : FnOk P w K mg base CX0 4 f fd ["ring"] (spTooV K C) :=
  (fn_calm F).imp fun vs H Q E ⟨r, ls, hv, rc, q⟩ => ⟨.ref r, hv, .inl ⟨r, ls, rfl, rc.ring, by have := rc.l3; omega, fun v t => by rw [t.1 rc.cl]; exact q⟩⟩
def spClear (K : PySem.W.Frag) (C : Addr) : Sp := fun vs H Q _ => ∃ (r : Addr) (ls : List Int), vs = [.ref r] ∧ RC K C H r ls ∧ Q .non H
abbrev nWC : List Str := ["ring", "bar"]
theorem scWC : FnScope nWC ["ring"] (defScope sWantClosed) := ⟨rfl, rfl, rfl, by decide +kernel, rfl, by decide +kernel, by decide +kernel⟩
theorem ok_wc {C f fT : Addr} {fd fdT : FuncData} (F : Fun K "want_closed" "want_closed" sWantClosed f fd) (TL : DefAt P w K mg base CX0 4 "too_long" ["ring"] (spTooV K C) fT fdT) : FnOk P w K mg base CX0 5 f fd ["ring"] (spClear K C) := by
  refine F.ok scWC (fun vs H Q E h => ?_) (fun cdv A outer s H vs Q E hr h => ?_)
  · obtain ⟨r, ls, rfl, _⟩ := h
    rfl
  · have nd := scWC.nd
    refine ⟨_, (pss_cons (ps_set (i := 1) nd rfl (Or.inl rfl) (pe_call TL.ok (hr.mono (by decide)) rfl TL.g TL.kp TL.b .nil pass0 (pa_cons (pv 0) pa_nil)))
      (pss_one (ps_if (pt_cmpR op_notN (pv 1) pe_non (nomark _)) (pss_one ps_never) pss_nil))), ?_⟩
    obtain ⟨r, ls, rfl, rc, q⟩ := h
    exact ⟨_, rfl, r, ls, rfl, rc, _, rfl, rfl, _, rfl, iteF q⟩
theorem scWN : FnScope ["ring"] ["ring"] (defScope sWantNoLevel) := ⟨rfl, rfl, rfl, by decide +kernel, rfl, by decide +kernel, by decide +kernel⟩
theorem ok_wn {C f : Addr} {fd : FuncData} (F : Fun K "want_no_level" "want_no_level" sWantNoLevel f fd) (R : RingC K mg C) : FnOk P w K mg base CX0 1 f fd ["ring"] (spClear K C) := by
  refine F.ok scWN (fun vs H Q E h => ?_) (fun cdv A outer s H vs Q E hr h => ?_)
  · obtain ⟨r, ls, rfl, _⟩ := h
    rfl
  · refine ⟨_, (pss_one (ps_if (pt_not (pt_val (pe_fld (pv 0) rfl))) (pss_one ps_never) pss_nil)), ?_⟩
    obtain ⟨r, ls, rfl, rc, q⟩ := h
    obtain ⟨dx, t, hr0, ht, hf⟩ := id rc.ring
    refine ⟨_, rfl, r, C, dx, _, _, rfl, hr0, R.cl, R.nI, rf_clear _ _, _, rfl, ?_⟩
    rw [rc.nl]
    exact iteF q
theorem scWR : FnScope ["ring"] ["ring"] (defScope sWantClear) := ⟨rfl, rfl, rfl, by decide +kernel, rfl, by decide +kernel, by decide +kernel⟩
theorem ok_wr {C f fC fN : Addr} {fd fdC fdN : FuncData} (F : Fun K "want_clear" "want_clear" sWantClear f fd) (WC : DefAt P w K mg base CX0 5 "want_closed" ["ring"] (spClear K C) fC fdC) (WN : DefAt P w K mg base CX0 1 "want_no_level" ["ring"] (spClear K C) fN fdN) : FnOk P w K mg base CX0 6 f fd ["ring"] (spClear K C) := by
  refine F.ok scWR (fun vs H Q E h => ?_) (fun cdv A outer s H vs Q E hr h => ?_)
  · obtain ⟨r, ls, rfl, _⟩ := h
    rfl
  · refine ⟨_, (pss_cons (ps_expr (pe_call WC.ok (hr.mono (by decide)) rfl WC.g WC.kp WC.b .nil pass0 (pa_cons (pv 0) pa_nil)))
      (pss_one (ps_expr (pe_call WN.ok (hr.mono (by decide)) rfl WN.g WN.kp WN.b .nil pass0 (pa_cons (pv 0) pa_nil))))), ?_⟩
    obtain ⟨r, ls, rfl, rc, q⟩ := h
    exact ⟨_, rfl, r, ls, rfl, rc, _, rfl, r, ls, rfl, rc, q⟩
/-! ### makes_round -/
def spMRO (K : PySem.W.Frag) (C : Addr) : Sp := fun vs H Q _ => ∃ (r : Addr) (v : V) (k : String), vs = [.ref r, v] ∧ Knd K H v k ∧ k ≠ "list" ∧ k ≠ "tuple" ∧ ∀ H', Same H H' → Q (.bl false) H'
def spMRL (K : PySem.W.Frag) (C : Addr) : Sp := fun vs H Q _ => ∃ (r a : Addr) (ls : List Int) (xs : List V) (kf : V → String) (b : Bool), vs = [.ref r, .ref a] ∧ RC K C H r ls ∧ Knd K H (.ref a) "list" ∧ SqL K H a xs ∧ xs.length ≤ 1000 ∧ (∀ x ∈ xs, Knd K H x (kf x)) ∧
  (((xs.all fun x => decide (kf x = "int")) = false ∧ b = false) ∨ ∃ ns : List Int, xs = ns.map V.int ∧ (xs.all fun x => decide (kf x = "int")) = true ∧ b = rdB ls.length ns) ∧ ∀ H', Same H H' → Q (.bl b) H'
def spMRT (K : PySem.W.Frag) (C : Addr) : Sp := fun vs H Q _ => ∃ (r a : Addr) (ls : List Int) (xs : List V) (kf : V → String) (b : Bool), vs = [.ref r, .ref a] ∧ RC K C H r ls ∧ Knd K H (.ref a) "tuple" ∧ SqT K H a xs ∧ xs.length ≤ 1000 ∧ (∀ x ∈ xs, Knd K H x (kf x)) ∧
  (((xs.all fun x => decide (kf x = "int")) = false ∧ b = false) ∨ ∃ ns : List Int, xs = ns.map V.int ∧ (xs.all fun x => decide (kf x = "int")) = true ∧ b = rdB ls.length ns) ∧ ∀ H', Same H H' → Q (.bl b) H'
abbrev nMR : List Str := ["ring", "value"]
theorem scMR : FnScope nMR ["ring", "value"] (defScope sMakesRound) := ⟨rfl, rfl, rfl, by decide +kernel, rfl, by decide +kernel, by decide +kernel⟩
theorem ok_mrO {C f fU fN : Addr} {fd fdU fdN : FuncData} (F : Fun K "makes_round" "makes_round" sMakesRound f fd) (T : Bi mg) (NU : DefAt P w K mg base CX0 2 "is_numbers" ["value"] (spNumsO K) fU fdU) (NL : FnOk P w K mg base CX0 1 fN fdN ["self"] (spRLen K C)) (NLB : Binds K fdN ["self"] []) : FnOk P w K mg base CX0 3 f fd ["ring", "value"] (spMRO K C) := by
  refine F.ok scMR (fun vs H Q E h => ?_) (fun cdv A outer s H vs Q E hr h => ?_)
  · obtain ⟨r, v, k, rfl, _⟩ := h
    rfl
  · have nd := scMR.nd
    refine ⟨_, (pss_cons (ps_if (PW.pt (pw_or (pt_not (pt_val (pe_call NU.ok (hr.mono (by decide)) rfl NU.g NU.kp NU.b .nil pass0 (pa_cons (pv 1) pa_nil)))) (pw_or1 (pt_cmpR (op_neD hr.units) (pe_callB cr_sortedI (by rfl) T.sorted (by decide +kernel) (pa_cons (pv 1) pa_nil)) (pe_listRg rfl (by rfl) T.list (prg_1 (by rfl) T.range (pe_callB (call_lenO NL (hr.mono (by decide)) NLB) (by rfl) T.len PySem.boot_len (pa_cons (pv 0) pa_nil)))) (nomark _))))) (pss_one (ps_ret pe_bl)) pss_nil)
      (pss_one (ps_ret (pe_cmpR op_eq (pe_ix (r := rIxL K) ix_list (pv 1) pe_int (fun _ _ => rfl)) pe_int (nomark _))))), ?_⟩
    obtain ⟨r, v, k, rfl, hk, k1, k2, q⟩ := h
    exact ⟨_, rfl, v, k, rfl, hk, k1, k2, fun H' s1 => ⟨_, rfl, iteT (q H' s1)⟩⟩
theorem ok_mrL {C f fU fN : Addr} {fd fdU fdN : FuncData} (F : Fun K "makes_round" "makes_round" sMakesRound f fd) (T : Bi mg) (NU : DefAt P w K mg base CX0 2 "is_numbers" ["value"] (spNumsL K) fU fdU) (NM : Meth K C "__len__" fN) (NL : FnOk P w K mg base CX0 1 fN fdN ["self"] (spRLen K C)) (NLB : Binds K fdN ["self"] []) : FnOk P w K mg base CX0 3 f fd ["ring", "value"] (spMRL K C) := by
  refine F.ok scMR (fun vs H Q E h => ?_) (fun cdv A outer s H vs Q E hr h => ?_)
  · obtain ⟨r, a, ls, xs, kf, b, rfl, _⟩ := h
    rfl
  · have nd := scMR.nd
    refine ⟨_, (pss_cons (ps_if (PW.pt (pw_or (pt_not (pt_val (pe_call NU.ok (hr.mono (by decide)) rfl NU.g NU.kp NU.b .nil pass0 (pa_cons (pv 1) pa_nil)))) (pw_or1 (pt_cmpR (op_neD hr.units) (pe_callB cr_sortedI (by rfl) T.sorted (by decide +kernel) (pa_cons (pv 1) pa_nil)) (pe_listRg rfl (by rfl) T.list (prg_1 (by rfl) T.range (pe_callB (call_lenO NL (hr.mono (by decide)) NLB) (by rfl) T.len PySem.boot_len (pa_cons (pv 0) pa_nil)))) (nomark _))))) (pss_one (ps_ret pe_bl)) pss_nil)
      (pss_one (ps_ret (pe_cmpR op_eq (pe_ix (r := rIxL K) ix_list (pv 1) pe_int (fun _ _ => rfl)) pe_int (nomark _))))), ?_⟩
    obtain ⟨r, a, ls, xs, kf, b, rfl, rc, hk, hs, hl, hx, hb, q⟩ := h
    refine ⟨_, rfl, a, xs, kf, rfl, hk, hs, hl, hx, fun H1 s1 => ⟨_, rfl, ?_⟩⟩
    rcases hb with ⟨e, rfl⟩ | ⟨ns, rfl, e, rfl⟩
    · rw [e]
      exact iteT (q H1 s1)
    rw [e]
    refine iteF ?_
    have rc1 := rc.same s1
    obtain ⟨dx, t, hr0, ht, hf⟩ := id rc1.ring
    have l8 := rc.l8
    have l3 := rc.l3
    refine ⟨_, rfl, a, ns, rfl, s1.seq hs, fun ms p pm od np => ?_⟩
    have s2 : Same H1 (upd H1 p (.lst (ms.map V.int))) := (Same.refl H1).new np
    have hp : upd H1 p (.lst (ms.map V.int)) p = some (.lst (ms.map V.int)) := upd_same
    generalize upd H1 p (.lst (ms.map V.int)) = H2 at s2 hp ⊢
    have rc2 := rc1.same s2
    refine ⟨_, rfl, r, C, dx, _, rfl, s2 _ _ hr0, NM.at_, NM.fn, r, ls, rfl, rc2.ring.weak, _, rfl, by omega, by omega, _, rfl, RgOk.of_le (by omega) (by omega) (by omega) (by omega), fun c nc => ?_⟩
    rw [rg_nat]
    have s3 : Same H2 (upd H2 c (.lst ((natB (List.range ls.length)).map V.int))) := (Same.refl H2).new nc
    have hc : upd H2 c (.lst ((natB (List.range ls.length)).map V.int)) c = some (.lst ((natB (List.range ls.length)).map V.int)) := upd_same
    generalize upd H2 c (.lst ((natB (List.range ls.length)).map V.int)) = H3 at s3 hc ⊢
    refine ⟨_, _, .lst (SqL.of (s3 _ _ hp)) (dp_ints _), .lst (SqL.of hc) (dp_ints _), shaped_ints _, shaped_ints _, _, rfl, ?_⟩
    rw [eqvA_pd, show natB (List.range ls.length) = rgN ls.length from rfl, rd_sorted pm od]
    have s13 := (s1.trans s2).trans s3
    have qq := q H3 s13
    unfold rdB at qq
    by_cases c : ns.Perm (rgN ls.length)
    · rw [decide_eq_true c] at qq ⊢
      rw [Bool.true_and] at qq
      refine iteF ?_
      have nl : ns.length = ls.length := by rw [c.length_eq, rgN_len]
      have h0 : ns[0]? = some (ns[0]'(by omega)) := List.getElem?_eq_getElem (by omega)
      refine ⟨_, rfl, a, _, _, _, rfl, rfl, s13.seq hs, getL (i := 0) rfl (by omega), ?_⟩
      refine ⟨rfl, ?_⟩
      have e0 : ns.getD 0 0 = ns[0]'(by omega) := by rw [List.getD_eq_getElem?_getD, h0]; rfl
      rw [h0] at qq
      rw [dec_int, e0]
      have e1 : decide (some (ns[0]'(by omega)) = some (0 : Int)) = decide (ns[0]'(by omega) = 0) := by simp
      rw [e1] at qq
      exact qq
    · rw [decide_eq_false c] at qq ⊢
      exact iteT qq
theorem ok_mrT {C f fU fN : Addr} {fd fdU fdN : FuncData} (F : Fun K "makes_round" "makes_round" sMakesRound f fd) (T : Bi mg) (NU : DefAt P w K mg base CX0 2 "is_numbers" ["value"] (spNumsT K) fU fdU) (NM : Meth K C "__len__" fN) (NL : FnOk P w K mg base CX0 1 fN fdN ["self"] (spRLen K C)) (NLB : Binds K fdN ["self"] []) : FnOk P w K mg base CX0 3 f fd ["ring", "value"] (spMRT K C) := by
  refine F.ok scMR (fun vs H Q E h => ?_) (fun cdv A outer s H vs Q E hr h => ?_)
  · obtain ⟨r, a, ls, xs, kf, b, rfl, _⟩ := h
    rfl
  · have nd := scMR.nd
    refine ⟨_, (pss_cons (ps_if (PW.pt (pw_or (pt_not (pt_val (pe_call NU.ok (hr.mono (by decide)) rfl NU.g NU.kp NU.b .nil pass0 (pa_cons (pv 1) pa_nil)))) (pw_or1 (pt_cmpR (op_neD hr.units) (pe_callB cr_sortedT (by rfl) T.sorted (by decide +kernel) (pa_cons (pv 1) pa_nil)) (pe_listRg rfl (by rfl) T.list (prg_1 (by rfl) T.range (pe_callB (call_lenO NL (hr.mono (by decide)) NLB) (by rfl) T.len PySem.boot_len (pa_cons (pv 0) pa_nil)))) (nomark _))))) (pss_one (ps_ret pe_bl)) pss_nil)
      (pss_one (ps_ret (pe_cmpR op_eq (pe_ix (r := rIxT K) ix_tup (pv 1) pe_int (fun _ _ => rfl)) pe_int (nomark _))))), ?_⟩
    obtain ⟨r, a, ls, xs, kf, b, rfl, rc, hk, hs, hl, hx, hb, q⟩ := h
    refine ⟨_, rfl, a, xs, kf, rfl, hk, hs, hl, hx, fun H1 s1 => ⟨_, rfl, ?_⟩⟩
    rcases hb with ⟨e, rfl⟩ | ⟨ns, rfl, e, rfl⟩
    · rw [e]
      exact iteT (q H1 s1)
    rw [e]
    refine iteF ?_
    have rc1 := rc.same s1
    obtain ⟨dx, t, hr0, ht, hf⟩ := id rc1.ring
    have l8 := rc.l8
    have l3 := rc.l3
    refine ⟨_, rfl, a, ns, rfl, s1.tup hs, fun ms p pm od np => ?_⟩
    have s2 : Same H1 (upd H1 p (.lst (ms.map V.int))) := (Same.refl H1).new np
    have hp : upd H1 p (.lst (ms.map V.int)) p = some (.lst (ms.map V.int)) := upd_same
    generalize upd H1 p (.lst (ms.map V.int)) = H2 at s2 hp ⊢
    have rc2 := rc1.same s2
    refine ⟨_, rfl, r, C, dx, _, rfl, s2 _ _ hr0, NM.at_, NM.fn, r, ls, rfl, rc2.ring.weak, _, rfl, by omega, by omega, _, rfl, RgOk.of_le (by omega) (by omega) (by omega) (by omega), fun c nc => ?_⟩
    rw [rg_nat]
    have s3 : Same H2 (upd H2 c (.lst ((natB (List.range ls.length)).map V.int))) := (Same.refl H2).new nc
    have hc : upd H2 c (.lst ((natB (List.range ls.length)).map V.int)) c = some (.lst ((natB (List.range ls.length)).map V.int)) := upd_same
    generalize upd H2 c (.lst ((natB (List.range ls.length)).map V.int)) = H3 at s3 hc ⊢
    refine ⟨_, _, .lst (SqL.of (s3 _ _ hp)) (dp_ints _), .lst (SqL.of hc) (dp_ints _), shaped_ints _, shaped_ints _, _, rfl, ?_⟩
    rw [eqvA_pd, show natB (List.range ls.length) = rgN ls.length from rfl, rd_sorted pm od]
    have s13 := (s1.trans s2).trans s3
    have qq := q H3 s13
    unfold rdB at qq
    by_cases c : ns.Perm (rgN ls.length)
    · rw [decide_eq_true c] at qq ⊢
      rw [Bool.true_and] at qq
      refine iteF ?_
      have nl : ns.length = ls.length := by rw [c.length_eq, rgN_len]
      have h0 : ns[0]? = some (ns[0]'(by omega)) := List.getElem?_eq_getElem (by omega)
      refine ⟨_, rfl, a, _, _, _, rfl, rfl, s13.tup hs, getL (i := 0) rfl (by omega), ?_⟩
      refine ⟨rfl, ?_⟩
      have e0 : ns.getD 0 0 = ns[0]'(by omega) := by rw [List.getD_eq_getElem?_getD, h0]; rfl
      rw [h0] at qq
      rw [dec_int, e0]
      have e1 : decide (some (ns[0]'(by omega)) = some (0 : Int)) = decide (ns[0]'(by omega) = 0) := by simp
      rw [e1] at qq
      exact qq
    · rw [decide_eq_false c] at qq ⊢
      exact iteT qq
def spMR (K : PySem.W.Frag) (C : Addr) : Sp := fun vs H Q _ => ∃ (r : Addr) (v : V) (ls : List Int) (b : Bool), vs = [.ref r, v] ∧ RC K C H r ls ∧ RV K H ls.length v b ∧ ∀ H', Same H H' → Q (.bl b) H'
theorem ok_mr {C f : Addr} {fd : FuncData} (F1 : FnOk P w K mg base CX0 3 f fd ["ring", "value"] (spMRO K C)) (F2 : FnOk P w K mg base CX0 3 f fd ["ring", "value"] (spMRL K C)) (F3 : FnOk P w K mg base CX0 3 f fd ["ring", "value"] (spMRT K C)) : FnOk P w K mg base CX0 3 f fd ["ring", "value"] (spMR K C) := by
  refine (fn_or F1 (fn_or F2 F3)).imp fun vs H Q E h => ?_
  obtain ⟨r, v, ls, b, rfl, rc, rv, q⟩ := h
  rcases rv with ⟨k, h1, h2, h3, rfl⟩ | ⟨a, xs, kf, rfl, ⟨z1, z2⟩ | ⟨z1, z2⟩, hl, hx, hb⟩
  · exact .inl ⟨r, v, k, rfl, h1, h2, h3, q⟩
  · exact .inr (.inl ⟨r, a, ls, xs, kf, b, rfl, rc, z1, z2, hl, hx, hb, q⟩)
  · exact .inr (.inr ⟨r, a, ls, xs, kf, b, rfl, rc, z1, z2, hl, hx, hb, q⟩)
/-! ### want_round, is_round -/
def spWO (K : PySem.W.Frag) (C : Addr) : Sp := fun vs H Q _ => ∃ (r : Addr) (v : V) (ls : List Int) (part : Str), vs = [.ref r, v, .str part] ∧ RC K C H r ls ∧ RV K H ls.length v true ∧ ∀ H', Same H H' → Q .non H'
theorem scWO : FnScope ["ring", "value", "part"] ["ring", "value", "part"] (defScope sWantRound) := ⟨rfl, rfl, rfl, by decide +kernel, rfl, by decide +kernel, by decide +kernel⟩
theorem ok_wo {C f fM : Addr} {fd fdM : FuncData} (F : Fun K "want_round" "want_round" sWantRound f fd) (MR : DefAt P w K mg base CX0 3 "makes_round" ["ring", "value"] (spMR K C) fM fdM) : FnOk P w K mg base CX0 4 f fd ["ring", "value", "part"] (spWO K C) := by
  refine F.ok scWO (fun vs H Q E h => ?_) (fun cdv A outer s H vs Q E hr h => ?_)
  · obtain ⟨r, v, ls, part, rfl, _⟩ := h
    rfl
  · refine ⟨_, (pss_one (ps_if (pt_not (pt_val (pe_call MR.ok (hr.mono (by decide)) rfl MR.g MR.kp MR.b .nil pass0 (pa_cons (pv 0) (pa_cons (pv 1) pa_nil))))) (pss_one ps_never) pss_nil)), ?_⟩
    obtain ⟨r, v, ls, part, rfl, rc, rv, q⟩ := h
    exact ⟨_, rfl, _, rfl, r, v, ls, true, rfl, rc, rv, fun H' s1 => ⟨_, rfl, iteF (q H' s1)⟩⟩
theorem scIR : FnScope ["ring", "value"] ["ring", "value"] (defScope sIsRound) := ⟨rfl, rfl, rfl, by decide +kernel, rfl, by decide +kernel, by decide +kernel⟩
theorem ok_ir {C f fW fM : Addr} {fd fdW fdM : FuncData} (F : Fun K "is_round" "is_round" sIsRound f fd) (WR : DefAt P w K mg base CX0 6 "want_clear" ["ring"] (spClear K C) fW fdW) (MR : DefAt P w K mg base CX0 3 "makes_round" ["ring", "value"] (spMR K C) fM fdM) : FnOk P w K mg base CX0 7 f fd ["ring", "value"] (spMR K C) := by
  refine F.ok scIR (fun vs H Q E h => ?_) (fun cdv A outer s H vs Q E hr h => ?_)
  · obtain ⟨r, v, ls, b, rfl, _⟩ := h
    rfl
  · refine ⟨_, (pss_cons (ps_expr (pe_call WR.ok (hr.mono (by decide)) rfl WR.g WR.kp WR.b .nil pass0 (pa_cons (pv 0) pa_nil)))
      (pss_one (ps_ret (pe_call MR.ok (hr.mono (by decide)) rfl MR.g MR.kp MR.b .nil pass0 (pa_cons (pv 0) (pa_cons (pv 1) pa_nil)))))), ?_⟩
    obtain ⟨r, v, ls, b, rfl, rc, rv, q⟩ := h
    exact ⟨_, rfl, r, ls, rfl, rc, _, rfl, _, rfl, r, v, ls, b, rfl, rc, rv, q⟩
end
end K
namespace K
open PySem L2 Rg
open Evl (pss_cut)
/-! ### sorted(xs) of lots -/
theorem each_reads {X : Cx} {pns : List (Addr × Obj)} {σs : St} {Hh : Hp} {s : Shared} (Iv : L2.Inv X pns σs Hh s) {k : V → List Int} : ∀ {ys : List V} {out : List Value}, Vals ys out → (∀ x ∈ ys, ∃ t, x = V.ref t ∧ Hh t = some (.tup ((k x).map V.int))) →
    PySem.W.EachIs (fun v b => ∃ as, Reads s.heap v (PyData.tuple ((k b).map .int)) as) out ys
  | _, _, .nil, _ => .nil
  | y :: ys, u :: out, .cons r t, h => by
    refine .cons ?_ (each_reads Iv t fun x hx => h x (List.mem_cons_of_mem _ hx))
    obtain ⟨b, e, hb⟩ := h y (List.mem_cons_self ..)
    exact Dp.reads Iv (.tuple ((k y).map .int)) y u (by rw [e] at hb ⊢; exact .tup (.inl (.inl hb)) (dp_ints _)) r
def rSortedL (K : PySem.W.Frag) : List V → Hp → VK → Prop := fun vxs Hh Qq => ∃ (a : Addr) (xs : List V) (k : V → List Int), vxs = [.ref a] ∧ SqL K Hh a xs ∧ (∀ x ∈ xs, ∃ t, x = V.ref t ∧ Hh t = some (.tup ((k x).map V.int))) ∧ (∀ x ∈ xs, k x ≠ []) ∧
  ∀ p ys, ys.Perm xs → (ys.Pairwise fun u v => HT.lexLt (k v) (k u) = false) → Hh p = none → Qq (.ref p) (upd Hh p (.lst ys))
theorem cr_sortedL {X : Cx} (hu : X.A.units + 64 < cLine) : CallR X (.builtin "sorted") (rSortedL X.K) := by
  intro pns s σs Hh vxs uvs Qq Iv r h
  obtain ⟨a, xs, k, rfl, hs, hx, hne, qq⟩ := h
  obtain ⟨its, rv, hl, hsz⟩ := Iv.list hs
  rw [Vals.ref1 r]
  refine PySem.W.sorted_data (β := V) (R := fun u x => RelV x u) (enc := fun x => .tuple ((k x).map .int)) hl.isList (vals_each rv) (each_reads Iv rv hx) (PySem.W.AllAlike.of fun b b' => by simp [PySem.W.alike, PySem.W.alike_ints]) (.inl fun d hd => ?_) hsz (fun x _ => ?_) fun out ho heach => ?_
  · obtain ⟨x, hxm, rfl⟩ := List.mem_map.mp hd
    cases e : k x with
    | nil => exact absurd e (hne x hxm)
    | cons z zs => exact ⟨.int z, zs.map .int, rfl⟩
  · have := deep_ints (k x)
    simp only [PyData.depth, this]
    omega
  · have hpm : (xs.mergeSort (PySem.W.dataLe false fun x => PyData.tuple ((k x).map .int))).Perm xs := List.mergeSort_perm ..
    obtain ⟨n, hnn⟩ := PyProof.Rows.sortedAll_at s.heap its out.toArray
    have nf := Iv.hok.fresh (Nat.le_succ s.heap.objs.size)
    refine ⟨.ref _, upd Hh (s.heap.objs.size + 1) (.lst (xs.mergeSort (PySem.W.dataLe false fun x => PyData.tuple ((k x).map .int)))), Iv.laid (t' := s.toks) (fun _ _ => PyProof.Rows.sortedAll_old) (Nat.le_succ _) ⟨by rw [hpm.length_eq]; exact hsz, out, n, each_vals heach, hnn⟩, rfl, qq _ _ hpm ?_ nf⟩
    have z := PySem.W.sortLe_total (PyProof.Rows.listOrd PyProof.Rows.itemOrd) false (fun x : V => PySem.W.keyToks (PyData.tuple ((k x).map .int)))
    have pw := List.pairwise_mergeSort (le := PySem.W.dataLe false fun x => PyData.tuple ((k x).map .int)) (fun a b c => z.trans a b c) (fun a b => Bool.or_eq_true _ _ |>.mpr (z.total a b)) xs
    refine pw.imp fun {u v} h => ?_
    have h2 : (!PySem.W.dataLt (PyData.tuple ((k v).map .int)) (PyData.tuple ((k u).map .int))) = true := h
    rw [PySem.W.dataLt_tuple, ints_lt] at h2
    simpa using h2
/-- nss' is nss in order -/
def SrtOf (nss' nss : List (List Int)) : Prop := nss'.Perm nss ∧ nss'.Pairwise fun u v => HT.lexLt v u = false
theorem SrtOf.eq {a b nss : List (List Int)} (h : SrtOf a nss) (g : SrtOf b nss) : a = b := uniq_of (fun u v h1 h2 => lexLt_anti u v h2 h1) (h.1.trans g.1.symm) h.2 g.2
theorem tl_cont {H : Hp} : ∀ {xs : List V} {nss : List (List Int)}, TL H xs nss → xs.map (cont H) = nss
  | _, _, .nil => rfl
  | _, _, .cons ⟨a, e, h⟩ t => by rw [List.map_cons, e, cont_at h, tl_cont t]
theorem tl_perm {H : Hp} {xs ys : List V} {nss : List (List Int)} (h : TL H xs nss) (p : ys.Perm xs) : TL H ys (ys.map (cont H)) ∧ (ys.map (cont H)).Perm nss := by
  have go : ∀ zs : List V, (∀ z ∈ zs, ∃ (a : Addr) (ns : List Int), z = V.ref a ∧ H a = some (.tup (ns.map V.int))) → TL H zs (zs.map (cont H)) := by
    intro zs
    induction zs with
    | nil => exact fun _ => .nil
    | cons z zs ih =>
      intro k
      obtain ⟨a, ns, rfl, ha⟩ := k z (List.mem_cons_self ..)
      exact .cons ⟨a, rfl, by rw [cont_at ha]; exact ha⟩ (ih fun y hy => k y (List.mem_cons_of_mem _ hy))
  refine ⟨go ys fun z hz => ?_, by rw [← tl_cont h]; exact p.map _⟩
  obtain ⟨ns, _, a, e, ha⟩ := par_mem h (p.mem_iff.mp hz)
  exact ⟨a, ns, e, ha⟩
/-! ### an exchange -/
def nxt (n i : Nat) : Nat := (i + 1) % n
def swp (l : List Int) (i j : Nat) : List Int := (l.set i (l.getD j 0)).set j (l.getD i 0)
def rot0 (l : List Int) : List Int := l.drop (l.idxOf 0) ++ l.take (l.idxOf 0)
def pr (l : List Int) (i : Nat) : List Int := [l.getD i 0, l.getD (nxt l.length i) 0]
def exch (ls l : List Int) (i : Nat) : Option (List Int) := if sortV ls (pr l i) = "long" then none else some (rot0 (swp l i (nxt l.length i)))
def nearL (ls l : List Int) : List (List Int) := (List.range l.length).filterMap (exch ls l)
structure Rnd (n : Nat) (l : List Int) : Prop where
  pm : l.Perm (rgN n)
  h0 : l[0]? = some 0
theorem Rnd.len {n : Nat} {l : List Int} (h : Rnd n l) : l.length = n := by rw [h.pm.length_eq, rgN_len]
theorem Rnd.lot {n : Nat} {l : List Int} (h : Rnd n l) : Lot n l := lot_perm lot_all h.pm
theorem Rnd.rd {n : Nat} {l : List Int} (h : Rnd n l) : rdB n l = true := by
  unfold rdB
  rw [decide_eq_true h.pm, decide_eq_true h.h0]
  rfl
theorem nxt_lt {n i : Nat} (h : 0 < n) : nxt n i < n := Nat.mod_lt _ h
theorem nxt_ne {n i : Nat} (h : 2 ≤ n) (hi : i < n) : nxt n i ≠ i := by
  unfold nxt
  by_cases c : i + 1 = n
  · rw [c, Nat.mod_self]; omega
  · rw [Nat.mod_eq_of_lt (by omega)]; omega
theorem get_in {n : Nat} {l : List Int} (h : Lot n l) {i : Nat} (hi : i < l.length) : 0 ≤ l.getD i 0 ∧ l.getD i 0 < n := h.2 _ (getD_mem hi)
theorem get_ne {l : List Int} (h : l.Nodup) {i j : Nat} (hi : i < l.length) (hj : j < l.length) (ne : i ≠ j) : l.getD i 0 ≠ l.getD j 0 := by
  rw [List.getD_eq_getElem?_getD, List.getD_eq_getElem?_getD, List.getElem?_eq_getElem hi, List.getElem?_eq_getElem hj]
  intro z
  exact ne ((List.getElem_inj h).mp z)
theorem pr_lot {n : Nat} {l : List Int} (h : Rnd n l) (h2 : 2 ≤ n) {i : Nat} (hi : i < n) : Lot n (pr l i) := by
  have ln := h.len
  have lot := h.lot
  have hj : nxt l.length i < l.length := nxt_lt (by omega)
  refine ⟨?_, fun b hb => ?_⟩
  · unfold pr
    have ne := get_ne lot.1 (show i < l.length by omega) hj (nxt_ne (by omega) (by omega)).symm
    simp only [List.nodup_cons, List.mem_singleton, List.not_mem_nil, not_false_iff, List.nodup_nil, and_true]
    exact ne
  · unfold pr at hb
    rcases List.mem_cons.mp hb with z | z
    · rw [z]; exact get_in lot (by omega)
    · rw [List.mem_singleton.mp z]; exact get_in lot hj
theorem swp_len (l : List Int) (i j : Nat) : (swp l i j).length = l.length := by unfold swp; rw [List.length_set, List.length_set]
theorem rot0_len (l : List Int) : (rot0 l).length = l.length := by unfold rot0; rw [List.length_append, List.length_drop, List.length_take]; omega
theorem swp_perm {l : List Int} {i j : Nat} (hi : i < l.length) (hj : j < l.length) (ne : i ≠ j) : (swp l i j).Perm l := by
  refine List.perm_iff_count.mpr fun a => ?_
  unfold swp
  have ei : l.getD i 0 = l[i] := by rw [List.getD_eq_getElem?_getD, List.getElem?_eq_getElem hi]; rfl
  have ej : l.getD j 0 = l[j] := by rw [List.getD_eq_getElem?_getD, List.getElem?_eq_getElem hj]; rfl
  rw [ei, ej, List.count_set (by rw [List.length_set]; exact hj), List.count_set hi, List.getElem_set_ne ne]
  have ci : l[i] = a → 0 < l.count a := fun z => List.count_pos_iff.mpr (by rw [← z]; exact List.getElem_mem hi)
  have cj : l[j] = a → 0 < l.count a := fun z => List.count_pos_iff.mpr (by rw [← z]; exact List.getElem_mem hj)
  by_cases c1 : l[i] = a <;> by_cases c2 : l[j] = a <;> simp [c1, c2] <;> (first | (have := ci c1; omega) | (have := cj c2; omega) | skip)
theorem rot0_perm (l : List Int) : (rot0 l).Perm l := by
  unfold rot0
  exact List.perm_append_comm.trans (by rw [List.take_append_drop])
theorem idx_at {ns : List Int} {z : Int} (h : z ∈ ns) : ns.idxOf z < ns.length ∧ ns[ns.idxOf z]? = some z ∧ ns.getD (ns.idxOf z) 0 = z := by
  have h1 : ns.idxOf z < ns.length := List.idxOf_lt_length_of_mem h
  have h2 : ns[ns.idxOf z]? = some z := by rw [List.getElem?_eq_getElem h1, List.getElem_idxOf]
  exact ⟨h1, h2, by rw [List.getD_eq_getElem?_getD, h2]; rfl⟩
theorem idx_not {ns : List Int} {z : Int} : ∀ {m : Nat}, m < ns.idxOf z → ns[m]? ≠ some z := by
  intro m hm e
  induction ns generalizing m with
  | nil => simp at e
  | cons x r ih =>
    rw [List.idxOf_cons] at hm
    cases c : (x == z) with
    | true => rw [c] at hm; exact absurd hm (Nat.not_lt_zero _)
    | false =>
      rw [c] at hm
      cases m with
      | zero =>
        rw [List.getElem?_cons_zero] at e
        rw [Option.some.inj e] at c
        simp at c
      | succ m =>
        rw [List.getElem?_cons_succ] at e
        exact ih (by simpa using hm) e
theorem zero_in {n : Nat} {l : List Int} (h : l.Perm (rgN n)) (h1 : 1 ≤ n) : (0 : Int) ∈ l := h.mem_iff.mpr (List.mem_map.mpr ⟨0, List.mem_range.mpr h1, rfl⟩)
theorem rot0_rnd {n : Nat} {l : List Int} (h : l.Perm (rgN n)) (h1 : 1 ≤ n) : Rnd n (rot0 l) := by
  obtain ⟨a1, a2, _⟩ := idx_at (zero_in h h1)
  refine ⟨(rot0_perm l).trans h, ?_⟩
  unfold rot0
  rw [List.getElem?_append_left (by rw [List.length_drop]; omega), List.getElem?_drop, Nat.add_zero]
  exact a2
theorem exch_rnd {n : Nat} {ls l m : List Int} (h : Rnd n l) (h2 : 2 ≤ n) {i : Nat} (hi : i < n) (e : exch ls l i = some m) : Rnd n m := by
  unfold exch at e
  have ln := h.len
  by_cases c : sortV ls (pr l i) = "long"
  · rw [if_pos c] at e; cases e
  · rw [if_neg c] at e
    cases e
    exact rot0_rnd ((swp_perm (by omega) (nxt_lt (by omega)) (nxt_ne (by omega) (by omega)).symm).trans h.pm) (by omega)
theorem near_rnd {n : Nat} {ls l m : List Int} (h : Rnd n l) (h2 : 2 ≤ n) (hm : m ∈ nearL ls l) : Rnd n m := by
  obtain ⟨i, hi, e⟩ := List.mem_filterMap.mp hm
  have := List.mem_range.mp hi
  exact exch_rnd h h2 (by rw [← h.len]; exact this) e
/-- None, or a round -/
def OptV (H : Hp) (v : V) (o : Option (List Int)) : Prop := (o = none ∧ v = .non) ∨ ∃ l t, o = some l ∧ v = .ref t ∧ H t = some (.tup (l.map V.int))
theorem OptV.same {H H' : Hp} {v : V} {o : Option (List Int)} (h : OptV H v o) (s : Same H H') : OptV H' v o := by
  rcases h with h | ⟨l, t, a, b, c⟩
  · exact .inl h
  · exact .inr ⟨l, t, a, b, s _ _ c⟩
theorem OptV.mut {H : Hp} {D : Addr} {us ws : List V} {v : V} {o : Option (List Int)} (h : OptV H v o) (hD : H D = some (.lst us)) : OptV (upd H D (.lst ws)) v o := by
  rcases h with h | ⟨l, t, a, b, c⟩
  · exact .inl h
  · exact .inr ⟨l, t, a, b, by rw [upd_ne fun k => by rw [k, hD] at c; cases c]; exact c⟩
section
variable {P : Program} {w : World} {K : PySem.W.Frag} {mg : Str → Option Value} {base : Heap}
theorem emod_nat (a b : Nat) : ((a : Int) % (b : Int)) = ((a % b : Nat) : Int) := rfl
def spXA (K : PySem.W.Frag) (C : Addr) : Sp := fun vs H Q _ => ∃ (r a : Addr) (ls one : List Int) (i : Nat), vs = [.ref r, .ref a, .int (i : Nat)] ∧ RC K C H r ls ∧ SqT K H a (one.map V.int) ∧ Rnd ls.length one ∧ i < ls.length ∧
  ∀ v H', Same H H' → OptV H' v (exch ls one i) → Q v H'
abbrev nXA : List Str := ["ring", "one", "at", "behind", "bars", "first"]
theorem scXA : FnScope nXA ["ring", "one", "at"] (defScope sExchangedAt) := ⟨rfl, rfl, rfl, by decide +kernel, rfl, by decide +kernel, by decide +kernel⟩
theorem ok_xa {C f fS : Addr} {fd fdS : FuncData} (F : Fun K "exchanged_at" "exchanged_at" sExchangedAt f fd) (T : Bi mg) (R : RingC K mg C) (SO : MethV P w K mg base C "sort_of" ["self", "lot"] (spSortV K C) fS fdS) : FnOk P w K mg base CX0 7 f fd ["ring", "one", "at"] (spXA K C) := by
  refine F.ok scXA (fun vs H Q E h => ?_) (fun cdv A outer s H vs Q E hr h => ?_)
  · obtain ⟨r, a, ls, one, i, rfl, _⟩ := h
    rfl
  · have nd := scXA.nd
    refine ⟨_, (pss_cons (ps_set (i := 3) nd rfl (Or.inl rfl) (pe_op op_mod (pe_op op_add (pv 2) pe_int) (pe_callB (r := rLenS K) call_len_seq (by rfl) T.len PySem.boot_len (pa_cons (pv 1) pa_nil))))
      (pss_cons (ps_if (pt_cmpR op_eq (pe_meth (pv 0) R.cl SO.m SO.ok (hr.mono (by decide)) SO.b .nil pass0 (pa_cons (pe_tup (pa_cons (pe_ix (r := rIxT K) ix_tup (pv 1) (pv 2) (fun _ _ => rfl)) (pa_cons (pe_ix (r := rIxT K) ix_tup (pv 1) (pv 3) (fun _ _ => rfl)) pa_nil))) pa_nil)) pe_str (nomark _)) (pss_one (ps_ret pe_non)) pss_nil)
      (pss_cons (ps_set (i := 4) nd rfl (Or.inl rfl) (pe_callTy call_list_of (by rfl) T.list (by decide +kernel) (pa_cons (pv 1) pa_nil)))
      (pss_cons (ps_asg (pe_ix (r := rIxT K) ix_tup (pv 1) (pv 3) (fun _ _ => rfl)) (pg_sub (pv 4) (pv 2) set_list))
      (pss_cons (ps_asg (pe_ix (r := rIxT K) ix_tup (pv 1) (pv 2) (fun _ _ => rfl)) (pg_sub (pv 4) (pv 3) set_list))
      (pss_cons (ps_set (i := 5) nd rfl (Or.inl rfl) (pe_bm PySem.F.plainAttrs_list PySem.F.slot_list_index PySem.F.type_list_index mt_index (pv 4) (pa_cons pe_int pa_nil)))
      (pss_one (ps_ret (pe_callTy call_tuple_of (by rfl) T.tuple (by decide +kernel) (pa_cons (pe_op op_cat (pe_slice sl_list (pv 4) (po_some (pv 5)) po_none) (pe_slice sl_list (pv 4) po_none (po_some (pv 5)))) pa_nil)))))))))), ?_⟩
    obtain ⟨r, a, ls, one, i, rfl, rc, hs, rd, hi, q⟩ := h
    have l3 := rc.l3
    have l8 := rc.l8
    have ln := rd.len
    have hj : nxt one.length i < one.length := nxt_lt (by omega)
    obtain ⟨dx, t, hr0, ht, hf⟩ := id rc.ring
    have noS : (rf t ls).lookup ("sort_of" : Str) = none := rf_no _ _ (by decide +kernel) (by decide +kernel) (by decide +kernel) (by decide +kernel)
    refine ⟨_, rfl, _, _, rfl, rfl, _, rfl, a, _, rfl, .inr hs, _, _, rfl, rfl, ?_⟩
    rw [List.length_map]
    refine ⟨(show (0 : Int) < one.length by omega), ?_⟩
    dsimp only
    rw [show ((i : Int) + 1) % (one.length : Int) = ((nxt one.length i : Nat) : Int) from rfl]
    refine ⟨_, rfl, r, dx, _, rfl, hr0, noS, _, rfl, _, rfl, a, _, _, _, rfl, rfl, hs, getL (i := i) rfl (by omega), _, rfl, _, rfl, a, _, _, _, rfl, rfl, hs, getL (i := nxt one.length i) rfl hj, (by show 2 ≤ sizeLine; decide), fun p np => ?_⟩
    have s1 : Same H (upd H p (.tup [.int (one.getD i 0), .int (one.getD (nxt one.length i) 0)])) := (Same.refl H).new np
    have hp : upd H p (.tup [.int (one.getD i 0), .int (one.getD (nxt one.length i) 0)]) p = some (.tup [.int (one.getD i 0), .int (one.getD (nxt one.length i) 0)]) := upd_same
    generalize upd H p (.tup [.int (one.getD i 0), .int (one.getD (nxt one.length i) 0)]) = H1 at s1 hp ⊢
    refine ⟨r, p, ls, pr one i, rfl, rc.ring.weak.same s1, l8, hp, pr_lot rd (by omega) hi, (by show 2 ≤ 8; decide), fun H2 s2 => ⟨rfl, _, rfl, ?_⟩⟩
    have s02 := s1.trans s2
    have qq := fun v H' s e => q v H' s e
    unfold exch at qq
    rw [dec_str]
    by_cases c : sortV ls (pr one i) = "long"
    · rw [decide_eq_true c]
      rw [if_pos c] at qq
      exact iteT (qq _ _ s02 (.inl ⟨rfl, rfl⟩))
    rw [decide_eq_false c]
    rw [if_neg c] at qq
    refine iteF ?_
    refine ⟨_, rfl, a, _, rfl, .inr (s02.tup hs), fun l nl => ?_⟩
    have nl0 := s02.free nl
    have s3 : Same H2 (upd H2 l (.lst (one.map V.int))) := (Same.refl H2).new nl
    have hl : upd H2 l (.lst (one.map V.int)) l = some (.lst (one.map V.int)) := upd_same
    generalize upd H2 l (.lst (one.map V.int)) = H3 at s3 hl ⊢
    refine ⟨_, rfl, _, rfl, a, _, _, _, rfl, rfl, (s02.trans s3).tup hs, getL (i := nxt one.length i) rfl hj, ?_⟩
    refine ⟨_, rfl, _, rfl, l, _, _, i, rfl, rfl, hl, ixN_at (by omega) (by rw [List.length_map]; omega), ?_⟩
    rw [set_map]
    have hj' : nxt one.length i < (one.set i (one.getD (nxt one.length i) 0)).length := by rw [List.length_set]; exact hj
    have b1 : Same H2 (upd H3 l (.lst ((one.set i (one.getD (nxt one.length i) 0)).map V.int))) := s3.mut nl
    have h1 : upd H3 l (.lst ((one.set i (one.getD (nxt one.length i) 0)).map V.int)) l = some (.lst ((one.set i (one.getD (nxt one.length i) 0)).map V.int)) := upd_same
    generalize upd H3 l (.lst ((one.set i (one.getD (nxt one.length i) 0)).map V.int)) = H4 at b1 h1 ⊢
    refine ⟨_, rfl, _, rfl, a, _, _, _, rfl, rfl, (s02.trans b1).tup hs, getL (i := i) rfl (by omega), ?_⟩
    refine ⟨_, rfl, _, rfl, l, _, _, nxt one.length i, rfl, rfl, h1, ixN_at (by omega) (by rw [List.length_map]; omega), ?_⟩
    rw [set_map, show (one.set i (one.getD (nxt one.length i) 0)).set (nxt one.length i) (one.getD i 0) = swp one i (nxt one.length i) from rfl]
    have b2 : Same H2 (upd H4 l (.lst ((swp one i (nxt one.length i)).map V.int))) := b1.mut nl
    have h2 : upd H4 l (.lst ((swp one i (nxt one.length i)).map V.int)) l = some (.lst ((swp one i (nxt one.length i)).map V.int)) := upd_same
    generalize upd H4 l (.lst ((swp one i (nxt one.length i)).map V.int)) = H5 at b2 h2 ⊢
    have sl := swp_len one i (nxt one.length i)
    have z0 : (0 : Int) ∈ swp one i (nxt one.length i) := zero_in ((swp_perm (by omega) hj (nxt_ne (by omega) (by omega)).symm).trans rd.pm) (by omega)
    unfold rot0 at qq
    generalize swp one i (nxt one.length i) = sw at b2 h2 sl z0 qq ⊢
    obtain ⟨i1, i2, _⟩ := idx_at z0
    refine ⟨_, rfl, .inl ⟨rfl, _, SqL.of h2⟩, l, sw.map V.int, .int 0, sw.idxOf 0, .int 0, rfl, rfl, SqL.of h2, rfl, flat_ints _, by rw [List.getElem?_map, i2]; rfl, by simp [eqV], fun m z' hm hz' => ?_, ?_⟩
    · obtain ⟨y, hy, rfl⟩ := int_at hz'
      have ne : y ≠ 0 := fun z => idx_not hm (by rw [hy, z])
      simp [eqV, ne]
    generalize sw.idxOf 0 = k at i1 i2 qq ⊢
    refine ⟨_, rfl, _, rfl, _, rfl, l, _, rfl, SqL.of h2, fun p1 np1 => ?_⟩
    dsimp only [tNoPart]
    rw [cut_from _ rfl, ← List.map_drop]
    have s5 : Same H5 (upd H5 p1 (.lst ((sw.drop k).map V.int))) := (Same.refl H5).new np1
    have hp1 : upd H5 p1 (.lst ((sw.drop k).map V.int)) p1 = some (.lst ((sw.drop k).map V.int)) := upd_same
    generalize upd H5 p1 (.lst ((sw.drop k).map V.int)) = H6 at s5 hp1 ⊢
    refine ⟨_, rfl, _, rfl, _, rfl, l, _, rfl, SqL.of (s5 _ _ h2), fun p2 np2 => ?_⟩
    rw [cutV_to, ← List.map_take]
    have s6 : Same H6 (upd H6 p2 (.lst ((sw.take k).map V.int))) := (Same.refl H6).new np2
    have hp2 : upd H6 p2 (.lst ((sw.take k).map V.int)) p2 = some (.lst ((sw.take k).map V.int)) := upd_same
    generalize upd H6 p2 (.lst ((sw.take k).map V.int)) = H7 at s6 hp2 ⊢
    refine ⟨p1, p2, _, _, rfl, rfl, s6 _ _ hp1, hp2, ?_, fun p3 np3 => ?_⟩
    · rw [List.length_map, List.length_map, List.length_drop, List.length_take]
      exact Nat.le_of_lt (sm (by omega))
    rw [← List.map_append]
    have s7 : Same H7 (upd H7 p3 (.lst ((sw.drop k ++ sw.take k).map V.int))) := (Same.refl H7).new np3
    have hp3 : upd H7 p3 (.lst ((sw.drop k ++ sw.take k).map V.int)) p3 = some (.lst ((sw.drop k ++ sw.take k).map V.int)) := upd_same
    generalize upd H7 p3 (.lst ((sw.drop k ++ sw.take k).map V.int)) = H8 at s7 hp3 ⊢
    refine ⟨p3, _, rfl, .inl ⟨SqL.of hp3, fun p4 np4 => ?_⟩⟩
    have s8 : Same H8 (upd H8 p4 (.tup ((sw.drop k ++ sw.take k).map V.int))) := (Same.refl H8).new np4
    have hp4 : upd H8 p4 (.tup ((sw.drop k ++ sw.take k).map V.int)) p4 = some (.tup ((sw.drop k ++ sw.take k).map V.int)) := upd_same
    generalize upd H8 p4 (.tup ((sw.drop k ++ sw.take k).map V.int)) = H9 at s8 hp4 ⊢
    exact qq _ _ (((((s02.trans b2).trans s5).trans s6).trans s7).trans s8) (.inr ⟨_, p4, rfl, rfl, hp4⟩)
end
end K
namespace K
open PySem L2 Rg
open Evl (pss_cut)
theorem opt_list {H : Hp} : ∀ {vs : List V} {os : List (Option (List Int))}, Paired (OptV H) vs os → Paired (fun v o => OptV H v o) vs os := fun h => h
def isNon (v : V) : Bool := match v with
  | .non => true
  | _ => false
theorem opt_keep {H : Hp} : ∀ {vs : List V} {os : List (Option (List Int))}, Paired (OptV H) vs os → TL H (vs.filter fun v => !isNon v) (os.filterMap id)
  | _, _, .nil => .nil
  | _, _, .cons (.inl ⟨e, f⟩) t => by
    subst e f
    have ih := opt_keep t
    exact ih
  | _, _, .cons (.inr ⟨l, a, e, f, h⟩) t => by
    subst e f
    have ih := opt_keep t
    exact .cons ⟨a, rfl, h⟩ ih
theorem range_snoc' (i : Nat) : List.range (i + 1) = List.range i ++ [i] := List.range_succ
theorem near_eq (ls l : List Int) : ((List.range l.length).map (exch ls l)).filterMap id = nearL ls l := by
  unfold nearL
  rw [List.filterMap_map]
  rfl
theorem rnd_ne {n : Nat} {l : List Int} (h : Rnd n l) (h1 : 1 ≤ n) : l ≠ [] := fun z => by
  have := h.len
  rw [z] at this
  simp at this
  omega
section
variable {P : Program} {w : World} {K : PySem.W.Frag} {mg : Str → Option Value} {base : Heap}
def spRN (K : PySem.W.Frag) (C : Addr) : Sp := fun vs H Q _ => ∃ (r a : Addr) (ls one : List Int), vs = [.ref r, .ref a] ∧ RC K C H r ls ∧ SqT K H a (one.map V.int) ∧ Rnd ls.length one ∧
  ∀ p xs nss H', Same H H' → H' p = some (.tup xs) → TL H' xs nss → SrtOf nss (nearL ls one) → Q (.ref p) H'
abbrev nRN : List Str := ["ring", "one", "found", "at", "near"]
theorem scRN : FnScope nRN ["ring", "one"] (defScope sRoundsNear) := ⟨rfl, rfl, rfl, by decide +kernel, rfl, by decide +kernel, by decide +kernel⟩
theorem ok_rn {C f fX : Addr} {fd fdX : FuncData} (F : Fun K "rounds_near" "rounds_near" sRoundsNear f fd) (T : Bi mg) (XA : DefAt P w K mg base CX0 7 "exchanged_at" ["ring", "one", "at"] (spXA K C) fX fdX) : FnOk P w K mg base CX0 8 f fd ["ring", "one"] (spRN K C) := by
  refine F.ok scRN (fun vs H Q E h => ?_) (fun cdv A outer s H vs Q E hr h => ?_)
  · obtain ⟨r, a, ls, one, rfl, _⟩ := h
    rfl
  · have nd := scRN.nd
    refine ⟨_, (pss_cons (ps_setLc (i := 2) (own := [("at", 3)]) (g := (gName 3)) (tt := tYes)  rfl nd rfl rfl (sw_true rfl rfl rfl (by decide +kernel)) (pi_range1 (by rfl) T.range (pa_cons (pe_callB (r := rLenS K) call_len_seq (by rfl) T.len PySem.boot_len (pa_cons (pv 1) pa_nil)) pa_nil))
          (blkOk_by (N := nRN) (sc := defScope sRoundsNear) (by decide +kernel)) (fun _ _ _ _ _ => (pg_name (i := 3) nd rfl (Or.inl rfl))) (fun _ _ _ _ _ => pts_nil) (fun _ _ _ _ _ => (pe_call XA.ok (hr.mono (by decide)) rfl XA.g XA.kp XA.b .nil pass0 (pa_cons (pv 0) (pa_cons (pv 1) (pa_cons (pv 3) pa_nil))))))
      (pss_one (ps_ret (pe_callTy call_tuple_of (by rfl) T.tuple (by decide +kernel) (pa_cons (pe_callB (cr_sortedL hr.units) (by rfl) T.sorted (by decide +kernel) (pa_cons (pe_lc (own := [("near", 4)]) (g := (gName 4))  rfl nd (pi_list (pv 2))
          (blkOk_by (N := nRN) (sc := defScope sRoundsNear) (by decide +kernel)) (fun _ _ _ _ _ => (pg_name (i := 4) nd rfl (Or.inl rfl))) (fun _ _ _ _ _ => (pts_one (pt_cmpR op_notN (pv 4) pe_non (nomark _)))) (fun _ _ _ _ _ => (pv 4))) pa_nil)) pa_nil))))), ?_⟩
    obtain ⟨r, a, ls, one, rfl, rc, hs, rd, q⟩ := h
    have l3 := rc.l3
    have l8 := rc.l8
    have ln := rd.len
    refine ⟨_, rfl, a, _, rfl, .inr hs, _, rfl, by omega, by rw [List.length_map]; omega, fun D nD => ?_⟩
    rw [List.length_map]
    refine lc_range (lo := 0) (n := ((one.length : Nat) : Int).toNat) (fun i H' => Same H H' ∧ ∃ ys, H' D = some (.lst ys) ∧ Paired (OptV H') ys ((List.range i).map (exch ls one))) ⟨(Same.refl H).new nD, [], upd_same, .nil⟩ ?_ ?_
    · rintro i H' hi ⟨s1, ys, h1, py⟩
      rw [Int.toNat_natCast] at hi
      rw [Int.zero_add]
      refine ⟨rfl, _, rfl, _, rfl, _, rfl, r, a, ls, one, i, rfl, rc.same s1, s1.tup hs, rd, by omega, fun v H2 s2 ov => ⟨ys, s2 _ _ h1, ?_, (s1.trans s2).mut nD, _, upd_same, ?_⟩⟩
      · rw [par_len py, List.length_map, List.length_range]
        exact sm (by omega)
      · rw [range_snoc', List.map_append]
        exact par_app (par_imp (fun _ _ z => (z.same s2).mut (s2 _ _ h1)) py) (.cons (ov.mut (s2 _ _ h1)) .nil)
    rintro H1 ⟨s1, ys, h1, py⟩
    rw [Int.toNat_natCast] at py
    have yl : ys.length = one.length := by rw [par_len py, List.length_map, List.length_range]
    refine ⟨_, rfl, D, rfl, ⟨_, SqL.of h1⟩, fun D2 nD2 => ?_⟩
    refine lc_list (K := K) (a := D) (xs := ys) (fun i H' => Same H1 H' ∧ H' D2 = some (.lst ((ys.take i).filter fun v => !isNon v))) ⟨(Same.refl H1).new nD2, upd_same⟩ (fun i H' _ z => SqL.of (z.1 _ _ h1)) ?_ ?_
    · rintro i v H' hv ⟨s2, h2⟩
      have hil : i < ys.length := (List.getElem?_eq_some_iff.mp hv).1
      have fl : ((ys.take i).filter fun v => !isNon v).length < sizeLine := by
        have := List.length_filter_le (fun v => !isNon v) (ys.take i)
        rw [List.length_take] at this
        exact sm (by omega)
      obtain ⟨o, _, ov⟩ := par_get py hv
      rw [← take_snoc hv, List.filter_append]
      rcases ov with ⟨_, rfl⟩ | ⟨l, t, _, rfl, _⟩
      · refine ⟨rfl, _, rfl, rfl, _, rfl, iteF ⟨s2, ?_⟩⟩
        rw [h2]
        simp [List.filter, isNon]
      · refine ⟨rfl, _, rfl, rfl, _, rfl, iteT ⟨_, rfl, _, h2, fl, s2.mut nD2, ?_⟩⟩
        rw [upd_same]
        simp [List.filter, isNon]
    rintro H2 ⟨s2, h2⟩
    rw [List.take_length] at h2
    have tl := opt_keep (par_imp (fun _ _ z => OptV.same z s2) py)
    rw [near_eq] at tl
    have nls : ∀ m ∈ nearL ls one, m ≠ [] := fun m hm => rnd_ne (near_rnd rd (by omega) hm) (by omega)
    refine ⟨D2, _, cont H2, rfl, SqL.of h2, fun x hx => ?_, fun x hx => ?_, fun p zs pm od np => ?_⟩
    · obtain ⟨ns, _, b, rfl, hb⟩ := par_mem tl hx
      exact ⟨b, rfl, by rw [cont_at hb]; exact hb⟩
    · obtain ⟨ns, hns, b, rfl, hb⟩ := par_mem tl hx
      rw [cont_at hb]
      exact nls ns hns
    obtain ⟨t1, t2⟩ := tl_perm tl pm
    have s3 : Same H2 (upd H2 p (.lst zs)) := (Same.refl H2).new np
    have hp : upd H2 p (.lst zs) p = some (.lst zs) := upd_same
    generalize upd H2 p (.lst zs) = H3 at s3 hp t1 t2 ⊢
    refine ⟨p, _, rfl, .inl ⟨SqL.of hp, fun t nt => ?_⟩⟩
    have s4 : Same H3 (upd H3 t (.tup zs)) := (Same.refl H3).new nt
    have ht : upd H3 t (.tup zs) t = some (.tup zs) := upd_same
    generalize upd H3 t (.tup zs) = H4 at s4 ht ⊢
    exact q t zs _ H4 (((s1.trans s2).trans s3).trans s4) ht ((t1.same s3).same s4) ⟨t2, List.pairwise_map.mpr od⟩
/-! ### exchanged, near_rounds -/
def spEX (K : PySem.W.Frag) (C : Addr) : Sp := fun vs H Q _ => ∃ (r a : Addr) (ls one : List Int) (i : Nat), vs = [.ref r, .ref a, .int (i : Nat)] ∧ RC K C H r ls ∧ H a = some (.lst (one.map V.int)) ∧ Rnd ls.length one ∧ i < ls.length ∧
  ∀ v H', Same H H' → OptV H' v (exch ls one i) → Q v H'
theorem scEX : FnScope ["ring", "one", "at"] ["ring", "one", "at"] (defScope sExchanged) := ⟨rfl, rfl, rfl, by decide +kernel, rfl, by decide +kernel, by decide +kernel⟩
theorem ok_ex {C f fW fO fN fX fL : Addr} {fd fdW fdO fdN fdX fdL : FuncData} (F : Fun K "exchanged" "exchanged" sExchanged f fd) (T : Bi mg) (WR : DefAt P w K mg base CX0 6 "want_clear" ["ring"] (spClear K C) fW fdW) (WO : DefAt P w K mg base CX0 4 "want_round" ["ring", "value", "part"] (spWO K C) fO fdO)
    (NB : DefAt P w K mg base CX0 3 "want_number" ["value", "least", "most", "part"] spNumV fN fdN) (XA : DefAt P w K mg base CX0 7 "exchanged_at" ["ring", "one", "at"] (spXA K C) fX fdX) (NM : Meth K C "__len__" fL) (NL : FnOk P w K mg base CX0 1 fL fdL ["self"] (spRLen K C)) (NLB : Binds K fdL ["self"] []) : FnOk P w K mg base CX0 8 f fd ["ring", "one", "at"] (spEX K C) := by
  refine F.ok scEX (fun vs H Q E h => ?_) (fun cdv A outer s H vs Q E hr h => ?_)
  · obtain ⟨r, a, ls, one, i, rfl, _⟩ := h
    rfl
  · have nd := scEX.nd
    refine ⟨_, (pss_cons (ps_expr (pe_call WR.ok (hr.mono (by decide)) rfl WR.g WR.kp WR.b .nil pass0 (pa_cons (pv 0) pa_nil)))
      (pss_cons (ps_expr (pe_call WO.ok (hr.mono (by decide)) rfl WO.g WO.kp WO.b .nil pass0 (pa_cons (pv 0) (pa_cons (pv 1) (pa_cons pe_str pa_nil)))))
      (pss_cons (ps_expr (pe_call NB.ok (hr.mono (by decide)) rfl NB.g NB.kp NB.b .nil pass0 (pa_cons (pv 2) (pa_cons pe_int (pa_cons (pe_op op_sub (pe_callB (call_lenO NL (hr.mono (by decide)) NLB) (by rfl) T.len PySem.boot_len (pa_cons (pv 0) pa_nil)) pe_int) (pa_cons pe_str pa_nil))))))
      (pss_one (ps_ret (pe_call XA.ok (hr.mono (by decide)) rfl XA.g XA.kp XA.b .nil pass0 (pa_cons (pv 0) (pa_cons (pe_callTy call_tuple_of (by rfl) T.tuple (by decide +kernel) (pa_cons (pv 1) pa_nil)) (pa_cons (pv 2) pa_nil))))))))), ?_⟩
    obtain ⟨r, a, ls, one, i, rfl, rc, ha, rd, hi, q⟩ := h
    have l3 := rc.l3
    have l8 := rc.l8
    have ln := rd.len
    have rv : RV K H ls.length (.ref a) true := by rw [← rd.rd]; exact RV.lst ha (by omega)
    refine ⟨_, rfl, r, ls, rfl, rc, _, rfl, _, rfl, r, .ref a, ls, "one", rfl, rc, rv, fun H1 s1 => ?_⟩
    have rc1 := rc.same s1
    obtain ⟨dx, t, hr0, ht, hf⟩ := id rc1.ring
    refine ⟨_, rfl, _, rfl, r, C, dx, _, rfl, hr0, NM.at_, NM.fn, r, ls, rfl, rc1.ring.weak, _, rfl, by omega, by omega, _, _, rfl, rfl, (i : Int), 0, (ls.length : Int) - 1, "at", rfl, by omega, by omega, ?_⟩
    refine ⟨_, rfl, _, rfl, a, _, rfl, .inl ⟨SqL.of (s1 _ _ ha), fun p np => ?_⟩⟩
    have s2 : Same H1 (upd H1 p (.tup (one.map V.int))) := (Same.refl H1).new np
    have hp : upd H1 p (.tup (one.map V.int)) p = some (.tup (one.map V.int)) := upd_same
    generalize upd H1 p (.tup (one.map V.int)) = H2 at s2 hp ⊢
    exact ⟨_, rfl, r, p, ls, one, i, rfl, rc1.same s2, .inl (.inl hp), rd, hi, fun v H' s3 ov => q v H' ((s1.trans s2).trans s3) ov⟩
def spNR (K : PySem.W.Frag) (C : Addr) : Sp := fun vs H Q _ => ∃ (r a : Addr) (ls one : List Int), vs = [.ref r, .ref a] ∧ RC K C H r ls ∧ (H a = some (.lst (one.map V.int)) ∨ H a = some (.tup (one.map V.int))) ∧ Rnd ls.length one ∧
  ∀ p xs nss H', Same H H' → H' p = some (.tup xs) → TL H' xs nss → SrtOf nss (nearL ls one) → Q (.ref p) H'
theorem scNR : FnScope ["ring", "one"] ["ring", "one"] (defScope sNearRounds) := ⟨rfl, rfl, rfl, by decide +kernel, rfl, by decide +kernel, by decide +kernel⟩
theorem ok_nr {C f fW fO fX : Addr} {fd fdW fdO fdX : FuncData} (F : Fun K "near_rounds" "near_rounds" sNearRounds f fd) (T : Bi mg) (WR : DefAt P w K mg base CX0 6 "want_clear" ["ring"] (spClear K C) fW fdW) (WO : DefAt P w K mg base CX0 4 "want_round" ["ring", "value", "part"] (spWO K C) fO fdO)
    (RN : DefAt P w K mg base CX0 8 "rounds_near" ["ring", "one"] (spRN K C) fX fdX) : FnOk P w K mg base CX0 9 f fd ["ring", "one"] (spNR K C) := by
  refine F.ok scNR (fun vs H Q E h => ?_) (fun cdv A outer s H vs Q E hr h => ?_)
  · obtain ⟨r, a, ls, one, rfl, _⟩ := h
    rfl
  · have nd := scNR.nd
    refine ⟨_, (pss_cons (ps_expr (pe_call WR.ok (hr.mono (by decide)) rfl WR.g WR.kp WR.b .nil pass0 (pa_cons (pv 0) pa_nil)))
      (pss_cons (ps_expr (pe_call WO.ok (hr.mono (by decide)) rfl WO.g WO.kp WO.b .nil pass0 (pa_cons (pv 0) (pa_cons (pv 1) (pa_cons pe_str pa_nil)))))
      (pss_one (ps_ret (pe_call RN.ok (hr.mono (by decide)) rfl RN.g RN.kp RN.b .nil pass0 (pa_cons (pv 0) (pa_cons (pe_callTy call_tuple_of (by rfl) T.tuple (by decide +kernel) (pa_cons (pv 1) pa_nil)) pa_nil))))))), ?_⟩
    obtain ⟨r, a, ls, one, rfl, rc, ha, rd, q⟩ := h
    have l3 := rc.l3
    have l8 := rc.l8
    have ln := rd.len
    have rv : RV K H ls.length (.ref a) true := by
      rw [← rd.rd]
      rcases ha with ha | ha
      · exact RV.lst ha (by omega)
      · exact RV.tpl ha (by omega)
    refine ⟨_, rfl, r, ls, rfl, rc, _, rfl, _, rfl, r, .ref a, ls, "one", rfl, rc, rv, fun H1 s1 => ?_⟩
    have rc1 := rc.same s1
    rcases ha with ha | ha
    · refine ⟨_, rfl, _, rfl, a, _, rfl, .inl ⟨SqL.of (s1 _ _ ha), fun p np => ?_⟩⟩
      have s2 : Same H1 (upd H1 p (.tup (one.map V.int))) := (Same.refl H1).new np
      have hp : upd H1 p (.tup (one.map V.int)) p = some (.tup (one.map V.int)) := upd_same
      generalize upd H1 p (.tup (one.map V.int)) = H2 at s2 hp ⊢
      exact ⟨r, p, ls, one, rfl, rc1.same s2, .inl (.inl hp), rd, fun p' xs nss H' s3 => q p' xs nss H' ((s1.trans s2).trans s3)⟩
    · refine ⟨_, rfl, _, rfl, a, _, rfl, .inr ⟨.inl (.inl (s1 _ _ ha)), ?_⟩⟩
      exact ⟨r, a, ls, one, rfl, rc1, .inl (.inl (s1 _ _ ha)), rd, fun p' xs nss H' s3 => q p' xs nss H' (s1.trans s3)⟩
end
end K
namespace K
open PySem L2 Rg
open Evl (pss_cut)
theorem walk_any {J : It} {n : Nat} {G : Hp → Prop} {Y : Nat → Hp → V → Hp → Prop} (w : Walk J n G Y) {T : V → Hp → (Hp → Prop) → Prop} {H0 : Hp} {Qd : Hp → Prop} (Pv : Nat → Hp → Prop) (h0 : Pv 0 H0) (hG : ∀ i H, i ≤ n → Pv i H → G H)
    (hs : ∀ i x H H', i < n → Pv i H → Y i H x H' → T x H' (Pv (i + 1))) (hd : ∀ H, Pv n H → Qd H) :
    ∃ W : Nat → Nat → Hp → Prop, (∃ m, W 0 m H0) ∧ ∀ i m H, W i m H →
      (J.stop i H ∧ Qd H) ∨ (J.go i H ∧ ∃ Nx : Hp → Prop, (∀ H', Nx H' → ∃ m', m' < m ∧ W (i + 1) m' H') ∧ ∀ x H', J.yld i H x H' → T x H' Nx) := by
  refine ⟨fun i m H => m = n - i ∧ i ≤ n ∧ Pv i H, ⟨n, by simp, Nat.zero_le _, h0⟩, ?_⟩
  rintro i m H ⟨rfl, hi, p⟩
  have q := hG i H hi p
  by_cases hlt : i < n
  · exact .inr ⟨w.goes i H hlt q, Pv (i + 1), fun H' p' => ⟨n - (i + 1), by omega, rfl, hlt, p'⟩, fun x H' y => hs i x H H' hlt p (w.yields i H x H' hlt q y)⟩
  · have e : i = n := by omega
    subst e
    exact .inl ⟨w.stops H q, hd H p⟩
/-- a list of lists of one bar each -/
def LL (H : Hp) : List V → List Int → Prop := Paired fun x b => ∃ t, x = V.ref t ∧ H t = some (.lst [.int b])
theorem LL.same {H H' : Hp} {xs : List V} {bs : List Int} (h : LL H xs bs) (s : Same H H') : LL H' xs bs := par_imp (fun _ _ ⟨a, e, q⟩ => ⟨a, e, s _ _ q⟩) h
theorem LL.put {H : Hp} {D : Addr} {o : HO} {xs : List V} {bs : List Int} (h : LL H xs bs) (n : H D = none) : LL (upd H D o) xs bs := h.same ((Same.refl H).new n)
section
variable {P : Program} {w : World} {K : PySem.W.Frag} {mg : Str → Option Value} {base : Heap}
/-! ### is_lot of one bar -/
def spIL : Sp := fun vs H Q _ => ∃ (a : Addr) (b : Int), vs = [.ref a] ∧ H a = some (.lst [.int b]) ∧ 0 ≤ b ∧ ∀ H', Same H H' → Q (.bl true) H'
abbrev nLo : List Str := ["value", "rises", "at"]
theorem scLo : FnScope nLo ["value"] (defScope sIsLot) := ⟨rfl, rfl, rfl, by decide +kernel, rfl, by decide +kernel, by decide +kernel⟩
theorem ok_il {f fU : Addr} {fd fdU : FuncData} (F : Fun K "is_lot" "is_lot" sIsLot f fd) (T : Bi mg) (NU : DefAt P w K mg base CX0 2 "is_numbers" ["value"] (spNumsL K) fU fdU) : FnOk P w K mg base CX0 3 f fd ["value"] spIL := by
  refine F.ok scLo (fun vs H Q E h => ?_) (fun cdv A outer s H vs Q E hr h => ?_)
  · obtain ⟨a, b, rfl, _⟩ := h
    rfl
  · have nd := scLo.nd
    refine ⟨_, (pss_cons (ps_if (pt_not (pt_val (pe_call NU.ok (hr.mono (by decide)) rfl NU.g NU.kp NU.b .nil pass0 (pa_cons (pv 0) pa_nil)))) (pss_one (ps_ret pe_bl)) pss_nil)
      (pss_cons (ps_setLc (i := 1) (own := [("at", 2)]) (g := (gName 2)) (tt := tYes)  rfl nd rfl rfl (sw_true rfl rfl rfl (by decide +kernel)) (pi_range1 (by rfl) T.range (pa_cons (pe_op op_sub (pe_callB (r := rLenS K) call_len_seq (by rfl) T.len PySem.boot_len (pa_cons (pv 0) pa_nil)) pe_int) pa_nil))
          (blkOk_by (N := nLo) (sc := defScope sIsLot) (by decide +kernel)) (fun _ _ _ _ _ => (pg_name (i := 2) nd rfl (Or.inl rfl))) (fun _ _ _ _ _ => pts_nil) (fun _ _ _ _ _ => (pe_cmpR op_lt (pe_ix (r := rIxL K) ix_list (pv 0) (pv 2) (fun _ _ => rfl)) (pe_ix (r := rIxL K) ix_list (pv 0) (pe_op op_add (pv 2) pe_int) (fun _ _ => rfl)) (nomark _))))
      (pss_one (ps_ret (pe_and (pe_callB (cr_all rfl) (by rfl) T.all (by decide +kernel) (pa_cons (pv 1) pa_nil)) (pe_one (pe_or (pe_cmpR op_eq (pe_callB (r := rLenS K) call_len_seq (by rfl) T.len PySem.boot_len (pa_cons (pv 0) pa_nil)) pe_int (nomark _)) (pe_one (pe_cmpR op_ge (pe_ix (r := rIxL K) ix_list (pv 0) pe_int (fun _ _ => rfl)) pe_int (nomark _)))))))))), ?_⟩
    obtain ⟨a, b, rfl, ha, b0, q⟩ := h
    refine ⟨_, rfl, a, [.int b], (fun _ => "int"), rfl, ⟨.base (.lst ha), by decide⟩, SqL.of ha, (by show 1 ≤ 1000; decide), (fun x hx => by rw [List.mem_singleton.mp hx]; exact Knd.int), fun H1 s1 => ⟨_, rfl, iteF ?_⟩⟩
    have ha1 := s1 _ _ ha
    refine ⟨_, rfl, a, _, rfl, .inl (SqL.of ha1), _, _, rfl, rfl, _, rfl, (by rw [List.length_singleton]; decide), (by rw [List.length_singleton]; decide), fun D nD => ?_⟩
    have s2 : Same H1 (upd H1 D (.lst [])) := (Same.refl H1).new nD
    have hD : upd H1 D (.lst []) D = some (.lst []) := upd_same
    refine lc_range (lo := 0) (n := 0) (fun i H' => i = 0 ∧ Same H1 H' ∧ H' D = some (.lst [])) ⟨rfl, s2, hD⟩ (fun i H' hi _ => absurd hi (by omega)) ?_
    rintro H2 ⟨_, s3, h2⟩
    refine ⟨_, rfl, D, [], rfl, SqL.of h2, _, rfl, iteT ?_⟩
    refine ⟨_, rfl, a, _, rfl, .inl (SqL.of (s3 _ _ ha1)), rfl, _, rfl, iteDF (fun z => absurd (V.int.inj z) (by rw [List.length_singleton]; decide)) ?_⟩
    refine ⟨_, rfl, a, [.int b], 0, .int b, rfl, rfl, SqL.of (s3 _ _ ha1), rfl, _, _, rfl, rfl, ?_⟩
    show Q (.bl (decide (0 ≤ b))) H2
    rw [decide_eq_true b0]
    exact q _ (s1.trans s3)
/-! ### makes_cell, want_cell -/
def spMC (K : PySem.W.Frag) (C : Addr) : Sp := fun vs H Q _ => ∃ (r a : Addr) (ls one : List Int) (xs : List V), vs = [.ref r, .ref a] ∧ RC K C H r ls ∧ H a = some (.lst xs) ∧ LL H xs one ∧ Rnd ls.length one ∧ ∀ H', Same H H' → Q (.bl true) H'
abbrev nMC : List Str := ["ring", "value", "bars", "lot", "bar"]
theorem scMC : FnScope nMC ["ring", "value"] (defScope sMakesCell) := ⟨rfl, rfl, rfl, by decide +kernel, rfl, by decide +kernel, by decide +kernel⟩
def spSortLV (K : PySem.W.Frag) (C : Addr) : Sp := fun vs H Q _ => ∃ (r a : Addr) (ls ns : List Int), vs = [.ref r, .ref a] ∧ RingW K C H r ls ∧ ls.length ≤ 8 ∧ H a = some (.lst (ns.map V.int)) ∧ Lot ls.length ns ∧ ns.length ≤ 8 ∧ ∀ H', Same H H' → Q (.str (sortV ls ns)) H'
theorem ok_sortLV {C f : Addr} {c : Cs} {fd : FuncData} (F : FnOk P w K mg base (L2.CX P w) 6 f fd ["self", "lot"] (spSortOf K C c)) : FnOk P w K mg base CX0 6 f fd ["self", "lot"] (spSortLV K C) :=
  (fn_calm F).imp fun vs H Q E ⟨r, a, ls, ns, hv, ring, l8, ha, lot, n8, q⟩ => ⟨r, .ref a, ls, hv, ring, l8, LotV.lst ha lot n8 q⟩
theorem one_short {ls : List Int} (cl : closesB ls = true) (nl : levelB ls = false) {b : Int} (h : Lot ls.length [b]) : sortV ls [b] = "short" := by
  have hb := h.2 b (List.mem_singleton.mpr rfl)
  rcases sort_cases ls [b] with ⟨e, _⟩ | ⟨_, e⟩ | ⟨e, _⟩
  · rw [level_of h e] at nl; cases nl
  · exact e
  · exfalso
    have e1 : lsum ls [b] = ls.getD b.toNat 0 := by simp [lsum]
    have m := List.all_eq_true.mp cl (ls.getD b.toNat 0) (getD_mem (by omega))
    have m' := of_decide_eq_true m
    omega
theorem ok_mc {C f fL fI fS fN : Addr} {fd fdL fdI fdS fdN : FuncData} (F : Fun K "makes_cell" "makes_cell" sMakesCell f fd) (T : Bi mg) (R : RingC K mg C) (IL : DefAt P w K mg base CX0 1 "is_list" ["value"] (spIsList K) fI fdI) (LO : DefAt P w K mg base CX0 3 "is_lot" ["value"] spIL fL fdL)
    (SO : MethV P w K mg base C "sort_of" ["self", "lot"] (spSortLV K C) fS fdS) (NM : Meth K C "__len__" fN) (NL : FnOk P w K mg base CX0 1 fN fdN ["self"] (spRLen K C)) (NLB : Binds K fdN ["self"] []) : FnOk P w K mg base CX0 7 f fd ["ring", "value"] (spMC K C) := by
  refine F.ok scMC (fun vs H Q E h => ?_) (fun cdv A outer s H vs Q E hr h => ?_)
  · obtain ⟨r, a, ls, one, xs, rfl, _⟩ := h
    rfl
  · have nd := scMC.nd
    refine ⟨_, (pss_cons (ps_if (PW.pt (pw_or (pt_not (pt_val (pe_call IL.ok (hr.mono (by decide)) rfl IL.g IL.kp IL.b .nil pass0 (pa_cons (pv 1) pa_nil)))) (pw_or (pt_cmpR op_lt (pe_callB (r := rLenS K) call_len_seq (by rfl) T.len PySem.boot_len (pa_cons (pv 1) pa_nil)) pe_int (nomark _)) (pw_or1 (pt_not (pt_val (pe_callB (cr_all rfl) (by rfl) T.all (by decide +kernel) (pa_cons (pe_lc (own := [("lot", 3)]) (g := (gName 3)) (tt := tYes)  rfl nd (pi_list (pv 1))
          (blkOk_by (N := nMC) (sc := defScope sMakesCell) (by decide +kernel)) (fun _ _ _ _ _ => (pg_name (i := 3) nd rfl (Or.inl rfl))) (fun _ _ _ _ _ => pts_nil) (fun _ _ _ _ _ => (pe_call LO.ok (hr.mono (by decide)) rfl LO.g LO.kp LO.b .nil pass0 (pa_cons (pv 3) pa_nil)))) pa_nil)))))))) (pss_one (ps_ret pe_bl)) pss_nil)
      (pss_cons (ps_setLc2 (i := 2) (own := [("lot", 3), ("bar", 4)]) (vs1 := [4]) (g := gName 3) (g1 := gName 4) (tt := tYes) (tt1 := tYes) (wi1 := iList K (tVar 3)) (te := tVar 4) rfl nd rfl rfl (sw_true rfl rfl rfl (by decide +kernel)) (pi_list (pv 1)) (blkOk_by (N := nMC) (sc := defScope sMakesCell) (by decide +kernel)) (by decide)
          (fun _ _ _ _ _ => pg_name (i := 3) nd rfl (Or.inl rfl)) (fun _ _ _ _ _ => pts_nil) (fun _ _ _ _ _ => pi_list (pv 3)) (fun _ _ _ _ _ => pg_name (i := 4) nd rfl (Or.inl rfl)) (fun _ _ _ _ _ => pts_nil) (fun _ _ _ _ _ => pv 4))
      (pss_cons (ps_if (PW.pt (pw_or (pt_cmpR (op_neD hr.units) (pe_callB cr_sortedI (by rfl) T.sorted (by decide +kernel) (pa_cons (pv 2) pa_nil)) (pe_listRg rfl (by rfl) T.list (prg_1 (by rfl) T.range (pe_callB (call_lenO NL (hr.mono (by decide)) NLB) (by rfl) T.len PySem.boot_len (pa_cons (pv 0) pa_nil)))) (nomark _)) (pw_or1 (pt_cmpR op_notIn_seq pe_int (pe_ix (r := rIxL K) ix_list (pv 1) pe_int (fun _ _ => rfl)) (by rfl))))) (pss_one (ps_ret pe_bl)) pss_nil)
      (pss_one (ps_ret (pe_callB (cr_all rfl) (by rfl) T.all (by decide +kernel) (pa_cons (pe_lc (own := [("lot", 3)]) (g := (gName 3)) (tt := tYes)  rfl nd (pi_list (pv 1))
          (blkOk_by (N := nMC) (sc := defScope sMakesCell) (by decide +kernel)) (fun _ _ _ _ _ => (pg_name (i := 3) nd rfl (Or.inl rfl))) (fun _ _ _ _ _ => pts_nil) (fun _ _ _ _ _ => (pe_and (pe_cmpR op_gt (pe_callB (r := rLenS K) call_len_seq (by rfl) T.len PySem.boot_len (pa_cons (pv 3) pa_nil)) pe_int (nomark _)) (pe_one (pe_cmpR op_eq (pe_meth (pv 0) R.cl SO.m SO.ok (hr.mono (by decide)) SO.b .nil pass0 (pa_cons (pv 3) pa_nil)) pe_str (nomark _)))))) pa_nil))))))), ?_⟩
    obtain ⟨r, a, ls, one, xs, rfl, rc, ha, ll, rd, q⟩ := h
    have l3 := rc.l3
    have l8 := rc.l8
    have ln := rd.len
    have xl : xs.length = one.length := par_len ll
    have lot := rd.lot
    refine ⟨_, rfl, _, "list", rfl, ⟨.base (.lst ha), by decide⟩, fun H1 s1 => ⟨_, rfl, iteF ?_⟩⟩
    have ha1 := s1 _ _ ha
    have ll1 := ll.same s1
    refine ⟨_, rfl, a, _, rfl, .inl (SqL.of ha1), _, _, rfl, rfl, _, rfl, iteDF (by omega) ?_⟩
    refine ⟨_, rfl, a, rfl, ⟨_, SqL.of ha1⟩, fun D nD => ?_⟩
    refine lc_list (K := K) (a := a) (xs := xs) (fun j H' => Same H1 H' ∧ ∃ bs : List Bool, (∀ b ∈ bs, b = true) ∧ bs.length ≤ j ∧ H' D = some (.lst (bs.map V.bl))) ⟨(Same.refl H1).new nD, [], (fun b hb => nomatch hb), Nat.le_refl _, upd_same⟩ (fun j H' _ z => SqL.of (z.1 _ _ ha1)) ?_ ?_
    · rintro j y H' hj ⟨s2, bs, b1, b2, h2⟩
      have hjl : j < xs.length := (List.getElem?_eq_some_iff.mp hj).1
      obtain ⟨b, hb, t, rfl, ht⟩ := par_get ll1 hj
      have b0 := (lot.2 b (List.mem_of_getElem? hb)).1
      refine ⟨rfl, _, rfl, t, b, rfl, s2 _ _ ht, b0, fun H3 s3 => ⟨_, s3 _ _ h2, ?_, (s2.trans s3).mut nD, bs ++ [true], fun z hz => ?_, by rw [List.length_append]; exact Nat.succ_le_succ b2, ?_⟩⟩
      · rw [List.length_map]
        exact sm (by omega)
      · rcases List.mem_append.mp hz with m | m
        · exact b1 z m
        · exact List.mem_singleton.mp m
      · rw [upd_same, List.map_append]
        rfl
    rintro H2 ⟨s2, bs, b1, b2, h2⟩
    refine ⟨D, bs, rfl, SqL.of h2, ?_⟩
    rw [all_true b1]
    refine ⟨_, rfl, iteF ?_⟩
    have ha2 := s2 _ _ ha1
    have ll2 := ll1.same s2
    -- the bars
    refine ⟨_, rfl, a, rfl, ⟨_, SqL.of ha2⟩, fun D3 nD3 => ?_⟩
    refine walk_any walk_list (fun j H' => Same H2 H' ∧ H' D3 = some (.lst ((one.take j).map V.int))) ⟨(Same.refl H2).new nD3, upd_same⟩ (fun j H' _ z => SqL.of (z.1 _ _ ha2)) ?_ ?_
    · rintro j x H' H'' hj ⟨s3, h3⟩ ⟨rfl, hx⟩
      obtain ⟨b, hb, t, rfl, ht⟩ := par_get ll2 hx
      have hjl : j < one.length := (List.getElem?_eq_some_iff.mp hb).1
      refine ⟨rfl, _, rfl, t, rfl, ⟨_, SqL.of (s3 _ _ ht)⟩, ?_⟩
      refine walk_any walk_list (fun i H4 => Same H2 H4 ∧ H4 D3 = some (.lst ((one.take j ++ ([b] : List Int).take i).map V.int))) ⟨s3, by rw [List.take_zero, List.append_nil]; exact h3⟩ (fun i H4 _ z => SqL.of (z.1 _ _ ht)) ?_ ?_
      · rintro i y H4 H5 hi ⟨s4, h4⟩ ⟨rfl, hy⟩
        obtain ⟨z, hz, rfl⟩ := int_at (l := [b]) hy
        have hil : i < 1 := (List.getElem?_eq_some_iff.mp hz).1
        refine ⟨rfl, _, rfl, _, h4, ?_, s4.mut nD3, ?_⟩
        · rw [List.length_map, List.length_append, List.length_take, List.length_take]
          exact sm (by omega)
        · rw [upd_same, ← take_snoc hz, List.map_append, List.map_append, List.map_append, List.append_assoc]
          rfl
      · rintro H4 ⟨s4, h4⟩
        refine ⟨s4, ?_⟩
        rw [← take_snoc hb]
        exact h4
    rintro H3 ⟨s3, h3⟩
    rw [xl, List.take_length] at h3
    refine ⟨_, rfl, D3, one, rfl, SqL.of h3, fun ms p pm od np => ?_⟩
    have e : ms = rgN ls.length := sorted_eqI (pm.trans rd.pm) od (rgN_sorted _)
    subst e
    have s4 : Same H3 (upd H3 p (.lst ((rgN ls.length).map V.int))) := (Same.refl H3).new np
    have hp : upd H3 p (.lst ((rgN ls.length).map V.int)) p = some (.lst ((rgN ls.length).map V.int)) := upd_same
    generalize upd H3 p (.lst ((rgN ls.length).map V.int)) = H4 at s4 hp ⊢
    have s14 := (s2.trans s3).trans s4
    have rc4 := rc.same (s1.trans s14)
    obtain ⟨dx, t, hr0, ht, hf⟩ := id rc4.ring
    refine ⟨_, rfl, r, C, dx, _, rfl, hr0, NM.at_, NM.fn, r, ls, rfl, rc4.ring.weak, _, rfl, by omega, by omega, _, rfl, RgOk.of_le (by omega) (by omega) (by omega) (by omega), fun c nc => ?_⟩
    rw [rg_nat]
    have s5 : Same H4 (upd H4 c (.lst ((natB (List.range ls.length)).map V.int))) := (Same.refl H4).new nc
    have hc : upd H4 c (.lst ((natB (List.range ls.length)).map V.int)) c = some (.lst ((natB (List.range ls.length)).map V.int)) := upd_same
    generalize upd H4 c (.lst ((natB (List.range ls.length)).map V.int)) = H5 at s5 hc ⊢
    refine ⟨_, _, .lst (SqL.of (s5 _ _ hp)) (dp_ints _), .lst (SqL.of hc) (dp_ints _), shaped_ints _, shaped_ints _, _, rfl, ?_⟩
    rw [eqvA_pd, decide_eq_true (show rgN ls.length = natB (List.range ls.length) from rfl)]
    refine iteF ?_
    have s15 := s14.trans s5
    have ll5 := ll1.same s15
    have ha5 := s15 _ _ ha1
    obtain ⟨x0, hx0⟩ : ∃ x0, xs[0]? = some x0 := ⟨_, List.getElem?_eq_getElem (show 0 < xs.length by omega)⟩
    obtain ⟨b0, hb0, t0, rfl, ht0⟩ := par_get ll5 hx0
    have eb : b0 = 0 := by
      have := rd.h0
      rw [hb0] at this
      exact Option.some.inj this
    subst eb
    refine ⟨_, rfl, a, xs, 0, .ref t0, rfl, rfl, SqL.of ha5, atI_nat (j := 0) hx0, t0, [.int 0], rfl, .inl (SqL.of ht0), rfl, rfl, _, rfl, iteF ?_⟩
    refine ⟨_, rfl, a, rfl, ⟨_, SqL.of ha5⟩, fun D6 nD6 => ?_⟩
    have rc5 := rc4.same s5
    refine lc_list (K := K) (a := a) (xs := xs) (fun j H' => Same H5 H' ∧ ∃ bs : List Bool, (∀ b ∈ bs, b = true) ∧ bs.length ≤ j ∧ H' D6 = some (.lst (bs.map V.bl))) ⟨(Same.refl H5).new nD6, [], (fun b hb => nomatch hb), Nat.le_refl _, upd_same⟩ (fun j H' _ z => SqL.of (z.1 _ _ ha5)) ?_ ?_
    · rintro j y H' hj ⟨s6, cs, c1, c2, h6⟩
      have hjl : j < xs.length := (List.getElem?_eq_some_iff.mp hj).1
      obtain ⟨b, hb, t, rfl, ht⟩ := par_get ll5 hj
      have lb : Lot ls.length [b] := ⟨by simp, fun z hz => by rw [List.mem_singleton.mp hz]; exact lot.2 b (List.mem_of_getElem? hb)⟩
      have rc6 := rc5.same s6
      obtain ⟨dx, tt, hr6, _, _⟩ := id rc6.ring
      have noS : (rf tt ls).lookup ("sort_of" : Str) = none := rf_no _ _ (by decide +kernel) (by decide +kernel) (by decide +kernel) (by decide +kernel)
      refine ⟨rfl, _, rfl, t, _, rfl, .inl (SqL.of (s6 _ _ ht)), _, _, rfl, rfl, _, rfl, iteDT (by rw [List.length_singleton]; decide) ?_⟩
      refine ⟨_, rfl, r, dx, _, rfl, hr6, noS, _, rfl, r, t, ls, [b], rfl, rc6.ring.weak, l8, s6 _ _ ht, lb, (by show 1 ≤ 8; decide), fun H7 s7 => ⟨rfl, ?_⟩⟩
      rw [dec_str, one_short rc.cl rc.nl lb]
      refine ⟨_, s7 _ _ h6, ?_, (s6.trans s7).mut nD6, cs ++ [true], fun z hz => ?_, by rw [List.length_append]; exact Nat.succ_le_succ c2, ?_⟩
      · rw [List.length_map]
        exact sm (by omega)
      · rcases List.mem_append.mp hz with m | m
        · exact c1 z m
        · exact List.mem_singleton.mp m
      · rw [upd_same, List.map_append]
        rfl
    rintro H6 ⟨s6, cs, c1, c2, h6⟩
    refine ⟨D6, cs, rfl, SqL.of h6, ?_⟩
    rw [all_true c1]
    exact q H6 ((s1.trans s15).trans s6)
def spWE (K : PySem.W.Frag) (C : Addr) : Sp := fun vs H Q _ => ∃ (r a : Addr) (ls one : List Int) (xs : List V), vs = [.ref r, .ref a] ∧ RC K C H r ls ∧ H a = some (.lst xs) ∧ LL H xs one ∧ Rnd ls.length one ∧ ∀ H', Same H H' → Q .non H'
theorem scWE : FnScope ["ring", "value"] ["ring", "value"] (defScope sWantCell) := ⟨rfl, rfl, rfl, by decide +kernel, rfl, by decide +kernel, by decide +kernel⟩
theorem ok_we {C f fM : Addr} {fd fdM : FuncData} (F : Fun K "want_cell" "want_cell" sWantCell f fd) (MC : DefAt P w K mg base CX0 7 "makes_cell" ["ring", "value"] (spMC K C) fM fdM) : FnOk P w K mg base CX0 8 f fd ["ring", "value"] (spWE K C) := by
  refine F.ok scWE (fun vs H Q E h => ?_) (fun cdv A outer s H vs Q E hr h => ?_)
  · obtain ⟨r, a, ls, one, xs, rfl, _⟩ := h
    rfl
  · refine ⟨_, (pss_one (ps_if (pt_not (pt_val (pe_call MC.ok (hr.mono (by decide)) rfl MC.g MC.kp MC.b .nil pass0 (pa_cons (pv 0) (pa_cons (pv 1) pa_nil))))) (pss_one ps_never) pss_nil)), ?_⟩
    obtain ⟨r, a, ls, one, xs, rfl, rc, ha, ll, rd, q⟩ := h
    exact ⟨_, rfl, _, rfl, r, a, ls, one, xs, rfl, rc, ha, ll, rd, fun H' s1 => ⟨_, rfl, iteF (q H' s1)⟩⟩
/-! ### fixed -/
def spFx1 : Sp := fun vs H Q _ => ∃ (a : Addr) (b : Int), vs = [.ref a] ∧ H a = some (.lst [.int b]) ∧ ∀ t H', Same H H' → H' t = some (.tup [.int b]) → Q (.ref t) H'
def spFx2 : Sp := fun vs H Q _ => ∃ (a : Addr) (xs : List V) (bs : List Int), vs = [.ref a] ∧ H a = some (.lst xs) ∧ LL H xs bs ∧ bs.length ≤ 8 ∧ ∀ t ys H', Same H H' → H' t = some (.tup ys) → TL H' ys (bs.map fun b => [b]) → Q (.ref t) H'
abbrev nFx : List Str := ["value", "one"]
theorem scFx : FnScope nFx ["value"] (defScope sFixed) := ⟨rfl, rfl, rfl, by decide +kernel, rfl, by decide +kernel, by decide +kernel⟩
theorem ok_fx1 {f : Addr} {fd : FuncData} (F : Fun K "fixed" "fixed" sFixed f fd) (T : Bi mg) (FX : DefAt P w K mg base CX0 1 "fixed" ["value"] spFixed f fd) : FnOk P w K mg base CX0 2 f fd ["value"] spFx1 := by
  refine F.ok scFx (fun vs H Q E h => ?_) (fun cdv A outer s H vs Q E hr h => ?_)
  · obtain ⟨a, b, rfl, _⟩ := h
    rfl
  · have nd := scFx.nd
    refine ⟨_, pss_cons (ps_if (pt_val (pe_callB call_isiT (by rfl) T.isinstance (by decide +kernel) (pa_cons (pv 0) (pa_cons (pe_tup (pa_cons (pe_bltn (v := .ty "list") (u := .type "list") (by rfl) T.list (by decide +kernel) rfl) (pa_cons (pe_bltn (v := .ty "tuple") (u := .type "tuple") (by rfl) T.tuple (by decide +kernel) rfl) pa_nil))) pa_nil))))
        (pss_one (ps_ret (pe_callTy call_tuple_of (by rfl) T.tuple (by decide +kernel) (pa_cons (pe_lc (own := [("one", 1)]) (g := gName 1) (tt := tYes) rfl nd (pi_list (pv 0)) (blkOk_by (N := nFx) (sc := defScope sFixed) (by decide +kernel)) (fun _ _ _ _ _ => pg_name (i := 1) nd rfl (Or.inl rfl)) (fun _ _ _ _ _ => pts_nil) (fun _ _ _ _ _ => pe_call FX.ok (hr.mono (by decide)) rfl FX.g FX.kp FX.b .nil pass0 (pa_cons (pv 1) pa_nil))) pa_nil)))) pss_nil)
      (pss_one ps_never), ?_⟩
    obtain ⟨a, b, rfl, ha, k⟩ := h
    refine ⟨_, rfl, (by show 2 ≤ sizeLine; decide), fun p hp => ?_⟩
    have s1 : Same H (upd H p (.tup [.ty "list", .ty "tuple"])) := (Same.refl H).new hp
    refine ⟨.ref a, p, [.ty "list", .ty "tuple"], .type "list", _, true, rfl, upd_same, .cons (.ty _) (.cons (.ty _) .nil), .base (.lst (s1 _ _ ha)), kitAny_cons (b := true) (r := true) (kit_ty (kit_list "list" (by decide))) (fun e => nomatch e) (fun _ => rfl), _, rfl, iteT ?_⟩
    generalize upd H p (.tup [.ty "list", .ty "tuple"]) = H1 at s1 ⊢
    have ha1 := s1 _ _ ha
    refine ⟨_, rfl, a, rfl, ⟨_, SqL.of ha1⟩, fun D hD => ?_⟩
    refine lc_list (K := K) (a := a) (xs := ([b] : List Int).map V.int) (fun j H' => Same H1 H' ∧ H' D = some (.lst ((([b] : List Int).take j).map V.int))) ⟨(Same.refl H1).new hD, upd_same⟩ (fun j H' _ r => SqL.of (r.1 _ _ ha1)) ?_ ?_
    · rintro j y H' hj ⟨s2, h2⟩
      obtain ⟨z, hz, rfl⟩ := int_at hj
      have hjl : j < 1 := (List.getElem?_eq_some_iff.mp hz).1
      refine ⟨rfl, _, rfl, z, rfl, fun H3 s3 => ⟨_, s3 _ _ h2, ?_, (s2.trans s3).mut hD, ?_⟩⟩
      · rw [List.length_map, List.length_take]
        exact sm (by omega)
      · rw [upd_same, ← take_snoc hz, List.map_append]
        rfl
    rintro H2 ⟨s2, h2⟩
    refine ⟨D, _, rfl, .inl ⟨SqL.of h2, fun t nt => ?_⟩⟩
    exact k t _ ((s1.trans s2).new nt) upd_same
theorem ok_fx2 {f : Addr} {fd : FuncData} (F : Fun K "fixed" "fixed" sFixed f fd) (T : Bi mg) (FX : DefAt P w K mg base CX0 2 "fixed" ["value"] spFx1 f fd) : FnOk P w K mg base CX0 3 f fd ["value"] spFx2 := by
  refine F.ok scFx (fun vs H Q E h => ?_) (fun cdv A outer s H vs Q E hr h => ?_)
  · obtain ⟨a, xs, bs, rfl, _⟩ := h
    rfl
  · have nd := scFx.nd
    refine ⟨_, pss_cons (ps_if (pt_val (pe_callB call_isiT (by rfl) T.isinstance (by decide +kernel) (pa_cons (pv 0) (pa_cons (pe_tup (pa_cons (pe_bltn (v := .ty "list") (u := .type "list") (by rfl) T.list (by decide +kernel) rfl) (pa_cons (pe_bltn (v := .ty "tuple") (u := .type "tuple") (by rfl) T.tuple (by decide +kernel) rfl) pa_nil))) pa_nil))))
        (pss_one (ps_ret (pe_callTy call_tuple_of (by rfl) T.tuple (by decide +kernel) (pa_cons (pe_lc (own := [("one", 1)]) (g := gName 1) (tt := tYes) rfl nd (pi_list (pv 0)) (blkOk_by (N := nFx) (sc := defScope sFixed) (by decide +kernel)) (fun _ _ _ _ _ => pg_name (i := 1) nd rfl (Or.inl rfl)) (fun _ _ _ _ _ => pts_nil) (fun _ _ _ _ _ => pe_call FX.ok (hr.mono (by decide)) rfl FX.g FX.kp FX.b .nil pass0 (pa_cons (pv 1) pa_nil))) pa_nil)))) pss_nil)
      (pss_one ps_never), ?_⟩
    obtain ⟨a, xs, bs, rfl, ha, ll, l8, k⟩ := h
    refine ⟨_, rfl, (by show 2 ≤ sizeLine; decide), fun p hp => ?_⟩
    have s1 : Same H (upd H p (.tup [.ty "list", .ty "tuple"])) := (Same.refl H).new hp
    refine ⟨.ref a, p, [.ty "list", .ty "tuple"], .type "list", _, true, rfl, upd_same, .cons (.ty _) (.cons (.ty _) .nil), .base (.lst (s1 _ _ ha)), kitAny_cons (b := true) (r := true) (kit_ty (kit_list "list" (by decide))) (fun e => nomatch e) (fun _ => rfl), _, rfl, iteT ?_⟩
    generalize upd H p (.tup [.ty "list", .ty "tuple"]) = H1 at s1 ⊢
    have ha1 := s1 _ _ ha
    have ll1 := ll.same s1
    refine ⟨_, rfl, a, rfl, ⟨_, SqL.of ha1⟩, fun D hD => ?_⟩
    refine lc_list (K := K) (a := a) (xs := xs) (fun j H' => Same H1 H' ∧ ∃ us, H' D = some (.lst us) ∧ TL H' us ((bs.take j).map fun b => [b])) ⟨(Same.refl H1).new hD, [], upd_same, .nil⟩ (fun j H' _ r => SqL.of (r.1 _ _ ha1)) ?_ ?_
    · rintro j y H' hj ⟨s2, us, h2, pu⟩
      obtain ⟨b, hb, t, rfl, ht⟩ := par_get ll1 hj
      refine ⟨rfl, _, rfl, t, b, rfl, s2 _ _ ht, fun t' H3 s3 ht' => ⟨us, s3 _ _ h2, ?_, (s2.trans s3).mut hD, _, upd_same, ?_⟩⟩
      · rw [par_len pu, List.length_map, List.length_take]
        exact sm (by omega)
      · rw [← take_snoc hb, List.map_append]
        refine par_app ((pu.same s3).mut (s3 _ _ h2)) (.cons ⟨t', rfl, ?_⟩ .nil)
        rw [upd_ne fun e => by rw [e, s3 _ _ h2] at ht'; cases ht']
        exact ht'
    rintro H2 ⟨s2, us, h2, pu⟩
    rw [par_len ll, List.take_length] at pu
    refine ⟨D, _, rfl, .inl ⟨SqL.of h2, fun t nt => ?_⟩⟩
    have s3 : Same H2 (upd H2 t (.tup us)) := (Same.refl H2).new nt
    exact k t us _ ((s1.trans s2).trans s3) upd_same (pu.same s3)
end
end K
namespace K
open PySem L2 Rg
open Evl (pss_cut)
def srt2 (x y : Int) : List Int := if x ≤ y then [x, y] else [y, x]
def sp2 (l : List Int) (i : Nat) : List Int := srt2 (l.getD i 0) (l.getD (nxt l.length i) 0)
def wbL {α : Type} (xs : List α) (i : Nat) (y : α) : List α := if i = xs.length - 1 then y :: (xs.take i).drop 1 else xs.take i ++ [y] ++ xs.drop (i + 2)
def cellW (l : List Int) (i : Nat) : List (List Int) := wbL (l.map fun b => [b]) i (sp2 l i)
def shB (ls l : List Int) (i : Nat) : Bool := decide (sortV ls (sp2 l i) = "short")
def rimL (ls l : List Int) : List (List (List Int)) := ((List.range l.length).filter (shB ls l)).map (cellW l)
theorem srt2_perm (x y : Int) : (srt2 x y).Perm [x, y] := by
  unfold srt2
  by_cases c : x ≤ y
  · rw [if_pos c]
  · rw [if_neg c]; exact List.Perm.swap ..
theorem srt2_sorted (x y : Int) : (srt2 x y).Pairwise (· ≤ ·) := by
  unfold srt2
  by_cases c : x ≤ y
  · rw [if_pos c]; simp [c]
  · rw [if_neg c]; simp; omega
theorem sp2_lot {n : Nat} {l : List Int} (h : Rnd n l) (h2 : 2 ≤ n) {i : Nat} (hi : i < n) : Lot n (sp2 l i) := lot_perm (pr_lot h h2 hi) (srt2_perm _ _)
theorem sp2_sort {ls l : List Int} {i : Nat} : sortV ls (sp2 l i) = sortV ls (pr l i) := by
  unfold sortV
  rw [lsum_perm (show (sp2 l i).Perm (pr l i) from srt2_perm _ _)]
theorem par_wb {α β : Type} {R : α → β → Prop} {xs : List α} {ys : List β} {a : α} {b : β} (h : Paired R xs ys) (r : R a b) (i : Nat) : Paired R (wbL xs i a) (wbL ys i b) := by
  unfold wbL
  rw [par_len h]
  by_cases c : i = ys.length - 1
  · rw [if_pos c, if_pos c]
    exact .cons r (par_drop _ (par_take _ h))
  · rw [if_neg c, if_neg c]
    exact par_app (par_app (par_take _ h) (.cons r .nil)) (par_drop _ h)
theorem wbL_len {α : Type} {xs : List α} {i : Nat} {y : α} (h : i < xs.length) (h2 : 2 ≤ xs.length) : (wbL xs i y).length = xs.length - 1 := by
  unfold wbL
  by_cases c : i = xs.length - 1
  · rw [if_pos c, List.length_cons, List.length_drop, List.length_take]; omega
  · rw [if_neg c, List.length_append, List.length_append, List.length_take, List.length_drop, List.length_singleton]; omega
/-- a cell in the heap -/
def CellV (H : Hp) (v : V) (c : List (List Int)) : Prop := ∃ t xs, v = V.ref t ∧ H t = some (.tup xs) ∧ TL H xs c
theorem CellV.same {H H' : Hp} {v : V} {c : List (List Int)} (h : CellV H v c) (s : Same H H') : CellV H' v c := let ⟨t, xs, e, a, p⟩ := h; ⟨t, xs, e, s _ _ a, p.same s⟩
theorem CellV.mut {H : Hp} {D : Addr} {us ws : List V} {v : V} {c : List (List Int)} (h : CellV H v c) (hD : H D = some (.lst us)) : CellV (upd H D (.lst ws)) v c := by
  obtain ⟨t, xs, e, a, p⟩ := h
  exact ⟨t, xs, e, by rw [upd_ne fun k => by rw [k, hD] at a; cases a]; exact a, p.mut hD⟩
/-! ### sorted(xs) of cells -/
def lotD (ns : List Int) : PyData := .tuple (ns.map PyData.int)
def cellD (c : List (List Int)) : PyData := .tuple (c.map lotD)
theorem alike_lots : ∀ a b : List (List Int), PySem.W.alikeAll (a.map lotD) (b.map lotD) = true
  | [], _ => by simp [PySem.W.alikeAll]
  | _ :: _, [] => by simp [PySem.W.alikeAll]
  | x :: a, y :: b => by
    show PySem.W.alikeAll (lotD x :: a.map lotD) (lotD y :: b.map lotD) = true
    rw [PySem.W.alikeAll, alike_lots a b]
    simp [PySem.W.alike, PySem.W.alike_ints, lotD]
/-- what a cell holds -/
def ck (H : Hp) (x : V) : List (List Int) := match x with
  | .ref a => (match H a with
    | some (.tup xs) => xs.map (cont H)
    | _ => [])
  | _ => []
theorem ck_at {H : Hp} {v : V} {c : List (List Int)} (h : CellV H v c) : ck H v = c := by
  obtain ⟨a, xs, rfl, h, p⟩ := h
  show (match H a with
    | some (.tup xs) => xs.map (cont H)
    | _ => []) = c
  rw [h]
  exact tl_cont p
theorem ck_map {H : Hp} : ∀ {xs : List V} {cs : List (List (List Int))}, Paired (CellV H) xs cs → xs.map (ck H) = cs
  | _, _, .nil => rfl
  | _, _, .cons h t => by rw [List.map_cons, ck_at h, ck_map t]
theorem each_cell {X : Cx} {pns : List (Addr × Obj)} {σs : St} {Hh : Hp} {s : Shared} (Iv : L2.Inv X pns σs Hh s) : ∀ {ys : List V} {out : List Value}, Vals ys out → (∀ x ∈ ys, ∃ c, CellV Hh x c) →
    PySem.W.EachIs (fun v b => ∃ as, Reads s.heap v (cellD (ck Hh b)) as) out ys
  | _, _, .nil, _ => .nil
  | y :: ys, u :: out, .cons r t, h => by
    refine .cons ?_ (each_cell Iv t fun x hx => h x (List.mem_cons_of_mem _ hx))
    obtain ⟨c, hs⟩ := h y (List.mem_cons_self ..)
    rw [ck_at hs]
    obtain ⟨a, xs, e, ha, px⟩ := hs
    exact Dp.reads Iv (cellD c) y u (by rw [e]; exact .tup (.inl (.inl ha)) (tl_dp px)) r
def rSortedC (K : PySem.W.Frag) : List V → Hp → VK → Prop := fun vxs Hh Qq => ∃ (a : Addr) (xs : List V) (cs : List (List (List Int))), vxs = [.ref a] ∧ SqL K Hh a xs ∧ Paired (CellV Hh) xs cs ∧ (∀ c ∈ cs, c ≠ []) ∧
  ∀ p ys, ys.Perm xs → Hh p = none → Qq (.ref p) (upd Hh p (.lst ys))
theorem cr_sortedC {X : Cx} (hu : X.A.units + 64 < cLine) : CallR X (.builtin "sorted") (rSortedC X.K) := by
  rintro pns s σs Hh vxs uvs Qq Iv rr ⟨a, xs, cs, rfl, hs, px, hne, qq⟩
  obtain ⟨its, rv, hl, hsz⟩ := Iv.list hs
  rw [Vals.ref1 rr]
  have each : ∀ x ∈ xs, ∃ c, c ≠ [] ∧ CellV Hh x c := fun x hx => by
    obtain ⟨c, m, h⟩ := par_mem px hx
    exact ⟨c, hne c m, h⟩
  refine PySem.W.sorted_data (β := V) (R := fun u x => RelV x u) (enc := fun x => cellD (ck Hh x)) hl.isList (vals_each rv) (each_cell Iv rv fun x hx => let ⟨c, _, h⟩ := each x hx; ⟨c, h⟩) (PySem.W.AllAlike.of fun b b' => by
    show PySem.W.alike (cellD _) (cellD _) = true
    unfold cellD
    rw [PySem.W.alike]
    exact alike_lots _ _) (.inl fun d hd => ?_) hsz (fun x _ => ?_) fun out ho heach => ?_
  · obtain ⟨x, hxm, rfl⟩ := List.mem_map.mp hd
    obtain ⟨c, ne, h⟩ := each x hxm
    rw [ck_at h]
    cases c with
    | nil => exact absurd rfl ne
    | cons z zs => exact ⟨lotD z, zs.map lotD, rfl⟩
  · have := tl_deep (ck Hh x)
    have e : (cellD (ck Hh x)).depth ≤ 2 := by
      unfold cellD
      simp only [PyData.depth]
      have h2 : PyData.depthAll ((ck Hh x).map lotD) ≤ 1 := this
      omega
    omega
  · have hpm : (xs.mergeSort (PySem.W.dataLe false fun x => cellD (ck Hh x))).Perm xs := List.mergeSort_perm ..
    obtain ⟨n, hnn⟩ := PyProof.Rows.sortedAll_at s.heap its out.toArray
    have nf := Iv.hok.fresh (Nat.le_succ s.heap.objs.size)
    exact ⟨.ref _, upd Hh (s.heap.objs.size + 1) (.lst (xs.mergeSort (PySem.W.dataLe false fun x => cellD (ck Hh x)))), Iv.laid (t' := s.toks) (fun _ _ => PyProof.Rows.sortedAll_old) (Nat.le_succ _) ⟨by rw [hpm.length_eq]; exact hsz, out, n, each_vals heach, hnn⟩, rfl, qq _ _ hpm nf⟩
theorem cells_perm {H : Hp} {xs ys : List V} {cs : List (List (List Int))} (p : ys.Perm xs) (h : Paired (CellV H) xs cs) : ∃ cs', cs'.Perm cs ∧ Paired (CellV H) ys cs' := by
  have go : ∀ zs : List V, (∀ z ∈ zs, ∃ c, CellV H z c) → Paired (CellV H) zs (zs.map (ck H)) := by
    intro zs
    induction zs with
    | nil => exact fun _ => .nil
    | cons z zs ih =>
      intro k
      obtain ⟨c, hs⟩ := k z (List.mem_cons_self ..)
      exact .cons (by rw [ck_at hs]; exact hs) (ih fun y hy => k y (List.mem_cons_of_mem _ hy))
  refine ⟨ys.map (ck H), ?_, go ys fun z hz => let ⟨c, _, h⟩ := par_mem h (p.mem_iff.mp hz); ⟨c, h⟩⟩
  rw [← ck_map h]
  exact p.map _
section
variable {P : Program} {w : World} {K : PySem.W.Frag} {mg : Str → Option Value} {base : Heap}
theorem slMid {a : Addr} {xs : List V} {i j : Nat} {H : Hp} {Q : VK} (ha : H a = some (.tup xs)) (k : ∀ t H', H' t = some (.tup ((xs.take j).drop i)) → Same H H' → Q (.ref t) H') : rSlA K (.ref a) (some (i : Int)) (some (j : Int)) H Q := by
  refine ⟨a, xs, rfl, .inl (.inl ha), fun ⟨e1, e2⟩ => k a H ?_ (Same.refl H), fun _ p hp => k p _ ?_ ((Same.refl H).new hp)⟩
  · rw [HT.sIx_nat] at e1 e2
    rw [List.take_of_length_le (by omega)]
    rcases Nat.eq_zero_or_pos i with z | z
    · rw [z]; exact ha
    · have : xs.length = 0 := by omega
      rw [List.eq_nil_of_length_eq_zero this, List.drop_nil]
      rw [List.eq_nil_of_length_eq_zero this] at ha
      exact ha
  · rw [upd_same]
    unfold cutV
    rw [HT.sIx_nat, HT.sIx_nat, List.drop_take]
    congr 2
    refine List.ext_getElem? fun m => ?_
    rw [List.getElem?_take, List.getElem?_take, List.getElem?_drop, List.getElem?_drop]
    by_cases c : i ≤ xs.length
    · rw [Nat.min_eq_left c]
      by_cases d : j ≤ xs.length
      · rw [Nat.min_eq_left d]
      · rw [Nat.min_eq_right (by omega)]
        by_cases e : m < xs.length - i
        · rw [if_pos e, if_pos (by omega)]
        · rw [if_neg e]
          by_cases f : m < j - i
          · rw [if_pos f, List.getElem?_eq_none (by omega)]
          · rw [if_neg f]
    · rw [List.getElem?_eq_none (show xs.length ≤ i + m by omega), List.getElem?_eq_none (show xs.length ≤ min i xs.length + m by omega)]
      simp
def spWB (K : PySem.W.Frag) : Sp := fun vs H Q _ => ∃ (c b : Addr) (xs : List V) (i : Nat), vs = [.ref c, .int (i : Nat), .ref b] ∧ H c = some (.tup xs) ∧ i < xs.length ∧ xs.length ≤ 8 ∧ ∀ t H', Same H H' → H' t = some (.tup (wbL xs i (.ref b))) → Q (.ref t) H'
abbrev nWB : List Str := ["cell", "at", "both"]
theorem scWB : FnScope nWB ["cell", "at", "both"] (defScope sWithBoth) := ⟨rfl, rfl, rfl, by decide +kernel, rfl, by decide +kernel, by decide +kernel⟩
theorem ok_wb {f : Addr} {fd : FuncData} (F : Fun K "with_both" "with_both" sWithBoth f fd) (T : Bi mg) : FnOk P w K mg base CX0 1 f fd ["cell", "at", "both"] (spWB K) := by
  refine F.ok scWB (fun vs H Q E h => ?_) (fun cdv A outer s H vs Q E hr h => ?_)
  · obtain ⟨c, b, xs, i, rfl, _⟩ := h
    rfl
  · have nd := scWB.nd
    refine ⟨_, (pss_cons (ps_if (pt_cmpR op_eq (pv 1) (pe_op op_sub (pe_callB (r := rLenS K) call_len_seq (by rfl) T.len PySem.boot_len (pa_cons (pv 0) pa_nil)) pe_int) (nomark _)) (pss_one (ps_ret (pe_op op_catA (pe_tup (pa_cons (pv 2) pa_nil)) (pe_slice sl_tupA (pv 0) (po_some pe_int) (po_some (pv 1)))))) pss_nil)
      (pss_one (ps_ret (pe_op op_catA (pe_op op_catA (pe_slice sl_tupA (pv 0) po_none (po_some (pv 1))) (pe_tup (pa_cons (pv 2) pa_nil))) (pe_slice sl_tupA (pv 0) (po_some (pe_op op_add (pv 1) pe_int)) po_none))))), ?_⟩
    obtain ⟨c, b, xs, i, rfl, hc, hi, l8, q⟩ := h
    refine ⟨_, rfl, _, rfl, c, _, rfl, .inr (.inl (.inl hc)), _, _, rfl, rfl, rfl, _, rfl, ?_⟩
    have qq := fun t H' s e => q t H' s e
    unfold wbL at qq
    by_cases e : i = xs.length - 1
    · refine iteDT (by show V.int _ = V.int _; congr 1; omega) ?_
      rw [if_pos e] at qq
      refine ⟨_, rfl, (by show 1 ≤ sizeLine; decide), fun p np => ?_⟩
      have s1 : Same H (upd H p (.tup [.ref b])) := (Same.refl H).new np
      have hp : upd H p (.tup [.ref b]) p = some (.tup [.ref b]) := upd_same
      generalize upd H p (.tup [.ref b]) = H1 at s1 hp ⊢
      refine ⟨_, rfl, _, rfl, _, rfl, _, rfl, slMid (i := 1) (s1 _ _ hc) fun t1 H2 h2 s2 => ?_⟩
      have tl : ((xs.take i).drop 1).length ≤ 8 := by rw [List.length_drop, List.length_take]; omega
      refine catV (s2 _ _ hp) h2 (by show 1 + ((xs.take i).drop 1).length ≤ 1000; omega) fun t H3 h3 s3 => ?_
      exact qq t H3 ((s1.trans s2).trans s3) h3
    · refine iteDF (fun z => e (by have := V.int.inj z; omega)) ?_
      rw [if_neg e] at qq
      refine ⟨_, rfl, _, rfl, _, rfl, slTo hc fun t1 H1 h1 s1 => ⟨_, rfl, (by show 1 ≤ sizeLine; decide), fun p np => ?_⟩⟩
      have s2 : Same H1 (upd H1 p (.tup [.ref b])) := (Same.refl H1).new np
      have hp : upd H1 p (.tup [.ref b]) p = some (.tup [.ref b]) := upd_same
      generalize upd H1 p (.tup [.ref b]) = H2 at s2 hp ⊢
      have tk : (xs.take i).length ≤ 8 := by rw [List.length_take]; omega
      refine catV (s2 _ _ h1) hp (by show (xs.take i).length + 1 ≤ 1000; omega) fun t3 H3 h3 s3 => ?_
      have s13 := (s1.trans s2).trans s3
      refine ⟨_, rfl, _, rfl, _, _, rfl, rfl, _, rfl, ?_⟩
      rw [show ((i : Int) + 2) = ((i + 2 : Nat) : Int) from rfl]
      dsimp only [tNoPart]
      refine slFrom (s13 _ _ hc) fun t4 H4 h4 s4 => ?_
      have dp : (xs.drop (i + 2)).length ≤ 8 := by rw [List.length_drop]; omega
      refine catV (s4 _ _ h3) h4 (by rw [List.length_append]; show (xs.take i).length + 1 + (xs.drop (i + 2)).length ≤ 1000; omega) fun t5 H5 h5 s5 => ?_
      exact qq t5 H5 ((s13.trans s4).trans s5) h5
/-! ### rim_cells, rim_of -/
def spRK (K : PySem.W.Frag) (C : Addr) : Sp := fun vs H Q _ => ∃ (r c : Addr) (ls one : List Int) (xs : List V), vs = [.ref r, .ref c] ∧ RC K C H r ls ∧ H c = some (.tup xs) ∧ TL H xs (one.map fun b => [b]) ∧ Rnd ls.length one ∧
  ∀ p ys cs H', Same H H' → H' p = some (.tup ys) → Paired (CellV H') ys cs → cs.Perm (rimL ls one) → Q (.ref p) H'
abbrev nRK : List Str := ["ring", "cell", "found", "at", "both"]
theorem scRK : FnScope nRK ["ring", "cell"] (defScope sRimCells) := ⟨rfl, rfl, rfl, by decide +kernel, rfl, by decide +kernel, by decide +kernel⟩
theorem ok_rk {C f fS fW : Addr} {fd fdS fdW : FuncData} (F : Fun K "rim_cells" "rim_cells" sRimCells f fd) (T : Bi mg) (R : RingC K mg C) (SO : MethV P w K mg base C "sort_of" ["self", "lot"] (spSortV K C) fS fdS) (WB : DefAt P w K mg base CX0 1 "with_both" ["cell", "at", "both"] (spWB K) fW fdW) : FnOk P w K mg base CX0 7 f fd ["ring", "cell"] (spRK K C) := by
  refine F.ok scRK (fun vs H Q E h => ?_) (fun cdv A outer s H vs Q E hr h => ?_)
  · obtain ⟨r, c, ls, one, xs, rfl, _⟩ := h
    rfl
  · have nd := scRK.nd
    refine ⟨_, (pss_cons (ps_set (i := 2) nd rfl (Or.inl rfl) (pe_lst pa_nil))
      (pss_cons (ps_for PassesOwn.never rfl (pi_range1 (by rfl) T.range (pa_cons (pe_callB (r := rLenS K) call_len_seq (by rfl) T.len PySem.boot_len (pa_cons (pv 1) pa_nil)) pa_nil)) (pg_name (i := 3) nd rfl (Or.inl rfl)) (pss_cons (ps_set (i := 4) nd rfl (Or.inl rfl) (pe_callTy call_tuple_of (by rfl) T.tuple (by decide +kernel) (pa_cons (pe_callB cr_sortedT (by rfl) T.sorted (by decide +kernel) (pa_cons (pe_op op_catA (pe_ix (r := rIxT K) ix_tup (pv 1) (pv 3) (fun _ _ => rfl)) (pe_ix (r := rIxT K) ix_tup (pv 1) (pe_op op_mod (pe_op op_add (pv 3) pe_int) (pe_callB (r := rLenS K) call_len_seq (by rfl) T.len PySem.boot_len (pa_cons (pv 1) pa_nil))) (fun _ _ => rfl))) pa_nil)) pa_nil)))
      (pss_one (ps_if (pt_cmpR op_eq (pe_meth (pv 0) R.cl SO.m SO.ok (hr.mono (by decide)) SO.b .nil pass0 (pa_cons (pv 4) pa_nil)) pe_str (nomark _)) (pss_one (ps_expr (pe_bm PySem.F.plainAttrs_list PySem.F.slot_list_append PySem.F.type_list_append mt_append (pv 2) (pa_cons (pe_call WB.ok (hr.mono (by decide)) rfl WB.g WB.kp WB.b .nil pass0 (pa_cons (pv 1) (pa_cons (pv 3) (pa_cons (pv 4) pa_nil)))) pa_nil)))) pss_nil))))
      (pss_one (ps_ret (pe_callTy call_tuple_of (by rfl) T.tuple (by decide +kernel) (pa_cons (pe_callB (cr_sortedC hr.units) (by rfl) T.sorted (by decide +kernel) (pa_cons (pv 2) pa_nil)) pa_nil)))))), ?_⟩
    obtain ⟨r, c, ls, one, xs, rfl, rc, hc, tl, rd, q⟩ := h
    have l3 := rc.l3
    have l8 := rc.l8
    have ln := rd.len
    have xl : xs.length = one.length := by rw [par_len tl, List.length_map]
    refine ⟨(by show 0 ≤ sizeLine; decide), fun D nD => ?_⟩
    refine ⟨_, rfl, c, _, rfl, .inr (((Same.refl H).new nD).tup (.inl (.inl hc))), _, rfl, by omega, by omega, ?_⟩
    rw [xl]
    refine for_range (lo := 0) (n := ((one.length : Nat) : Int).toNat) (fun i σ H' => ∃ (z3 z4 : Option V) (us : List V), σ = [some (.ref r), some (.ref c), some (.ref D), z3, z4] ∧ Same H H' ∧ H' D = some (.lst us) ∧ Paired (CellV H') us (((List.range i).filter (shB ls one)).map (cellW one)))
      ⟨none, none, [], rfl, (Same.refl H).new nD, upd_same, .nil⟩ ?_ ?_
    · rintro i σ H1 hi ⟨z3, z4, us, rfl, s1, h1, pu⟩
      rw [Int.toNat_natCast] at hi
      rw [Int.zero_add]
      have hj : nxt one.length i < one.length := nxt_lt (by omega)
      have hc1 := s1 _ _ hc
      have tl1 := tl.same s1
      have ea : (one.map fun b => [b])[i]? = some [one.getD i 0] := by
        rw [List.getElem?_map, List.getD_eq_getElem?_getD, List.getElem?_eq_getElem (show i < one.length by omega)]; rfl
      have eb : (one.map fun b => [b])[nxt one.length i]? = some [one.getD (nxt one.length i) 0] := by
        rw [List.getElem?_map, List.getD_eq_getElem?_getD, List.getElem?_eq_getElem hj]; rfl
      obtain ⟨ta, xa, ha⟩ := tl_at tl1 ea
      obtain ⟨tb, xb, hb⟩ := tl_at tl1 eb
      refine ⟨_, rfl, _, rfl, c, xs, _, _, rfl, rfl, .inl (.inl hc1), atI_nat xa, _, rfl, _, rfl, _, _, rfl, rfl, _, rfl, c, _, rfl, .inr (.inl (.inl hc1)), _, _, rfl, rfl, ?_⟩
      rw [xl]
      refine ⟨(show (0 : Int) < one.length by omega), ?_⟩
      dsimp only
      rw [show ((i : Int) + 1) % (one.length : Int) = ((nxt one.length i : Nat) : Int) from rfl]
      refine ⟨c, xs, _, _, rfl, rfl, .inl (.inl hc1), atI_nat xb, ?_⟩
      refine catV ha hb (by show 2 ≤ 1000; decide) fun t2 H2 h2 s2 => ?_
      refine ⟨t2, [one.getD i 0, one.getD (nxt one.length i) 0], rfl, .inl (.inl h2), fun ms p pm od np => ?_⟩
      have e : ms = sp2 one i := sorted_eqI (pm.trans (srt2_perm _ _).symm) od (srt2_sorted _ _)
      subst e
      have s3 : Same H2 (upd H2 p (.lst ((sp2 one i).map V.int))) := (Same.refl H2).new np
      have hp : upd H2 p (.lst ((sp2 one i).map V.int)) p = some (.lst ((sp2 one i).map V.int)) := upd_same
      generalize upd H2 p (.lst ((sp2 one i).map V.int)) = H3 at s3 hp ⊢
      refine ⟨p, _, rfl, .inl ⟨SqL.of hp, fun t nt => ?_⟩⟩
      have s4 : Same H3 (upd H3 t (.tup ((sp2 one i).map V.int))) := (Same.refl H3).new nt
      have ht : upd H3 t (.tup ((sp2 one i).map V.int)) t = some (.tup ((sp2 one i).map V.int)) := upd_same
      generalize upd H3 t (.tup ((sp2 one i).map V.int)) = H4 at s4 ht ⊢
      have s14 := (s2.trans s3).trans s4
      have rc4 := rc.same (s1.trans s14)
      obtain ⟨dx, tt, hr4, _, _⟩ := id rc4.ring
      have noS : (rf tt ls).lookup ("sort_of" : Str) = none := rf_no _ _ (by decide +kernel) (by decide +kernel) (by decide +kernel) (by decide +kernel)
      have lot := sp2_lot rd (by omega) (show i < ls.length by omega)
      have l2 : (sp2 one i).length = 2 := (srt2_perm _ _).length_eq
      refine ⟨_, rfl, r, dx, _, rfl, hr4, noS, _, rfl, r, t, ls, sp2 one i, rfl, rc4.ring.weak, l8, ht, lot, by omega, fun H5 s5 => ⟨rfl, _, rfl, ?_⟩⟩
      rw [dec_str]
      have s15 := s14.trans s5
      have pu5 := par_imp (fun _ _ z => CellV.same z s15) pu
      have ul : us.length ≤ i := by
        rw [par_len pu, List.length_map]
        refine Nat.le_trans (List.length_filter_le ..) ?_
        rw [List.length_range]
        exact Nat.le_refl _
      have h5 := s15 _ _ h1
      by_cases cc : sortV ls (sp2 one i) = "short"
      · rw [decide_eq_true cc]
        refine iteT ?_
        refine ⟨_, rfl, .inl ⟨rfl, _, SqL.of h5⟩, _, rfl, _, rfl, _, rfl, c, t, xs, i, rfl, s15 _ _ hc1, by omega, by omega, fun t6 H6 s6 ht6 => ⟨D, us, _, rfl, rfl, s6 _ _ h5, sm (by omega), ?_⟩⟩
        refine ⟨_, _, _, rfl, (s1.trans (s15.trans s6)).mut nD, upd_same, ?_⟩
        have ef : (List.range (i + 1)).filter (shB ls one) = (List.range i).filter (shB ls one) ++ [i] := by
          rw [List.range_succ, List.filter_append]
          have : shB ls one i = true := decide_eq_true cc
          simp [List.filter, this]
        rw [ef, List.map_append]
        have cv : CellV H6 (.ref t6) (cellW one i) := ⟨t6, _, rfl, ht6, par_wb ((tl1.same s15).same s6) ⟨t, rfl, s6 _ _ (s5 _ _ ht)⟩ i⟩
        exact par_app (par_imp (fun _ _ z => (CellV.same z s6).mut (s6 _ _ h5)) pu5) (.cons (cv.mut (s6 _ _ h5)) .nil)
      · rw [decide_eq_false cc]
        refine iteF ?_
        refine ⟨_, _, us, rfl, s1.trans s15, h5, ?_⟩
        have ef : (List.range (i + 1)).filter (shB ls one) = (List.range i).filter (shB ls one) := by
          rw [List.range_succ, List.filter_append]
          have : shB ls one i = false := decide_eq_false cc
          simp [List.filter, this]
        rw [ef]
        exact pu5
    · rintro σ H1 ⟨z3, z4, us, rfl, s1, h1, pu⟩
      rw [Int.toNat_natCast] at pu
      have pu' : Paired (CellV H1) us (rimL ls one) := pu
      refine ⟨_, rfl, D, us, rimL ls one, rfl, SqL.of h1, pu', fun cl hcl => ?_, fun p ys pm np => ?_⟩
      · obtain ⟨i, hi, rfl⟩ := List.mem_map.mp hcl
        have hil := List.mem_range.mp (List.mem_filter.mp hi).1
        intro z
        have e : (cellW one i).length = one.length - 1 := by
          unfold cellW
          rw [wbL_len (by rw [List.length_map]; exact hil) (by rw [List.length_map]; omega), List.length_map]
        rw [z] at e
        simp at e
        omega
      obtain ⟨cs, pc, py⟩ := cells_perm pm pu'
      have s2 : Same H1 (upd H1 p (.lst ys)) := (Same.refl H1).new np
      have hp : upd H1 p (.lst ys) p = some (.lst ys) := upd_same
      generalize upd H1 p (.lst ys) = H2 at s2 hp ⊢
      refine ⟨p, _, rfl, .inl ⟨SqL.of hp, fun t nt => ?_⟩⟩
      have s3 : Same H2 (upd H2 t (.tup ys)) := (Same.refl H2).new nt
      have ht : upd H2 t (.tup ys) t = some (.tup ys) := upd_same
      generalize upd H2 t (.tup ys) = H3 at s3 ht ⊢
      exact q t ys cs H3 ((s1.trans s2).trans s3) ht (par_imp (fun _ _ z => CellV.same z (s2.trans s3)) py) pc
def spRO (K : PySem.W.Frag) (C : Addr) : Sp := fun vs H Q _ => ∃ (r a : Addr) (ls one : List Int) (xs : List V), vs = [.ref r, .ref a] ∧ RC K C H r ls ∧ H a = some (.lst xs) ∧ LL H xs one ∧ Rnd ls.length one ∧
  ∀ p ys cs H', Same H H' → H' p = some (.tup ys) → Paired (CellV H') ys cs → cs.Perm (rimL ls one) → Q (.ref p) H'
theorem scRO : FnScope ["ring", "cell"] ["ring", "cell"] (defScope sRimOf) := ⟨rfl, rfl, rfl, by decide +kernel, rfl, by decide +kernel, by decide +kernel⟩
theorem ok_ro {C f fR fE fK fX : Addr} {fd fdR fdE fdK fdX : FuncData} (F : Fun K "rim_of" "rim_of" sRimOf f fd) (WR : DefAt P w K mg base CX0 6 "want_clear" ["ring"] (spClear K C) fR fdR) (WE : DefAt P w K mg base CX0 8 "want_cell" ["ring", "value"] (spWE K C) fE fdE)
    (RK : DefAt P w K mg base CX0 7 "rim_cells" ["ring", "cell"] (spRK K C) fK fdK) (FX : DefAt P w K mg base CX0 3 "fixed" ["value"] spFx2 fX fdX) : FnOk P w K mg base CX0 9 f fd ["ring", "cell"] (spRO K C) := by
  refine F.ok scRO (fun vs H Q E h => ?_) (fun cdv A outer s H vs Q E hr h => ?_)
  · obtain ⟨r, a, ls, one, xs, rfl, _⟩ := h
    rfl
  · refine ⟨_, (pss_cons (ps_expr (pe_call WR.ok (hr.mono (by decide)) rfl WR.g WR.kp WR.b .nil pass0 (pa_cons (pv 0) pa_nil)))
      (pss_cons (ps_expr (pe_call WE.ok (hr.mono (by decide)) rfl WE.g WE.kp WE.b .nil pass0 (pa_cons (pv 0) (pa_cons (pv 1) pa_nil))))
      (pss_one (ps_ret (pe_call RK.ok (hr.mono (by decide)) rfl RK.g RK.kp RK.b .nil pass0 (pa_cons (pv 0) (pa_cons (pe_call FX.ok (hr.mono (by decide)) rfl FX.g FX.kp FX.b .nil pass0 (pa_cons (pv 1) pa_nil)) pa_nil))))))), ?_⟩
    obtain ⟨r, a, ls, one, xs, rfl, rc, ha, ll, rd, q⟩ := h
    have l8 := rc.l8
    have ln := rd.len
    refine ⟨_, rfl, r, ls, rfl, rc, _, rfl, _, rfl, r, a, ls, one, xs, rfl, rc, ha, ll, rd, fun H1 s1 => ?_⟩
    refine ⟨_, rfl, _, rfl, a, xs, one, rfl, s1 _ _ ha, ll.same s1, by omega, fun t ys H2 s2 ht tl => ?_⟩
    exact ⟨r, t, ls, one, ys, rfl, rc.same (s1.trans s2), ht, tl, rd, fun p zs cs H' s3 => q p zs cs H' ((s1.trans s2).trans s3)⟩
end
end K
namespace K
open PySem L2 Rg
open Evl (pss_cut)
section
variable {P : Program} {w : World} {K : PySem.W.Frag} {mg : Str → Option Value} {base : Heap}
/-! ### the law: no level -/
def spLC (K : PySem.W.Frag) : Sp := fun vs H Q _ => ∃ (t : Addr) (ls : List Int), vs = [.ref t] ∧ SqL K H t (ls.map V.int) ∧ ls.length ≤ 8 ∧ ∀ H', Same H H' → Q (.bl (!levelB ls)) H'
abbrev nLC : List Str := ["_law_lengths_here", "_law_sums", "_law_length", "_law_one"]
theorem scLC : FnScope nLC ["_law_lengths_here"] (defScope sLwIsClear) := ⟨rfl, rfl, rfl, by decide +kernel, rfl, by decide +kernel, by decide +kernel⟩
theorem filter_emp (l : List Int) (f : Int → Bool) : (l.filter f).isEmpty = !l.any f := by
  induction l with
  | nil => rfl
  | cons x l ih =>
    cases e : f x with
    | true => simp [List.filter, e]
    | false => rw [List.any_cons, e, Bool.false_or, ← ih]; simp [List.filter, e]
theorem ok_lc {f : Addr} {fd : FuncData} (F : Fun K "_law_is_clear" "_law_is_clear" sLwIsClear f fd) (T : Bi mg) : FnOk P w K mg base CX0 2 f fd ["_law_lengths_here"] (spLC K) := by
  refine F.ok scLC (fun vs H Q E h => ?_) (fun cdv A outer s H vs Q E hr h => ?_)
  · obtain ⟨a, ls, rfl, _⟩ := h
    rfl
  · have nd := scLC.nd
    refine ⟨_, (pss_cons (ps_set (i := 1) nd rfl (Or.inl rfl) (pe_lst (pa_cons pe_int pa_nil)))
      (pss_cons (ps_for PassesOwn.never rfl (pi_list (pv 0)) (pg_name (i := 2) nd rfl (Or.inr rfl)) (pss_one (ps_set (i := 1) nd rfl (Or.inl rfl) (pe_op op_cat (pv 1) (pe_lc (own := [("_law_one", 3)]) (g := (gName 3)) (tt := tYes)  rfl nd (pi_list (pv 1))
          (blkOk_by (N := nLC) (sc := defScope sLwIsClear) (by decide +kernel)) (fun _ _ _ _ _ => (pg_name (i := 3) nd rfl (Or.inl rfl))) (fun _ _ _ _ _ => pts_nil) (fun _ _ _ _ _ => (pe_op op_add (pv 3) (pv 2))))))))
      (pss_one (ps_ret (pe_cmpR (op_eqD hr.units) (pe_lc (own := [("_law_one", 3)]) (g := (gName 3))  rfl nd (pi_list (pv 1))
          (blkOk_by (N := nLC) (sc := defScope sLwIsClear) (by decide +kernel)) (fun _ _ _ _ _ => (pg_name (i := 3) nd rfl (Or.inl rfl))) (fun _ _ _ _ _ => (pts_one (pt_cmpR op_eq (pe_op op_mul pe_int (pv 3)) (pe_callB (r := rSum K) (cr_sum (by rfl)) (by rfl) T.sum (by decide +kernel) (pa_cons (pv 0) pa_nil)) (nomark _)))) (fun _ _ _ _ _ => (pv 3))) (pe_lst pa_nil) (nomark _)))))), ?_⟩
    obtain ⟨t, ls, rfl, hs, hl, q⟩ := h
    refine ⟨(by show 1 ≤ sizeLine; decide), fun l0 hl0 => ?_⟩
    have s0 : Same H (upd H l0 (.lst [.int 0])) := (Same.refl H).new hl0
    have pw : ∀ i, i ≤ ls.length → (sumsOf (ls.take i)).length ≤ 256 := fun i hi => by
      rw [sums_len ls i hi]
      exact Nat.pow_le_pow_right (by decide) (show i ≤ 8 by omega)
    refine ⟨_, rfl, t, rfl, ⟨_, s0.seq hs⟩, for_list (K := K) (a := t) (xs := ls.map V.int) (fun i σ H' => ∃ (l : Addr) (z : Option V), σ = [some (.ref t), some (.ref l), z, none] ∧ Same H H' ∧ H' l = some (.lst ((sumsOf (ls.take i)).map V.int)))
      ⟨l0, none, rfl, s0, upd_same⟩ (fun i σ H' _ ⟨_, _, _, s, _⟩ => s.seq hs) ?_ ?_⟩
    · rintro i x σ H' hi ⟨l, z, rfl, s1, h1⟩
      obtain ⟨z, hz, rfl⟩ := int_at hi
      have hil : i < ls.length := (List.getElem?_eq_some_iff.mp hz).1
      have p1 := pw i (by omega)
      refine ⟨_, rfl, _, rfl, l, rfl, ⟨_, SqL.of h1⟩, fun D hD => ?_⟩
      refine lc_list (K := K) (a := l) (xs := (sumsOf (ls.take i)).map V.int) (fun j H2 => Same H' H2 ∧ H2 D = some (.lst ((((sumsOf (ls.take i)).take j).map (· + z)).map V.int))) ⟨(Same.refl H').new hD, upd_same⟩ (fun j H2 _ p => p.1.seq (SqL.of h1)) ?_ ?_
      · rintro j y H2 hj ⟨s2, h2⟩
        obtain ⟨o, ho, rfl⟩ := int_at hj
        refine ⟨rfl, _, rfl, _, rfl, _, _, rfl, rfl, _, h2, (by rw [List.length_map, List.length_map, List.length_take]; exact sm (by omega)), s2.mut hD, ?_⟩
        rw [upd_same, ← take_snoc ho, List.map_append, List.map_append]
        rfl
      · rintro H2 ⟨s2, h2⟩
        rw [List.length_map, List.take_length] at h2
        refine ⟨l, D, _, _, rfl, rfl, s2 _ _ h1, h2, (by rw [List.length_map, List.length_map, List.length_map]; exact Nat.le_of_lt (sm (by omega))), fun p hp => ⟨p, _, rfl, (s1.trans s2).new hp, ?_⟩⟩
        rw [upd_same, sums_take hz, List.map_append]
    · rintro σ H' ⟨l, z, rfl, s1, h1⟩
      rw [List.length_map, List.take_length] at h1
      have p1 := pw ls.length (Nat.le_refl _)
      rw [List.take_length] at p1
      refine ⟨_, rfl, l, rfl, ⟨_, SqL.of h1⟩, fun D hD => ?_⟩
      refine lc_list (K := K) (a := l) (xs := (sumsOf ls).map V.int) (fun j H2 => Same H' H2 ∧ H2 D = some (.lst ((((sumsOf ls).take j).filter fun o => decide (2 * o = ls.sum)).map V.int))) ⟨(Same.refl H').new hD, upd_same⟩ (fun j H2 _ p => p.1.seq (SqL.of h1)) ?_ ?_
      · rintro j y H2 hj ⟨s2, h2⟩
        obtain ⟨o, ho, rfl⟩ := int_at hj
        have fl := List.length_filter_le (fun o => decide (2 * o = ls.sum)) ((sumsOf ls).take j)
        rw [List.length_take] at fl
        refine ⟨rfl, _, rfl, _, _, rfl, rfl, .inl ⟨by decide, by decide⟩, _, rfl, t, ls, rfl, (s1.trans s2).seq hs, rfl, _, rfl, ?_⟩
        rw [dec_int, ← take_snoc ho, List.filter_append]
        by_cases c : 2 * o = ls.sum
        · rw [decide_eq_true c]
          refine iteT ⟨_, rfl, _, h2, (by rw [List.length_map]; exact sm (by omega)), s2.mut hD, ?_⟩
          rw [upd_same, List.map_append]
          simp [List.filter, c]
        · rw [decide_eq_false c]
          refine iteF ⟨s2, ?_⟩
          rw [h2]
          simp [List.filter, c]
      · rintro H2 ⟨s2, h2⟩
        rw [List.length_map, List.take_length] at h2
        refine ⟨(by decide), fun e ne => ?_⟩
        have s3 : Same H2 (upd H2 e (.lst [])) := (Same.refl H2).new ne
        refine ⟨_, _, .lst (SqL.of (s3 _ _ h2)) (dp_ints _), .lst (SqL.of upd_same) .nil, shaped_ints _, rfl, ?_⟩
        rw [eqv_nil, filter_emp]
        exact q _ ((s1.trans s2).trans s3)
/-! ### the law: short, an exchange -/
def spLS (K : PySem.W.Frag) : Sp := fun vs H Q _ => ∃ (t a : Addr) (ls ns : List Int), vs = [.ref t, .ref a] ∧ SqL K H t (ls.map V.int) ∧ H a = some (.tup (ns.map V.int)) ∧ Lot ls.length ns ∧ ns.length ≤ 8 ∧ ∀ H', Same H H' → Q (.bl (decide (2 * lsum ls ns < ls.sum))) H'
abbrev nLS : List Str := ["_law_lengths_here", "_law_lot", "_law_bar"]
theorem scLS : FnScope nLS ["_law_lengths_here", "_law_lot"] (defScope sLwIsShort) := ⟨rfl, rfl, rfl, by decide +kernel, rfl, by decide +kernel, by decide +kernel⟩
theorem ok_ls {f : Addr} {fd : FuncData} (F : Fun K "_law_is_short" "_law_is_short" sLwIsShort f fd) (T : Bi mg) : FnOk P w K mg base CX0 2 f fd ["_law_lengths_here", "_law_lot"] (spLS K) := by
  refine F.ok scLS (fun vs H Q E h => ?_) (fun cdv A outer s H vs Q E hr h => ?_)
  · obtain ⟨t, a, ls, ns, rfl, _⟩ := h
    rfl
  · have nd := scLS.nd
    refine ⟨_, (pss_one (ps_ret (pe_cmpR op_lt (pe_op op_mul pe_int (pe_callB (cr_sum rfl) (by rfl) T.sum (by decide +kernel) (pa_cons (pe_lc (own := [("_law_bar", 2)]) (g := (gName 2)) (tt := tYes)  rfl nd (pi_tup (pv 1))
          (blkOk_by (N := nLS) (sc := defScope sLwIsShort) (by decide +kernel)) (fun _ _ _ _ _ => (pg_name (i := 2) nd rfl (Or.inl rfl))) (fun _ _ _ _ _ => pts_nil) (fun _ _ _ _ _ => (pe_ix (r := rIxL K) ix_list (pv 0) (pv 2) (fun _ _ => rfl)))) pa_nil))) (pe_callB (cr_sum rfl) (by rfl) T.sum (by decide +kernel) (pa_cons (pv 0) pa_nil)) (nomark _)))), ?_⟩
    obtain ⟨t, a, ls, ns, rfl, hs, ha, lot, n8, q⟩ := h
    refine ⟨_, rfl, a, rfl, ⟨_, .inl (.inl ha)⟩, fun D nD => ?_⟩
    refine lc_tup (K := K) (a := a) (xs := ns.map V.int) (fun i H' => Same H H' ∧ H' D = some (.lst (((ns.take i).map fun b => ls.getD b.toNat 0).map V.int))) ⟨(Same.refl H).new nD, upd_same⟩ (fun i H' _ z => .inl (.inl (z.1 _ _ ha))) ?_ ?_
    · rintro i x H' hi ⟨s1, h1⟩
      obtain ⟨z, hz, rfl⟩ := int_at hi
      have hil : i < ns.length := (List.getElem?_eq_some_iff.mp hz).1
      have b := lot.2 z (List.mem_of_getElem? hz)
      refine ⟨rfl, _, rfl, _, rfl, t, _, z, _, rfl, rfl, s1.seq hs, get_len b.1 b.2, _, h1, (by rw [List.length_map, List.length_map, List.length_take]; exact sm (by omega)), s1.mut nD, ?_⟩
      rw [upd_same, ← take_snoc hz, List.map_append, List.map_append]
      rfl
    rintro H1 ⟨s1, h1⟩
    rw [List.length_map, List.take_length] at h1
    refine ⟨D, _, rfl, SqL.of h1, _, _, rfl, rfl, .inl ⟨by decide, by decide⟩, _, rfl, t, ls, rfl, s1.seq hs, _, _, rfl, rfl, ?_⟩
    exact q H1 s1
theorem short_long {ls ns : List Int} (nl : levelB ls = false) (h : Lot ls.length ns) : decide (2 * lsum ls ns < ls.sum) = !decide (sortV ls ns = "long") := by
  rcases sort_cases ls ns with ⟨e, _⟩ | ⟨c, e⟩ | ⟨c, e⟩
  · rw [level_of h e] at nl; cases nl
  · rw [decide_eq_true c, e, decide_eq_false ne_sl]; rfl
  · rw [decide_eq_false (by omega), e, decide_eq_true rfl]; rfl
def spLX (K : PySem.W.Frag) : Sp := fun vs H Q _ => ∃ (t a : Addr) (ls one : List Int) (i : Nat), vs = [.ref t, .ref a, .int (i : Nat)] ∧ SqL K H t (ls.map V.int) ∧ 3 ≤ ls.length ∧ ls.length ≤ 8 ∧ levelB ls = false ∧ SqT K H a (one.map V.int) ∧ Rnd ls.length one ∧ i < ls.length ∧
  ∀ v H', Same H H' → OptV H' v (exch ls one i) → Q v H'
abbrev nLX : List Str := ["_law_lengths_here", "_law_one", "_law_at", "_law_then", "_law_found", "_law_begin"]
theorem scLX : FnScope nLX ["_law_lengths_here", "_law_one", "_law_at"] (defScope sLwExchanged) := ⟨rfl, rfl, rfl, by decide +kernel, rfl, by decide +kernel, by decide +kernel⟩
theorem ok_lx {f fS : Addr} {fd fdS : FuncData} (F : Fun K "_law_exchanged" "_law_exchanged" sLwExchanged f fd) (T : Bi mg) (LS : DefAt P w K mg base CX0 2 "_law_is_short" ["_law_lengths_here", "_law_lot"] (spLS K) fS fdS) : FnOk P w K mg base CX0 3 f fd ["_law_lengths_here", "_law_one", "_law_at"] (spLX K) := by
  refine F.ok scLX (fun vs H Q E h => ?_) (fun cdv A outer s H vs Q E hr h => ?_)
  · obtain ⟨t, a, ls, one, i, rfl, _⟩ := h
    rfl
  · have nd := scLX.nd
    refine ⟨_, (pss_cons (ps_set (i := 3) nd rfl (Or.inl rfl) (pe_op op_mod (pe_callTy call_int1 (by rfl) T.int (by decide +kernel) (pa_cons (pe_op op_add (pv 2) pe_int) pa_nil)) (pe_callB (r := rLenS K) call_len_seq (by rfl) T.len PySem.boot_len (pa_cons (pv 1) pa_nil))))
      (pss_cons (ps_if (pt_not (pt_val (pe_call LS.ok (hr.mono (by decide)) rfl LS.g LS.kp LS.b .nil pass0 (pa_cons (pv 0) (pa_cons (pe_tup (pa_cons (pe_ix (r := rIxT K) ix_tup (pv 1) (pv 2) (fun _ _ => rfl)) (pa_cons (pe_ix (r := rIxT K) ix_tup (pv 1) (pv 3) (fun _ _ => rfl)) pa_nil))) pa_nil))))) (pss_one (ps_ret pe_non)) pss_nil)
      (pss_cons (ps_set (i := 4) nd rfl (Or.inl rfl) (pe_callTy call_list_of (by rfl) T.list (by decide +kernel) (pa_cons (pv 1) pa_nil)))
      (pss_cons (ps_asg (pe_tup (pa_cons (pe_ix (r := rIxT K) ix_tup (pv 1) (pv 3) (fun _ _ => rfl)) (pa_cons (pe_ix (r := rIxT K) ix_tup (pv 1) (pv 2) (fun _ _ => rfl)) pa_nil))) (pg_tup (by rfl) (pgs_cons (pg_sub (pv 4) (pv 2) set_list) (pgs_cons (pg_sub (pv 4) (pv 3) set_list) pgs_nil))))
      (pss_cons (ps_set (i := 5) nd rfl (Or.inl rfl) (pe_bm PySem.F.plainAttrs_list PySem.F.slot_list_index PySem.F.type_list_index mt_index (pv 4) (pa_cons pe_int pa_nil)))
      (pss_one (ps_ret (pe_callTy call_tuple_of (by rfl) T.tuple (by decide +kernel) (pa_cons (pe_op op_cat (pe_slice sl_list (pv 4) (po_some (pv 5)) po_none) (pe_slice sl_list (pv 4) po_none (po_some (pv 5)))) pa_nil))))))))), ?_⟩
    obtain ⟨t, a, ls, one, i, rfl, ht, l3, l8, nl, hs, rd, hi, q⟩ := h
    have ln := rd.len
    have hj : nxt one.length i < one.length := nxt_lt (by omega)
    refine ⟨_, rfl, _, _, rfl, rfl, .inl ⟨_, rfl, _, rfl, a, _, rfl, .inr hs, _, _, rfl, rfl, ?_⟩⟩
    rw [List.length_map]
    refine ⟨(show (0 : Int) < one.length by omega), ?_⟩
    dsimp only
    rw [show ((i : Int) + 1) % (one.length : Int) = ((nxt one.length i : Nat) : Int) from rfl]
    refine ⟨_, rfl, _, rfl, _, rfl, a, _, _, _, rfl, rfl, hs, getL (i := i) rfl (by omega), _, rfl, _, rfl, a, _, _, _, rfl, rfl, hs, getL (i := nxt one.length i) rfl hj, (by show 2 ≤ sizeLine; decide), fun p np => ?_⟩
    have s1 : Same H (upd H p (.tup [.int (one.getD i 0), .int (one.getD (nxt one.length i) 0)])) := (Same.refl H).new np
    have hp : upd H p (.tup [.int (one.getD i 0), .int (one.getD (nxt one.length i) 0)]) p = some (.tup [.int (one.getD i 0), .int (one.getD (nxt one.length i) 0)]) := upd_same
    generalize upd H p (.tup [.int (one.getD i 0), .int (one.getD (nxt one.length i) 0)]) = H1 at s1 hp ⊢
    have lot := pr_lot rd (by omega) hi
    refine ⟨t, p, ls, pr one i, rfl, s1.seq ht, hp, lot, (by show 2 ≤ 8; decide), fun H2 s2 => ⟨_, rfl, ?_⟩⟩
    have s02 := s1.trans s2
    have qq := fun v H' s e => q v H' s e
    unfold exch at qq
    rw [short_long nl lot]
    by_cases c : sortV ls (pr one i) = "long"
    · rw [decide_eq_true c]
      rw [if_pos c] at qq
      exact iteT (qq _ _ s02 (.inl ⟨rfl, rfl⟩))
    rw [decide_eq_false c]
    rw [if_neg c] at qq
    refine iteF ?_
    refine ⟨_, rfl, a, _, rfl, .inr (s02.tup hs), fun l nl => ?_⟩
    have nl0 := s02.free nl
    have s3 : Same H2 (upd H2 l (.lst (one.map V.int))) := (Same.refl H2).new nl
    have hl : upd H2 l (.lst (one.map V.int)) l = some (.lst (one.map V.int)) := upd_same
    generalize upd H2 l (.lst (one.map V.int)) = H3 at s3 hl ⊢
    refine ⟨_, rfl, _, rfl, a, _, _, _, rfl, rfl, (s02.trans s3).tup hs, getL (i := nxt one.length i) rfl hj, _, rfl, _, rfl, a, _, _, _, rfl, rfl, (s02.trans s3).tup hs, getL (i := i) rfl (by omega), (by show 2 ≤ sizeLine; decide), fun p2 np2 => ?_⟩
    have s4 : Same H3 (upd H3 p2 (.tup [.int (one.getD (nxt one.length i) 0), .int (one.getD i 0)])) := (Same.refl H3).new np2
    have hp2 : upd H3 p2 (.tup [.int (one.getD (nxt one.length i) 0), .int (one.getD i 0)]) p2 = some (.tup [.int (one.getD (nxt one.length i) 0), .int (one.getD i 0)]) := upd_same
    generalize upd H3 p2 (.tup [.int (one.getD (nxt one.length i) 0), .int (one.getD i 0)]) = H4 at s4 hp2 ⊢
    have hl4 := s4 _ _ hl
    have s34 : Same H2 H4 := s3.trans s4
    refine ⟨p2, _, rfl, .inl (.inl hp2), rfl, _, _, rfl, ?_⟩
    refine ⟨_, rfl, _, rfl, l, _, _, i, rfl, rfl, hl4, ixN_at (by omega) (by rw [List.length_map]; omega), ?_⟩
    rw [set_map]
    have hj' : nxt one.length i < (one.set i (one.getD (nxt one.length i) 0)).length := by rw [List.length_set]; exact hj
    have b1 : Same H2 (upd H4 l (.lst ((one.set i (one.getD (nxt one.length i) 0)).map V.int))) := s34.mut nl
    have h1 : upd H4 l (.lst ((one.set i (one.getD (nxt one.length i) 0)).map V.int)) l = some (.lst ((one.set i (one.getD (nxt one.length i) 0)).map V.int)) := upd_same
    generalize upd H4 l (.lst ((one.set i (one.getD (nxt one.length i) 0)).map V.int)) = H4 at b1 h1 ⊢
    refine ⟨_, _, rfl, ?_⟩
    refine ⟨_, rfl, _, rfl, l, _, _, nxt one.length i, rfl, rfl, h1, ixN_at (by omega) (by rw [List.length_map]; omega), ?_⟩
    rw [set_map, show (one.set i (one.getD (nxt one.length i) 0)).set (nxt one.length i) (one.getD i 0) = swp one i (nxt one.length i) from rfl]
    have b2 : Same H2 (upd H4 l (.lst ((swp one i (nxt one.length i)).map V.int))) := b1.mut nl
    have h2 : upd H4 l (.lst ((swp one i (nxt one.length i)).map V.int)) l = some (.lst ((swp one i (nxt one.length i)).map V.int)) := upd_same
    generalize upd H4 l (.lst ((swp one i (nxt one.length i)).map V.int)) = H5 at b2 h2 ⊢
    refine ⟨rfl, ?_⟩
    have sl := swp_len one i (nxt one.length i)
    have z0 : (0 : Int) ∈ swp one i (nxt one.length i) := zero_in ((swp_perm (by omega) hj (nxt_ne (by omega) (by omega)).symm).trans rd.pm) (by omega)
    unfold rot0 at qq
    generalize swp one i (nxt one.length i) = sw at b2 h2 sl z0 qq ⊢
    obtain ⟨i1, i2, _⟩ := idx_at z0
    refine ⟨_, rfl, .inl ⟨rfl, _, SqL.of h2⟩, l, sw.map V.int, .int 0, sw.idxOf 0, .int 0, rfl, rfl, SqL.of h2, rfl, flat_ints _, by rw [List.getElem?_map, i2]; rfl, by simp [eqV], fun m z' hm hz' => ?_, ?_⟩
    · obtain ⟨y, hy, rfl⟩ := int_at hz'
      have ne : y ≠ 0 := fun z => idx_not hm (by rw [hy, z])
      simp [eqV, ne]
    generalize sw.idxOf 0 = k at i1 i2 qq ⊢
    refine ⟨_, rfl, _, rfl, _, rfl, l, _, rfl, SqL.of h2, fun p1 np1 => ?_⟩
    dsimp only [tNoPart]
    rw [cut_from _ rfl, ← List.map_drop]
    have s5 : Same H5 (upd H5 p1 (.lst ((sw.drop k).map V.int))) := (Same.refl H5).new np1
    have hp1 : upd H5 p1 (.lst ((sw.drop k).map V.int)) p1 = some (.lst ((sw.drop k).map V.int)) := upd_same
    generalize upd H5 p1 (.lst ((sw.drop k).map V.int)) = H6 at s5 hp1 ⊢
    refine ⟨_, rfl, _, rfl, _, rfl, l, _, rfl, SqL.of (s5 _ _ h2), fun p2 np2 => ?_⟩
    rw [cutV_to, ← List.map_take]
    have s6 : Same H6 (upd H6 p2 (.lst ((sw.take k).map V.int))) := (Same.refl H6).new np2
    have hp2 : upd H6 p2 (.lst ((sw.take k).map V.int)) p2 = some (.lst ((sw.take k).map V.int)) := upd_same
    generalize upd H6 p2 (.lst ((sw.take k).map V.int)) = H7 at s6 hp2 ⊢
    refine ⟨p1, p2, _, _, rfl, rfl, s6 _ _ hp1, hp2, ?_, fun p3 np3 => ?_⟩
    · rw [List.length_map, List.length_map, List.length_drop, List.length_take]
      exact Nat.le_of_lt (sm (by omega))
    rw [← List.map_append]
    have s7 : Same H7 (upd H7 p3 (.lst ((sw.drop k ++ sw.take k).map V.int))) := (Same.refl H7).new np3
    have hp3 : upd H7 p3 (.lst ((sw.drop k ++ sw.take k).map V.int)) p3 = some (.lst ((sw.drop k ++ sw.take k).map V.int)) := upd_same
    generalize upd H7 p3 (.lst ((sw.drop k ++ sw.take k).map V.int)) = H8 at s7 hp3 ⊢
    refine ⟨p3, _, rfl, .inl ⟨SqL.of hp3, fun p4 np4 => ?_⟩⟩
    have s8 : Same H8 (upd H8 p4 (.tup ((sw.drop k ++ sw.take k).map V.int))) := (Same.refl H8).new np4
    have hp4 : upd H8 p4 (.tup ((sw.drop k ++ sw.take k).map V.int)) p4 = some (.tup ((sw.drop k ++ sw.take k).map V.int)) := upd_same
    generalize upd H8 p4 (.tup ((sw.drop k ++ sw.take k).map V.int)) = H9 at s8 hp4 ⊢
    exact qq _ _ (((((s02.trans b2).trans s5).trans s6).trans s7).trans s8) (.inr ⟨_, p4, rfl, rfl, hp4⟩)
def spLE (K : PySem.W.Frag) : Sp := fun vs H Q _ => ∃ (t a : Addr) (ls one : List Int), vs = [.ref t, .ref a] ∧ SqL K H t (ls.map V.int) ∧ 3 ≤ ls.length ∧ ls.length ≤ 8 ∧ levelB ls = false ∧ SqT K H a (one.map V.int) ∧ Rnd ls.length one ∧
  ∀ p xs nss H', Same H H' → H' p = some (.lst xs) → TL H' xs nss → SrtOf nss (nearL ls one) → Q (.ref p) H'
abbrev nLE : List Str := ["_law_lengths_here", "_law_one", "_law_found", "_law_at", "_law_other"]
theorem scLE : FnScope nLE ["_law_lengths_here", "_law_one"] (defScope sLwNear) := ⟨rfl, rfl, rfl, by decide +kernel, rfl, by decide +kernel, by decide +kernel⟩
theorem ok_le {f fX : Addr} {fd fdX : FuncData} (F : Fun K "_law_near" "_law_near" sLwNear f fd) (T : Bi mg) (LX : DefAt P w K mg base CX0 3 "_law_exchanged" ["_law_lengths_here", "_law_one", "_law_at"] (spLX K) fX fdX) : FnOk P w K mg base CX0 4 f fd ["_law_lengths_here", "_law_one"] (spLE K) := by
  refine F.ok scLE (fun vs H Q E h => ?_) (fun cdv A outer s H vs Q E hr h => ?_)
  · obtain ⟨t, a, ls, one, rfl, _⟩ := h
    rfl
  · have nd := scLE.nd
    refine ⟨_, (pss_cons (ps_setLc (i := 2) (own := [("_law_at", 3)]) (g := (gName 3)) (tt := tYes)  rfl nd rfl rfl (sw_true rfl rfl rfl (by decide +kernel)) (pi_range1 (by rfl) T.range (pa_cons (pe_callB (r := rLenS K) call_len_seq (by rfl) T.len PySem.boot_len (pa_cons (pv 1) pa_nil)) pa_nil))
          (blkOk_by (N := nLE) (sc := defScope sLwNear) (by decide +kernel)) (fun _ _ _ _ _ => (pg_name (i := 3) nd rfl (Or.inl rfl))) (fun _ _ _ _ _ => pts_nil) (fun _ _ _ _ _ => (pe_call LX.ok (hr.mono (by decide)) rfl LX.g LX.kp LX.b .nil pass0 (pa_cons (pv 0) (pa_cons (pv 1) (pa_cons (pv 3) pa_nil))))))
      (pss_one (ps_ret (pe_callB (cr_sortedL hr.units) (by rfl) T.sorted (by decide +kernel) (pa_cons (pe_lc (own := [("_law_other", 4)]) (g := (gName 4))  rfl nd (pi_list (pv 2))
          (blkOk_by (N := nLE) (sc := defScope sLwNear) (by decide +kernel)) (fun _ _ _ _ _ => (pg_name (i := 4) nd rfl (Or.inl rfl))) (fun _ _ _ _ _ => (pts_one (pt_cmpR op_notN (pv 4) pe_non (nomark _)))) (fun _ _ _ _ _ => (pv 4))) pa_nil))))), ?_⟩
    obtain ⟨t, a, ls, one, rfl, ht, l3, l8, nl, hs, rd, q⟩ := h
    have ln := rd.len
    refine ⟨_, rfl, a, _, rfl, .inr hs, _, rfl, by omega, by rw [List.length_map]; omega, fun D nD => ?_⟩
    rw [List.length_map]
    refine lc_range (lo := 0) (n := ((one.length : Nat) : Int).toNat) (fun i H' => Same H H' ∧ ∃ ys, H' D = some (.lst ys) ∧ Paired (OptV H') ys ((List.range i).map (exch ls one))) ⟨(Same.refl H).new nD, [], upd_same, .nil⟩ ?_ ?_
    · rintro i H' hi ⟨s1, ys, h1, py⟩
      rw [Int.toNat_natCast] at hi
      rw [Int.zero_add]
      refine ⟨rfl, _, rfl, _, rfl, _, rfl, t, a, ls, one, i, rfl, s1.seq ht, l3, l8, nl, s1.tup hs, rd, by omega, fun v H2 s2 ov => ⟨ys, s2 _ _ h1, ?_, (s1.trans s2).mut nD, _, upd_same, ?_⟩⟩
      · rw [par_len py, List.length_map, List.length_range]
        exact sm (by omega)
      · rw [range_snoc', List.map_append]
        exact par_app (par_imp (fun _ _ z => (z.same s2).mut (s2 _ _ h1)) py) (.cons (ov.mut (s2 _ _ h1)) .nil)
    rintro H1 ⟨s1, ys, h1, py⟩
    rw [Int.toNat_natCast] at py
    have yl : ys.length = one.length := by rw [par_len py, List.length_map, List.length_range]
    refine ⟨_, rfl, D, rfl, ⟨_, SqL.of h1⟩, fun D2 nD2 => ?_⟩
    refine lc_list (K := K) (a := D) (xs := ys) (fun i H' => Same H1 H' ∧ H' D2 = some (.lst ((ys.take i).filter fun v => !isNon v))) ⟨(Same.refl H1).new nD2, upd_same⟩ (fun i H' _ z => SqL.of (z.1 _ _ h1)) ?_ ?_
    · rintro i v H' hv ⟨s2, h2⟩
      have hil : i < ys.length := (List.getElem?_eq_some_iff.mp hv).1
      have fl : ((ys.take i).filter fun v => !isNon v).length < sizeLine := by
        have := List.length_filter_le (fun v => !isNon v) (ys.take i)
        rw [List.length_take] at this
        exact sm (by omega)
      obtain ⟨o, _, ov⟩ := par_get py hv
      rw [← take_snoc hv, List.filter_append]
      rcases ov with ⟨_, rfl⟩ | ⟨l, t, _, rfl, _⟩
      · refine ⟨rfl, _, rfl, rfl, _, rfl, iteF ⟨s2, ?_⟩⟩
        rw [h2]
        simp [List.filter, isNon]
      · refine ⟨rfl, _, rfl, rfl, _, rfl, iteT ⟨_, rfl, _, h2, fl, s2.mut nD2, ?_⟩⟩
        rw [upd_same]
        simp [List.filter, isNon]
    rintro H2 ⟨s2, h2⟩
    rw [List.take_length] at h2
    have tl := opt_keep (par_imp (fun _ _ z => OptV.same z s2) py)
    rw [near_eq] at tl
    have nls : ∀ m ∈ nearL ls one, m ≠ [] := fun m hm => rnd_ne (near_rnd rd (by omega) hm) (by omega)
    refine ⟨D2, _, cont H2, rfl, SqL.of h2, fun x hx => ?_, fun x hx => ?_, fun p zs pm od np => ?_⟩
    · obtain ⟨ns, _, b, rfl, hb⟩ := par_mem tl hx
      exact ⟨b, rfl, by rw [cont_at hb]; exact hb⟩
    · obtain ⟨ns, hns, b, rfl, hb⟩ := par_mem tl hx
      rw [cont_at hb]
      exact nls ns hns
    obtain ⟨t1, t2⟩ := tl_perm tl pm
    have s3 : Same H2 (upd H2 p (.lst zs)) := (Same.refl H2).new np
    have hp : upd H2 p (.lst zs) p = some (.lst zs) := upd_same
    generalize upd H2 p (.lst zs) = H3 at s3 hp t1 t2 ⊢
    exact q p zs _ H3 ((s1.trans s2).trans s3) hp (t1.same s3) ⟨t2, List.pairwise_map.mpr od⟩
end
end K
namespace K
open PySem L2 Rg
open Evl (pss_cut)
/-! ### lengths that close and have no level -/
theorem set_perm (ls : List Int) {i : Nat} (h : i < ls.length) (x : Int) : (ls.set i x).Perm (x :: ls.eraseIdx i) := by
  rw [List.set_eq_take_append_cons_drop, if_pos h, List.eraseIdx_eq_take_drop_succ]
  exact List.perm_middle
theorem self_perm (ls : List Int) {i : Nat} (h : i < ls.length) : ls.Perm (ls.getD i 0 :: ls.eraseIdx i) := by
  have e : ls.set i (ls.getD i 0) = ls := by
    rw [List.getD_eq_getElem?_getD, List.getElem?_eq_getElem h]
    exact List.set_getElem_self h
  have := set_perm ls h (ls.getD i 0)
  rw [e] at this
  exact this
theorem mem_sum : ∀ {e : List Int} {y : Int}, (∀ x ∈ e, 1 ≤ x) → y ∈ e → y + (e.length : Int) ≤ e.sum + 1
  | x :: e, y, h, hy => by
    have hx := h x (List.mem_cons_self ..)
    have he : ∀ z ∈ e, 1 ≤ z := fun z hz => h z (List.mem_cons_of_mem _ hz)
    rw [List.sum_cons, List.length_cons]
    rcases List.mem_cons.mp hy with z | z
    · have b : (e.length : Int) ≤ e.sum := by
        have : ∀ l : List Int, (∀ z ∈ l, 1 ≤ z) → (l.length : Int) ≤ l.sum := by
          intro l
          induction l with
          | nil => intro _; simp
          | cons a l ih =>
            intro k
            have := ih fun z hz => k z (List.mem_cons_of_mem _ hz)
            have := k a (List.mem_cons_self ..)
            rw [List.sum_cons, List.length_cons]
            push_cast
            omega
        exact this e he
      push_cast
      omega
    · have := mem_sum he z
      push_cast
      omega
/-- twice each is below the sum -/
def SC (ls : List Int) : Prop := ∀ y ∈ ls, 2 * y < ls.sum
theorem SC.perm {a b : List Int} (h : SC a) (p : b.Perm a) : SC b := fun y hy => by rw [perm_sum p]; exact h y (p.mem_iff.mp hy)
theorem SC.closes {ls : List Int} (h : SC ls) : closesB ls = true := List.all_eq_true.mpr fun y hy => decide_eq_true (Int.le_of_lt (h y hy))
theorem level_even {ls : List Int} (h : levelB ls = true) : ls.sum % 2 = 0 := by
  obtain ⟨o, _, e⟩ := List.any_eq_true.mp h
  have := of_decide_eq_true e
  omega
theorem cap_sc {ls : List Int} {M : Int} {i : Nat} {m : Int} (l3 : 3 ≤ ls.length) (bd : Bd m ls) (hi : i < ls.length) (hM : ls.getD i 0 = M) (mx : ∀ y ∈ ls, y ≤ M) {x : Int} (hx : x = if (if ls.sum - M - 1 > 1 then ls.sum - M - 1 else 1) < M then (if ls.sum - M - 1 > 1 then ls.sum - M - 1 else 1) else M) :
    SC (ls.set i x) ∧ Bd m (ls.set i x) := by
  have p1 := self_perm ls hi
  have p2 := set_perm ls hi x
  have el : (ls.eraseIdx i).length = ls.length - 1 := by rw [List.length_eraseIdx, if_pos hi]
  rw [hM] at p1
  generalize ls.eraseIdx i = e at p1 p2 el
  have pos : ∀ z ∈ e, 1 ≤ z := fun z hz => (bd z (p1.mem_iff.mpr (List.mem_cons_of_mem _ hz))).1
  have s1 := perm_sum p1
  rw [List.sum_cons] at s1
  have M1 := bd M (p1.mem_iff.mpr (List.mem_cons_self ..))
  obtain ⟨y0, hy0⟩ : ∃ y0, y0 ∈ e := by
    cases e with
    | nil => simp at el; omega
    | cons a e => exact ⟨a, List.mem_cons_self ..⟩
  have m0 := mem_sum pos hy0
  have p0 := pos y0 hy0
  have hx2 : x = if e.sum - 1 < M then e.sum - 1 else M := by
    rw [hx, show ls.sum - M - 1 = e.sum - 1 by omega]
    by_cases c : e.sum - 1 > 1
    · rw [if_pos c]
    · rw [if_neg c, show e.sum - 1 = 1 by omega]
  have xb : x ≤ e.sum - 1 ∧ x ≤ M ∧ 1 ≤ x ∧ (x = e.sum - 1 ∨ x = M) := by
    rw [hx2]
    by_cases c : e.sum - 1 < M
    · rw [if_pos c]; omega
    · rw [if_neg c]; omega
  have s2 := perm_sum p2
  rw [List.sum_cons] at s2
  refine ⟨SC.perm (fun y hy => ?_) p2, fun y hy => ?_⟩
  · rw [List.sum_cons]
    rcases List.mem_cons.mp hy with z | z
    · omega
    · have a := mem_sum pos z
      have b := mx y (p1.mem_iff.mpr (List.mem_cons_of_mem _ z))
      omega
  · rcases List.mem_cons.mp (p2.mem_iff.mp hy) with z | z
    · omega
    · exact bd y (p1.mem_iff.mpr (List.mem_cons_of_mem _ z))
theorem inc_ok {ls : List Int} {m : Int} {i : Nat} {b : Int} (sc : SC ls) (bd : Bd b ls) (lv : levelB ls = true) (hi : i < ls.length) (hm : ls.getD i 0 = m) : closesB (ls.set i (m + 1)) = true ∧ levelB (ls.set i (m + 1)) = false ∧ Bd (b + 1) (ls.set i (m + 1)) := by
  have p1 := self_perm ls hi
  have p2 := set_perm ls hi (m + 1)
  rw [hm] at p1
  generalize ls.eraseIdx i = e at p1 p2
  have s1 := perm_sum p1
  have s2 := perm_sum p2
  rw [List.sum_cons] at s1 s2
  have ev := level_even lv
  refine ⟨List.all_eq_true.mpr fun y hy => decide_eq_true ?_, ?_, fun y hy => ?_⟩
  · rcases List.mem_cons.mp (p2.mem_iff.mp hy) with z | z
    · have := sc m (p1.mem_iff.mpr (List.mem_cons_self ..))
      omega
    · have := sc y (p1.mem_iff.mpr (List.mem_cons_of_mem _ z))
      omega
  · cases c : levelB (ls.set i (m + 1)) with
    | false => rfl
    | true =>
      have := level_even c
      omega
  · rcases List.mem_cons.mp (p2.mem_iff.mp hy) with z | z
    · have := bd m (p1.mem_iff.mpr (List.mem_cons_self ..))
      omega
    · have := bd y (p1.mem_iff.mpr (List.mem_cons_of_mem _ z))
      omega
theorem eraseIdx_map : ∀ (l : List Int) (i : Nat), (l.map V.int).eraseIdx i = (l.eraseIdx i).map V.int
  | [], _ => rfl
  | x :: l, 0 => rfl
  | x :: l, i + 1 => by rw [List.map_cons, List.eraseIdx_cons_succ, List.eraseIdx_cons_succ, List.map_cons, eraseIdx_map l i]
section
variable {P : Program} {w : World} {K : PySem.W.Frag} {mg : Str → Option Value} {base : Heap}
def spLN (K : PySem.W.Frag) : Sp := fun vs H Q _ => ∃ (p l : Addr) (e : Addr × List Int) (sz : List Int) (n : Nat), vs = [.ref p, .ref l] ∧ SqL K H l (sz.map V.int) ∧ l ≠ p ∧ 1 ≤ sz.length ∧ sz.length ≤ 1000 ∧ (∀ z ∈ sz, 3 ≤ z ∧ z ≤ 8) ∧ n < 900000 ∧ PenAt K H p e n ∧
  ∀ q ls H', 3 ≤ ls.length → ls.length ≤ 8 → Bd 1000 ls → closesB ls = true → levelB ls = false → H q = none → H' q = some (.lst (ls.map V.int)) → But p H H' → PenAt K H' p e (n + 20) → Q (.ref q) H'
abbrev nLN : List Str := ["_law_can_here", "_law_sizes", "_law_many", "_law_way", "_law_lengths_here", "_law_left", "_law_turn", "_law_at", "_law_bar", "_law_length"]
theorem scLN : FnScope nLN ["_law_can_here", "_law_sizes"] (defScope sLwLengths) := ⟨rfl, rfl, rfl, by decide +kernel, rfl, by decide +kernel, by decide +kernel⟩
theorem ok_ln {f fD fP fC : Addr} {fd fdD fdP fdC : FuncData} (F : Fun K "_law_lengths" "_law_lengths" sLwLengths f fd) (T : Bi mg) (D : DrawAt P w K mg base fD fdD) (PK : DefAt P w K mg base CX0 3 "_law_take" ["_law_can_here", "_law_some"] (spPick K) fP fdP) (LC : DefAt P w K mg base CX0 2 "_law_is_clear" ["_law_lengths_here"] (spLC K) fC fdC) : FnOk P w K mg base CX0 4 f fd ["_law_can_here", "_law_sizes"] (spLN K) := by
  refine F.ok scLN (fun vs H Q E h => ?_) (fun cdv A outer s H vs Q E hr h => ?_)
  · obtain ⟨p, l, e, sz, n, rfl, _⟩ := h
    rfl
  · have nd := scLN.nd
    refine ⟨_, (pss_cons (ps_par (i := 2) (j := 3) (by rfl) nd rfl rfl (by decide) rfl rfl (pa_cons (pe_call PK.ok (hr.mono (by decide)) rfl PK.g PK.kp PK.b .nil pass0 (pa_cons (pv 0) (pa_cons (pv 1) pa_nil))) (pa_cons (pe_call D.ok (hr.mono (by decide)) rfl D.g D.kp D.b .nil pass0 (pa_cons (pv 0) (pa_cons pe_int pa_nil))) pa_nil)) (by rfl))
      (pss_cons (ps_set (i := 4) nd rfl (Or.inr rfl) (pe_lc (own := [("_law_bar", 8)]) (g := (gName 8)) (tt := tYes)  rfl nd (pi_range1 (by rfl) T.range (pa_cons (pv 2) pa_nil))
          (blkOk_by (N := nLN) (sc := defScope sLwLengths) (by decide +kernel)) (fun _ _ _ _ _ => (pg_name (i := 8) nd rfl (Or.inl rfl))) (fun _ _ _ _ _ => pts_nil) (fun _ _ _ _ _ => (pe_op op_add pe_int (pe_call D.ok (hr.mono (by decide)) rfl D.g D.kp D.b .nil pass0 (pa_cons (pv 0) (pa_cons pe_int pa_nil)))))))
      (pss_cut (ps_if (pt_cmpR op_eq (pv 3) pe_int (nomark _)) (pss_one (ps_set (i := 4) nd rfl (Or.inr rfl) (pe_lc (own := [("_law_length", 9)]) (g := (gName 9)) (tt := tYes)  rfl nd (pi_list (pv 4))
          (blkOk_by (N := nLN) (sc := defScope sLwLengths) (by decide +kernel)) (fun _ _ _ _ _ => (pg_name (i := 9) nd rfl (Or.inl rfl))) (fun _ _ _ _ _ => pts_nil) (fun _ _ _ _ _ => (pe_ix (r := rIxL K) ix_list (pv 4) pe_int (fun _ _ => rfl)))))) pss_nil)
      (pss_cut (ps_if (pt_cmpR op_eq (pv 3) pe_int (nomark _)) (pss_cons (ps_set (i := 5) nd rfl (Or.inl rfl) (pe_listRg rfl (by rfl) T.list (prg_1 (by rfl) T.range (pv 2))))
      (pss_one (ps_for PassesOwn.never rfl (pi_range1 (by rfl) T.range (pa_cons pe_int pa_nil)) (pg_name (i := 6) nd rfl (Or.inl rfl)) (pss_cons (ps_set (i := 7) nd rfl (Or.inl rfl) (pe_bm PySem.F.plainAttrs_list PySem.F.slot_list_pop PySem.F.type_list_pop mt_popAt (pv 5) (pa_cons (pe_call D.ok (hr.mono (by decide)) rfl D.g D.kp D.b .nil pass0 (pa_cons (pv 0) (pa_cons (pe_callB (r := rLenS K) call_len_seq (by rfl) T.len PySem.boot_len (pa_cons (pv 5) pa_nil)) pa_nil))) pa_nil)))
      (pss_one (ps_asg (pe_op op_add (pe_ix (r := rIxL K) ix_list (pv 4) (pv 7) (fun _ _ => rfl)) (pe_op op_mul pe_int (pv 2))) (pg_sub (pv 4) (pv 7) set_list))))))) pss_nil)
      (pss_cons (ps_set (i := 7) nd rfl (Or.inl rfl) (pe_bm PySem.F.plainAttrs_list PySem.F.slot_list_index PySem.F.type_list_index mt_index (pv 4) (pa_cons (pe_callB (cr_max rfl) (by rfl) T.max (by decide +kernel) (pa_cons (pv 4) pa_nil)) pa_nil)))
      (pss_cons (ps_asg (pe_callB (call_min2 rfl) (by rfl) T.min (by decide +kernel) (pa_cons (pe_ix (r := rIxL K) ix_list (pv 4) (pv 7) (fun _ _ => rfl)) (pa_cons (pe_callB (call_max2 rfl) (by rfl) T.max (by decide +kernel) (pa_cons pe_int (pa_cons (pe_op op_sub (pe_op op_sub (pe_callB (cr_sum rfl) (by rfl) T.sum (by decide +kernel) (pa_cons (pv 4) pa_nil)) (pe_ix (r := rIxL K) ix_list (pv 4) (pv 7) (fun _ _ => rfl))) pe_int) pa_nil))) pa_nil))) (pg_sub (pv 4) (pv 7) set_list))
      (pss_cons (ps_if (pt_not (pt_val (pe_call LC.ok (hr.mono (by decide)) rfl LC.g LC.kp LC.b .nil pass0 (pa_cons (pv 4) pa_nil)))) (pss_cons (ps_set (i := 7) nd rfl (Or.inl rfl) (pe_bm PySem.F.plainAttrs_list PySem.F.slot_list_index PySem.F.type_list_index mt_index (pv 4) (pa_cons (pe_callB (cr_min rfl) (by rfl) T.min (by decide +kernel) (pa_cons (pv 4) pa_nil)) pa_nil)))
      (pss_one (ps_asg (pe_op op_add (pe_ix (r := rIxL K) ix_list (pv 4) (pv 7) (fun _ _ => rfl)) pe_int) (pg_sub (pv 4) (pv 7) set_list)))) pss_nil)
      (pss_one (ps_ret (pv 4)))))))))), ?_⟩
    obtain ⟨p, l, e, sz, n, rfl, hs, nlp, z1, z2, hz, hn, pen, q⟩ := h
    refine ⟨_, rfl, _, rfl, p, l, e, _, n, rfl, hs, nlp, by rw [List.length_map]; omega, by rw [List.length_map]; omega, by omega, pen, fun i v H1 hv b1 pen1 => ?_⟩
    obtain ⟨m0, hm0, rfl⟩ := int_at hv
    have hm := hz m0 (List.mem_of_getElem? hm0)
    obtain ⟨m, rfl⟩ : ∃ m : Nat, m0 = (m : Int) := ⟨m0.toNat, by omega⟩
    refine ⟨_, rfl, p, e, 6, _, rfl, by decide, by decide, by omega, pen1, fun way H2 w0 w1 b2 pen2 => ?_⟩
    have b02 := b1.trans b2
    refine ⟨_, _, rfl, ?_⟩
    refine ⟨_, rfl, _, rfl, by omega, by omega, fun D0 nD0 => ?_⟩
    have nDp := pen2.ne nD0
    have nD0' := b02.free nDp nD0
    refine lc_range (lo := 0) (n := ((m : Nat) : Int).toNat) (fun i H' => ∃ ws : List Int, ws.length = i ∧ Bd 5 ws ∧ H' D0 = some (.lst (ws.map V.int)) ∧ But p H2 H' ∧ PenAt K H' p e (n + 2 + i)) ⟨[], rfl, fun x hx => (by cases hx), upd_same, (But.refl p H2).mut nD0, pen2.mut pen2 (But.refl p H2) nD0⟩ ?_ ?_
    · rintro i H' hi ⟨ws, wl, bd, h1, b3, pen3⟩
      rw [Int.toNat_natCast] at hi
      refine ⟨rfl, _, rfl, p, e, 5, _, rfl, by decide, by decide, by omega, pen3, fun r H4 r0 r1 b4 pen4 => ?_⟩
      have h4 := b4 _ _ nDp h1
      refine ⟨_, _, rfl, rfl, _, h4, (by rw [List.length_map]; exact sm (by omega)), ws ++ [1 + r], by rw [List.length_append, wl]; rfl, bd.snoc (by omega) (by omega), ?_, (b3.trans b4).mut nD0, pen2.mut pen4 (b3.trans b4) nD0⟩
      rw [upd_same, List.map_append]
      rfl
    rintro H3 ⟨ls, lsl, bd, h3, b3, pen3⟩
    rw [Int.toNat_natCast] at lsl
    rw [Int.toNat_natCast] at pen3
    have b03 := b02.trans b3
    -- all alike
    refine ⟨fun σ' H' => ∃ (u : Addr) (ls : List Int), σ' = [some (.ref p), some (.ref l), some (.int (m : Nat)), some (.int way), some (.ref u), none, none, none, none, none] ∧ ls.length = m ∧ Bd 5 ls ∧ H u = none ∧ u ≠ p ∧ H' u = some (.lst (ls.map V.int)) ∧ But p H H' ∧ PenAt K H' p e (n + 2 + m), ?_, ?_⟩
    · refine ⟨_, rfl, rfl, _, rfl, ?_⟩
      refine ite2 (fun _ => ?_) (fun _ => ⟨D0, ls, rfl, lsl, bd, nD0', nDp, h3, b03, pen3⟩)
      refine ⟨_, rfl, D0, rfl, ⟨_, SqL.of h3⟩, fun D1 nD1 => ?_⟩
      have nD1p := pen3.ne nD1
      refine lc_list (K := K) (a := D0) (xs := ls.map V.int) (fun i H' => Same H3 H' ∧ H' D1 = some (.lst ((List.replicate i (ls.getD 0 0)).map V.int))) ⟨(Same.refl H3).new nD1, upd_same⟩ (fun i H' _ z => SqL.of (z.1 _ _ h3)) ?_ ?_
      · rintro i x H' hi ⟨s1, h1⟩
        obtain ⟨z, hz, rfl⟩ := int_at hi
        have hil : i < ls.length := (List.getElem?_eq_some_iff.mp hz).1
        refine ⟨rfl, _, rfl, D0, _, _, _, rfl, rfl, SqL.of (s1 _ _ h3), getL (i := 0) rfl (by omega), _, h1, (by rw [List.length_map, List.length_replicate]; exact sm (by omega)), s1.mut nD1, ?_⟩
        rw [upd_same, List.replicate_succ', List.map_append]
        rfl
      rintro H4 ⟨s4, h4⟩
      rw [List.length_map] at h4
      refine ⟨D1, _, rfl, by rw [List.length_replicate]; exact lsl, fun x hx => ?_, b03.free nD1p nD1, nD1p, h4, b03.trans (But.of s4), pen3.same s4⟩
      rw [(List.mem_replicate.mp hx).2]
      exact bd.get (by omega)
    rintro σ H4 ⟨u, ls, rfl, lsl, bd, nu, nup, h4, b4, pen4⟩
    -- three long
    refine ⟨fun σ' H' => ∃ (ls : List Int) (z5 z6 z7 : Option V), σ' = [some (.ref p), some (.ref l), some (.int (m : Nat)), some (.int way), some (.ref u), z5, z6, z7, none, none] ∧ ls.length = m ∧ Bd 500 ls ∧ H' u = some (.lst (ls.map V.int)) ∧ But p H H' ∧ PenAt K H' p e (n + 20), ?_, ?_⟩
    · refine ⟨_, rfl, rfl, _, rfl, ?_⟩
      refine ite2 (fun _ => ?_) (fun _ => ⟨ls, _, _, _, rfl, lsl, bd.le (by decide), h4, b4, pen4.mono (by omega)⟩)
      refine ⟨_, rfl, _, rfl, RgOk.of_le (by omega) (by omega) (by omega) (by omega), fun g ng => ?_⟩
      rw [rg_nat]
      have ngp := pen4.ne ng
      have ngu : g ≠ u := (ne_of_none h4 ng).symm
      have s5 : Same H4 (upd H4 g (.lst ((natB (List.range m)).map V.int))) := (Same.refl H4).new ng
      have hg : upd H4 g (.lst ((natB (List.range m)).map V.int)) g = some (.lst ((natB (List.range m)).map V.int)) := upd_same
      generalize upd H4 g (.lst ((natB (List.range m)).map V.int)) = H5 at s5 hg ⊢
      have pen5 := pen4.same s5
      have b5 := b4.trans (But.of s5)
      have h5 := s5 _ _ h4
      have ng0 := b4.free ngp ng
      refine ⟨_, rfl, by decide, by decide, ?_⟩
      refine for_range (lo := 0) (n := (3 : Int).toNat) (fun i σ H' => ∃ (left ls : List Int) (z6 z7 : Option V), σ = [some (.ref p), some (.ref l), some (.int (m : Nat)), some (.int way), some (.ref u), some (.ref g), z6, z7, none, none] ∧ left.length = m - i ∧ (∀ z ∈ left, 0 ≤ z ∧ z < m) ∧ ls.length = m ∧ Bd (5 + 40 * i) ls ∧ H' g = some (.lst (left.map V.int)) ∧ H' u = some (.lst (ls.map V.int)) ∧ But p H H' ∧ PenAt K H' p e (n + 2 + m + i))
        ⟨natB (List.range m), ls, none, none, rfl, by unfold natB; rw [List.length_map, List.length_range]; rfl, fun z hz => (by obtain ⟨k, hk, rfl⟩ := List.mem_map.mp hz; have := List.mem_range.mp hk; omega), lsl, bd.le (by omega), hg, h5, b5, pen5⟩ ?_ ?_
      · rintro i σ H6 hi ⟨left, ls, z6, z7, rfl, ll, lin, lsl, bd, hg, hu, b6, pen6⟩
        have hi3 : i < 3 := hi
        refine ⟨_, rfl, .inl ⟨rfl, _, SqL.of hg⟩, _, rfl, _, rfl, g, _, rfl, .inl (SqL.of hg), p, e, _, _, rfl, by rw [List.length_map]; omega, by rw [List.length_map]; omega, by omega, pen6, fun r H7 r0 r1 b7 pen7 => ?_⟩
        rw [List.length_map] at r1
        have hrl : r.toNat < left.length := by omega
        have zb := lin left[r.toNat] (List.getElem_mem hrl)
        have hg7 := b7 _ _ ngp hg
        have hu7 := b7 _ _ nup hu
        refine ⟨g, left.map V.int, r, r.toNat, .int left[r.toNat], rfl, rfl, hg7, by omega, by omega, seqIndex_of r0 (by rw [List.length_map]; exact r1), int_get hrl, ?_⟩
        have b8 : But p H (upd H7 g (.lst ((left.map V.int).eraseIdx r.toNat))) := (b6.trans b7).mut ng0
        have pen8 : PenAt K (upd H7 g (.lst ((left.map V.int).eraseIdx r.toNat))) p e (n + 2 + m + i + 1) := pen.mut pen7 (b6.trans b7) ng0
        have hu8 : upd H7 g (.lst ((left.map V.int).eraseIdx r.toNat)) u = some (.lst (ls.map V.int)) := by rw [upd_ne ngu.symm]; exact hu7
        have hg8 : upd H7 g (.lst ((left.map V.int).eraseIdx r.toNat)) g = some (.lst ((left.eraseIdx r.toNat).map V.int)) := by rw [upd_same, eraseIdx_map]
        generalize upd H7 g (.lst ((left.map V.int).eraseIdx r.toNat)) = H8 at b8 pen8 hu8 hg8 ⊢
        generalize left[r.toNat] = z at zb ⊢
        refine ⟨_, rfl, _, rfl, u, _, z, _, rfl, rfl, SqL.of hu8, get_z zb.1 (by omega), _, rfl, _, _, rfl, rfl, .inl ⟨by decide, by decide⟩, _, _, rfl, rfl, ?_⟩
        refine ⟨_, rfl, _, rfl, u, _, _, z.toNat, rfl, rfl, hu8, ixN_at zb.1 (by rw [List.length_map]; omega), ?_⟩
        rw [set_map]
        refine ⟨left.eraseIdx r.toNat, _, _, _, rfl, by rw [List.length_eraseIdx, if_pos hrl]; omega, fun y hy => lin y (List.mem_of_mem_eraseIdx hy), by rw [List.length_set]; exact lsl, (bd.le (by omega)).set (by have := bd.get (i := z.toNat) (by omega); omega) (by have := bd.get (i := z.toNat) (by omega); omega), by rw [upd_ne ngu]; exact hg8, upd_same, b8.mut nu, pen.mut pen8 b8 nu⟩
      · rintro σ H6 ⟨left, ls, z6, z7, rfl, ll, lin, lsl, bd, hg, hu, b6, pen6⟩
        exact ⟨ls, _, _, _, rfl, lsl, bd.le (by decide), hu, b6, pen6.mono (by show n + 2 + m + 3 ≤ n + 20; omega)⟩
    rintro σ H5 ⟨ls, z5, z6, z7, rfl, lsl, bd, hu, b5, pen5⟩
    -- the cap
    refine ⟨_, rfl, .inl ⟨rfl, _, SqL.of hu⟩, _, rfl, u, ls, rfl, SqL.of hu, by omega, fun M hM mx => ?_⟩
    obtain ⟨j, j1, j2⟩ := first_at hM
    have hjl : j < ls.length := (List.getElem?_eq_some_iff.mp j1).1
    have eM : ls.getD j 0 = M := by rw [List.getD_eq_getElem?_getD, j1]; rfl
    refine ⟨u, ls.map V.int, .int M, j, .int M, rfl, rfl, SqL.of hu, rfl, flat_ints _, by rw [List.getElem?_map, j1]; rfl, by simp [eqV], fun k z' hk hz' => ?_, ?_⟩
    · obtain ⟨y, hy, rfl⟩ := int_at hz'
      have ne : y ≠ M := fun z => j2 k hk (by rw [hy, z])
      simp [eqV, ne]
    refine ⟨_, rfl, _, rfl, u, _, _, _, rfl, rfl, SqL.of hu, getL (i := j) rfl hjl, _, rfl, u, ls, rfl, SqL.of hu, _, rfl, _, rfl, u, _, _, _, rfl, rfl, SqL.of hu, getL (i := j) rfl hjl, _, _, rfl, rfl, _, _, rfl, rfl, _, _, rfl, _, _, rfl, ?_⟩
    rw [eM]
    refine ⟨_, rfl, _, rfl, u, _, _, j, rfl, rfl, hu, ixN_at (by omega) (by rw [List.length_map]; omega), ?_⟩
    rw [set_map]
    obtain ⟨sc, bd2⟩ := cap_sc (x := if (if ls.sum - M - 1 > 1 then ls.sum - M - 1 else 1) < M then (if ls.sum - M - 1 > 1 then ls.sum - M - 1 else 1) else M) (by omega) bd hjl eM mx rfl
    have nl : (ls.set j (if (if ls.sum - M - 1 > 1 then ls.sum - M - 1 else 1) < M then (if ls.sum - M - 1 > 1 then ls.sum - M - 1 else 1) else M)).length = m := by rw [List.length_set]; exact lsl
    have b6 : But p H (upd H5 u (.lst ((ls.set j (if (if ls.sum - M - 1 > 1 then ls.sum - M - 1 else 1) < M then (if ls.sum - M - 1 > 1 then ls.sum - M - 1 else 1) else M)).map V.int))) := b5.mut nu
    have pen6 : PenAt K (upd H5 u (.lst ((ls.set j (if (if ls.sum - M - 1 > 1 then ls.sum - M - 1 else 1) < M then (if ls.sum - M - 1 > 1 then ls.sum - M - 1 else 1) else M)).map V.int))) p e (n + 20) := pen.mut pen5 b5 nu
    have hu6 : upd H5 u (.lst ((ls.set j (if (if ls.sum - M - 1 > 1 then ls.sum - M - 1 else 1) < M then (if ls.sum - M - 1 > 1 then ls.sum - M - 1 else 1) else M)).map V.int)) u = some (.lst ((ls.set j (if (if ls.sum - M - 1 > 1 then ls.sum - M - 1 else 1) < M then (if ls.sum - M - 1 > 1 then ls.sum - M - 1 else 1) else M)).map V.int)) := upd_same
    generalize upd H5 u (.lst ((ls.set j (if (if ls.sum - M - 1 > 1 then ls.sum - M - 1 else 1) < M then (if ls.sum - M - 1 > 1 then ls.sum - M - 1 else 1) else M)).map V.int)) = H6 at b6 pen6 hu6 ⊢
    generalize ls.set j (if (if ls.sum - M - 1 > 1 then ls.sum - M - 1 else 1) < M then (if ls.sum - M - 1 > 1 then ls.sum - M - 1 else 1) else M) = ms at sc bd2 nl hu6
    refine ⟨_, rfl, u, ms, rfl, SqL.of hu6, by omega, fun H7 s7 => ⟨_, rfl, ?_⟩⟩
    have hu7 := s7 _ _ hu6
    have b7 := b6.trans (But.of s7)
    have pen7 := pen6.same s7
    cases lv : levelB ms with
    | false => exact iteF ⟨_, rfl, q u ms H7 (by omega) (by omega) (bd2.le (by decide)) sc.closes lv nu hu7 b7 pen7⟩
    | true =>
      refine iteT ?_
      refine ⟨_, rfl, .inl ⟨rfl, _, SqL.of hu7⟩, _, rfl, u, ms, rfl, SqL.of hu7, by omega, fun L hL mn => ?_⟩
      obtain ⟨j, j1, j2⟩ := first_at hL
      have hjl : j < ms.length := (List.getElem?_eq_some_iff.mp j1).1
      have eL : ms.getD j 0 = L := by rw [List.getD_eq_getElem?_getD, j1]; rfl
      refine ⟨u, ms.map V.int, .int L, j, .int L, rfl, rfl, SqL.of hu7, rfl, flat_ints _, by rw [List.getElem?_map, j1]; rfl, by simp [eqV], fun k z' hk hz' => ?_, ?_⟩
      · obtain ⟨y, hy, rfl⟩ := int_at hz'
        have ne : y ≠ L := fun z => j2 k hk (by rw [hy, z])
        simp [eqV, ne]
      refine ⟨_, rfl, _, rfl, u, _, _, _, rfl, rfl, SqL.of hu7, getL (i := j) rfl hjl, _, _, rfl, rfl, ?_⟩
      rw [eL]
      refine ⟨_, rfl, _, rfl, u, _, _, j, rfl, rfl, hu7, ixN_at (by omega) (by rw [List.length_map]; omega), ?_⟩
      rw [set_map]
      obtain ⟨c1, c2, c3⟩ := inc_ok sc bd2 lv hjl eL
      exact ⟨_, rfl, q u _ _ (by rw [List.length_set]; omega) (by rw [List.length_set]; omega) (c3.le (by decide)) c1 c2 nu upd_same (b7.mut nu) (pen.mut pen7 b7 nu)⟩
end
end K
namespace K
open PySem L2 Rg
open Evl (pss_cut)
theorem kit_lt {K : PySem.W.Frag} {k : String} (hk : k ∈ kinds) : PySem.W.kitAny K (.type k) [.type "list", .type "tuple"] = some (decide (k = "list" ∨ k = "tuple")) := by
  refine kitAny_cons (kit_ty (kit_list k hk)) (fun e => kitAny_cons (b := decide (k = "tuple")) (r := decide (k = "list" ∨ k = "tuple")) (kit_ty (kit_tuple k hk)) (fun e' => ?_) fun e' => ?_) fun e => ?_
  · have h1 : ¬ k = "list" := of_decide_eq_false e
    have h2 : ¬ k = "tuple" := of_decide_eq_false e'
    rw [kitAny_nil, decide_eq_false (fun z => z.elim h1 h2)]
  · exact decide_eq_true (.inr (of_decide_eq_true e'))
  · exact decide_eq_true (.inl (of_decide_eq_true e))
/-- what may stand in a bent round -/
inductive El (H : Hp) : V → String → PyData → Prop where
  | int (i : Int) : El H (.int i) "int" (.int i)
  | bl (b : Bool) : El H (.bl b) "bool" (.bool b)
  | non : El H .non "NoneType" .none
  | str (z : Str) : PyData.strOk z = true → El H (.str z) "str" (.str z)
  | lst (a : Addr) (i : Int) : H a = some (.lst [.int i]) → El H (.ref a) "list" (.list [.int i])
section
variable {K : PySem.W.Frag} {H H' : Hp} {v : V} {k : String} {d : PyData}
theorem El.same (h : El H v k d) (s : Same H H') : El H' v k d := by
  cases h with
  | int i => exact .int i
  | bl b => exact .bl b
  | non => exact .non
  | str z hz => exact .str z hz
  | lst a i e => exact .lst a i (s _ _ e)
theorem El.mut {D : Addr} {us ws : List V} (h : El H v k d) (hD : H D = some (.lst us)) (n : v ≠ .ref D) : El (upd H D (.lst ws)) v k d := by
  cases h with
  | int i => exact .int i
  | bl b => exact .bl b
  | non => exact .non
  | str z hz => exact .str z hz
  | lst a i e => exact .lst a i (by rw [upd_ne fun z => n (by rw [z])]; exact e)
theorem El.knd (h : El H v k d) : Knd K H v k := by
  cases h with
  | int i => exact Knd.int
  | bl b => exact ⟨.base (.bl b), by decide⟩
  | non => exact ⟨.base .non, by decide⟩
  | str z _ => exact ⟨.base (.str z), by decide⟩
  | lst a i e => exact ⟨.base (.lst e), by decide⟩
theorem El.dp (h : El H v k d) : Dp K H v d := by
  cases h with
  | int i => exact .int i
  | bl b => exact .bl b
  | non => exact .non
  | str z _ => exact .str z
  | lst a i e => exact .lst (SqL.of e) (.cons (.int i) .nil)
theorem El.lay (h : El H v k d) : d.canLay0 = true ∧ d.depth ≤ 1 := by
  cases h with
  | str z hz => simp [PyData.canLay0, PyData.depth, hz]
  | int i => simp [PyData.canLay0, PyData.depth]
  | bl b => simp [PyData.canLay0, PyData.depth]
  | non => simp [PyData.canLay0, PyData.depth]
  | lst a i e => simp [PyData.canLay0, PyData.canLayAll0, PyData.depth, PyData.depthAll]
theorem El.isInt (h : El H v k d) (e : k = "int") : ∃ i, v = .int i := by
  cases h with
  | int i => exact ⟨i, rfl⟩
  | bl b => exact absurd e (by decide)
  | non => exact absurd e (by decide)
  | str z _ => exact absurd e (by decide)
  | lst a i _ => exact absurd e (by decide)
end
/-- the items of a bent round, their kinds, their data -/
def Els (H : Hp) (xs : List V) (kf : V → String) (df : V → PyData) : Prop := ∀ x ∈ xs, El H x (kf x) (df x)
theorem Els.ints {H : Hp} {xs : List V} {kf : V → String} {df : V → PyData} : ∀ (_ : Els H xs kf df) (_ : (xs.all fun x => decide (kf x = "int")) = true), ∃ ns : List Int, xs = ns.map V.int := by
  induction xs with
  | nil => exact fun _ _ => ⟨[], rfl⟩
  | cons x xs ih =>
    intro h e
    rw [List.all_cons, Bool.and_eq_true] at e
    obtain ⟨ns, hn⟩ := ih (fun y hy => h y (List.mem_cons_of_mem _ hy)) e.2
    obtain ⟨i, hi⟩ := (h x (List.mem_cons_self ..)).isInt (of_decide_eq_true e.1)
    exact ⟨i :: ns, by rw [hn, hi]; rfl⟩
/-- a value for a round as the law draws it, and whether it is one -/
def EV (K : PySem.W.Frag) (H : Hp) (n : Nat) (v : V) (b : Bool) : Prop :=
  (∃ k, Knd K H v k ∧ k ≠ "list" ∧ k ≠ "tuple" ∧ b = false) ∨
  (∃ (a : Addr) (xs : List V) (kf : V → String) (df : V → PyData), v = .ref a ∧ ((H a = some (.lst xs)) ∨ (H a = some (.tup xs))) ∧ xs.length ≤ 1000 ∧ Els H xs kf df ∧
    (((xs.all fun x => decide (kf x = "int")) = false ∧ b = false) ∨ ∃ ns : List Int, xs = ns.map V.int ∧ (xs.all fun x => decide (kf x = "int")) = true ∧ b = rdB n ns))
theorem EV.same {K : PySem.W.Frag} {H H' : Hp} {n : Nat} {v : V} {b : Bool} (h : EV K H n v b) (s : Same H H') : EV K H' n v b := by
  rcases h with ⟨k, h1, h2⟩ | ⟨a, xs, kf, df, e, h1, h2, h3, h4⟩
  · exact .inl ⟨k, h1.same s, h2⟩
  · refine .inr ⟨a, xs, kf, df, e, ?_, h2, fun x hx => (h3 x hx).same s, h4⟩
    rcases h1 with z | z
    · exact .inl (s _ _ z)
    · exact .inr (s _ _ z)
theorem EV.rv {K : PySem.W.Frag} {H : Hp} {n : Nat} {v : V} {b : Bool} (h : EV K H n v b) : RV K H n v b := by
  rcases h with h | ⟨a, xs, kf, df, e, h1, h2, h3, h4⟩
  · exact .inl h
  · refine .inr ⟨a, xs, kf, e, ?_, h2, fun x hx => (h3 x hx).knd, h4⟩
    rcases h1 with z | z
    · exact .inl ⟨⟨.base (.lst z), by decide⟩, SqL.of z⟩
    · exact .inr ⟨⟨.base (.tup z), by decide⟩, .inl (.inl z)⟩
/-- any list or tuple of such items is such a value -/
theorem EV.of {K : PySem.W.Frag} {H : Hp} {n : Nat} {a : Addr} {xs : List V} {kf : V → String} {df : V → PyData} (h : H a = some (.lst xs) ∨ H a = some (.tup xs)) (hl : xs.length ≤ 1000) (e : Els H xs kf df) : ∃ b, EV K H n (.ref a) b := by
  cases c : (xs.all fun x => decide (kf x = "int")) with
  | false => exact ⟨false, .inr ⟨a, xs, kf, df, rfl, h, hl, e, .inl ⟨c, rfl⟩⟩⟩
  | true =>
    obtain ⟨ns, hn⟩ := e.ints c
    exact ⟨rdB n ns, .inr ⟨a, xs, kf, df, rfl, h, hl, e, .inr ⟨ns, hn, c, rfl⟩⟩⟩
def kfI (v : V) : String := match v with
  | .int _ => "int"
  | _ => "NoneType"
def dfI (v : V) : PyData := match v with
  | .int i => .int i
  | _ => .none
theorem els_ints {H : Hp} (ns : List Int) : Els H (ns.map V.int) kfI dfI := fun x hx => by
  obtain ⟨i, _, rfl⟩ := List.mem_map.mp hx
  exact .int i
section
variable {P : Program} {w : World} {K : PySem.W.Frag} {mg : Str → Option Value} {base : Heap}
/-! ### a round is drawn -/
def tlN (m : Nat) : List Int := (List.range (m - 1)).map fun i : Nat => 1 + (i : Int)
theorem tlN_rg {m : Nat} (h : 1 ≤ m) : rgN m = 0 :: tlN m := by
  obtain ⟨k, rfl⟩ : ∃ k, m = k + 1 := ⟨m - 1, by omega⟩
  unfold rgN natB tlN
  rw [List.range_succ_eq_map, List.map_cons, List.map_map]
  congr 1
  refine List.map_congr_left fun i _ => ?_
  show ((i + 1 : Nat) : Int) = 1 + (i : Int)
  omega
theorem rg_one (m : Nat) (h : 1 ≤ m) : rgV 1 (m : Int) = (tlN m).map V.int := by
  unfold rgV tlN
  rw [List.map_map, show ((m : Int) - 1).toNat = m - 1 by omega]
  rfl
theorem move_perm {l d : List Int} {i : Nat} (h : i < l.length) : (d ++ [l[i]] ++ l.eraseIdx i).Perm (d ++ l) := by
  have e : l.getD i 0 = l[i] := by rw [List.getD_eq_getElem?_getD, List.getElem?_eq_getElem h]; rfl
  have p := self_perm l h
  rw [e] at p
  rw [List.append_assoc]
  exact List.Perm.append_left d p.symm
def spDR (K : PySem.W.Frag) : Sp := fun vs H Q _ => ∃ (p : Addr) (e : Addr × List Int) (m n : Nat), vs = [.ref p, .int (m : Nat)] ∧ 3 ≤ m ∧ m ≤ 8 ∧ n < 900000 ∧ PenAt K H p e n ∧
  ∀ t one H', Rnd m one → H t = none → H' t = some (.tup (one.map V.int)) → But p H H' → PenAt K H' p e (n + 8) → Q (.ref t) H'
abbrev nDR : List Str := ["_law_can_here", "_law_many", "_law_left", "_law_found", "_law_turn"]
theorem scDR : FnScope nDR ["_law_can_here", "_law_many"] (defScope sLwDrawnRound) := ⟨rfl, rfl, rfl, by decide +kernel, rfl, by decide +kernel, by decide +kernel⟩
theorem ok_dr {f fD : Addr} {fd fdD : FuncData} (F : Fun K "_law_drawn_round" "_law_drawn_round" sLwDrawnRound f fd) (T : Bi mg) (D : DrawAt P w K mg base fD fdD) : FnOk P w K mg base CX0 3 f fd ["_law_can_here", "_law_many"] (spDR K) := by
  refine F.ok scDR (fun vs H Q E h => ?_) (fun cdv A outer s H vs Q E hr h => ?_)
  · obtain ⟨p, e, m, n, rfl, _⟩ := h
    rfl
  · have nd := scDR.nd
    refine ⟨_, (pss_cons (ps_par (i := 2) (j := 3) (by rfl) nd rfl rfl (by decide) rfl rfl (pa_cons (pe_listRg rfl (by rfl) T.list (prg_2 (by rfl) T.range pe_int (pv 1))) (pa_cons (pe_lst (pa_cons pe_int pa_nil)) pa_nil)) (by rfl))
      (pss_cons (ps_for PassesOwn.never rfl (pi_range1 (by rfl) T.range (pa_cons (pe_op op_sub (pv 1) pe_int) pa_nil)) (pg_name (i := 4) nd rfl (Or.inl rfl)) (pss_one (ps_expr (pe_bm PySem.F.plainAttrs_list PySem.F.slot_list_append PySem.F.type_list_append mt_append (pv 3) (pa_cons (pe_bm PySem.F.plainAttrs_list PySem.F.slot_list_pop PySem.F.type_list_pop mt_popAt (pv 2) (pa_cons (pe_call D.ok (hr.mono (by decide)) rfl D.g D.kp D.b .nil pass0 (pa_cons (pv 0) (pa_cons (pe_callB (r := rLenS K) call_len_seq (by rfl) T.len PySem.boot_len (pa_cons (pv 2) pa_nil)) pa_nil))) pa_nil)) pa_nil)))))
      (pss_one (ps_ret (pe_callTy call_tuple_of (by rfl) T.tuple (by decide +kernel) (pa_cons (pv 3) pa_nil)))))), ?_⟩
    obtain ⟨p, e, m, n, rfl, m3, m8, hn, pen, q⟩ := h
    refine ⟨_, rfl, _, _, rfl, rfl, RgOk.of_le (by omega) (by omega) (by omega) (by omega), fun g ng => ?_⟩
    rw [rg_one m (by omega)]
    have ngp := pen.ne ng
    have s1 : Same H (upd H g (.lst ((tlN m).map V.int))) := (Same.refl H).new ng
    have hg : upd H g (.lst ((tlN m).map V.int)) g = some (.lst ((tlN m).map V.int)) := upd_same
    generalize upd H g (.lst ((tlN m).map V.int)) = H1 at s1 hg ⊢
    refine ⟨(by show 1 ≤ sizeLine; decide), fun h nh => ?_⟩
    have nh0 := s1.free nh
    have nhp := pen.ne nh0
    have ngh : g ≠ h := ne_of_none hg nh
    have s2 : Same H1 (upd H1 h (.lst [.int 0])) := (Same.refl H1).new nh
    have hh : upd H1 h (.lst [.int 0]) h = some (.lst [.int 0]) := upd_same
    generalize upd H1 h (.lst [.int 0]) = H2 at s2 hh ⊢
    have s02 := s1.trans s2
    have hg2 := s2 _ _ hg
    refine ⟨_, _, rfl, ?_⟩
    refine ⟨_, rfl, _, _, rfl, rfl, _, rfl, by omega, by omega, ?_⟩
    refine for_range (lo := 0) (n := ((m : Int) - 1).toNat) (fun i σ H' => ∃ (left done : List Int) (z4 : Option V), σ = [some (.ref p), some (.int (m : Nat)), some (.ref g), some (.ref h), z4] ∧ left.length = m - 1 - i ∧ done.length = i ∧ H' g = some (.lst (left.map V.int)) ∧ H' h = some (.lst ((0 :: done).map V.int)) ∧ (0 :: done ++ left).Perm (rgN m) ∧ But p H H' ∧ PenAt K H' p e (n + i))
      ⟨tlN m, [], none, rfl, by unfold tlN; rw [List.length_map, List.length_range]; rfl, rfl, hg2, hh, by rw [tlN_rg (by omega)]; exact List.Perm.refl _, But.of s02, pen.same s02⟩ ?_ ?_
    · rintro i σ H3 hi ⟨left, done, z4, rfl, ll, dl, hg3, hh3, pm, b3, pen3⟩
      have him : i < m - 1 := by omega
      refine ⟨_, rfl, .inl ⟨rfl, _, SqL.of hh3⟩, _, rfl, .inl ⟨rfl, _, SqL.of hg3⟩, _, rfl, _, rfl, g, _, rfl, .inl (SqL.of hg3), p, e, _, _, rfl, by rw [List.length_map]; omega, by rw [List.length_map]; omega, by omega, pen3, fun r H4 r0 r1 b4 pen4 => ?_⟩
      rw [List.length_map] at r1
      have hrl : r.toNat < left.length := by omega
      have hg4 := b4 _ _ ngp hg3
      have hh4 := b4 _ _ nhp hh3
      refine ⟨g, left.map V.int, r, r.toNat, .int left[r.toNat], rfl, rfl, hg4, by omega, by omega, seqIndex_of r0 (by rw [List.length_map]; exact r1), int_get hrl, ?_⟩
      have b5 := b3.trans b4
      have hh5 : upd H4 g (.lst ((left.map V.int).eraseIdx r.toNat)) h = some (.lst ((0 :: done).map V.int)) := by rw [upd_ne ngh.symm]; exact hh4
      refine ⟨h, _, _, rfl, rfl, hh5, (by rw [List.length_map, List.length_cons]; exact sm (by omega)), ?_⟩
      refine ⟨left.eraseIdx r.toNat, done ++ [left[r.toNat]], _, rfl, by rw [List.length_eraseIdx, if_pos hrl]; omega, by rw [List.length_append, dl]; rfl, by rw [upd_ne ngh, upd_same, eraseIdx_map], by rw [upd_same, ← List.cons_append, List.map_append]; rfl, ?_, (b5.mut ng).mut nh0, pen.mut (pen.mut pen4 b5 ng) (b5.mut ng) nh0⟩
      have := move_perm (d := 0 :: done) hrl
      exact this.trans pm
    · rintro σ H3 ⟨left, done, z4, rfl, ll, dl, hg3, hh3, pm, b3, pen3⟩
      have el : left = [] := List.eq_nil_of_length_eq_zero (by omega)
      subst el
      rw [List.append_nil] at pm
      refine ⟨_, rfl, h, _, rfl, .inl ⟨SqL.of hh3, fun t nt => ?_⟩⟩
      have ntp := pen3.ne nt
      have s4 : Same H3 (upd H3 t (.tup ((0 :: done).map V.int))) := (Same.refl H3).new nt
      have ht : upd H3 t (.tup ((0 :: done).map V.int)) t = some (.tup ((0 :: done).map V.int)) := upd_same
      generalize upd H3 t (.tup ((0 :: done).map V.int)) = H4 at s4 ht ⊢
      exact q t _ H4 ⟨pm, rfl⟩ (b3.free ntp nt) ht (b3.trans (But.of s4)) ((pen3.same s4).mono (by omega))
/-! ### are_bars, is_round -/
def spAB (K : PySem.W.Frag) : Sp := fun vs H Q _ => ∃ (v : V) (n : Nat) (b : Bool), vs = [v] ∧ EV K H n v b ∧ ∀ H' c, Same H H' → (c = false → b = false) → (c = true → ∃ (a : Addr) (ns : List Int), v = .ref a ∧ (H a = some (.lst (ns.map V.int)) ∨ H a = some (.tup (ns.map V.int))) ∧ ns.length ≤ 1000 ∧ b = rdB n ns) → Q (.bl c) H'
abbrev nAB : List Str := ["_law_value", "_law_bar"]
theorem scAB : FnScope nAB ["_law_value"] (defScope sLwAreBars) := ⟨rfl, rfl, rfl, by decide +kernel, rfl, by decide +kernel, by decide +kernel⟩
theorem els_data {H : Hp} {kf : V → String} {df : V → PyData} : ∀ {xs : List V}, Els H xs kf df → DpAll K H xs (xs.map df) ∧ PyData.canLayAll0 (xs.map df) = true ∧ PyData.depthAll (xs.map df) ≤ 1
  | [], _ => ⟨.nil, by simp [PyData.canLayAll0], by simp [PyData.depthAll]⟩
  | x :: xs, h => by
    obtain ⟨a, b, c⟩ := els_data (xs := xs) fun y hy => h y (List.mem_cons_of_mem _ hy)
    have e := h x (List.mem_cons_self ..)
    obtain ⟨l1, l2⟩ := e.lay
    refine ⟨.cons e.dp a, ?_, ?_⟩
    · rw [List.map_cons, PyData.canLayAll0, l1, b]; rfl
    · rw [List.map_cons, PyData.depthAll]; omega
theorem eqv_nil' (l : List PyData) : PyData.eqv (.list l) (.list []) = l.isEmpty := by
  cases l <;> simp [PyData.eqv, PyData.eqvAll]
theorem filt_all (xs : List V) (g : V → Bool) : ((xs.filter fun x => !g x).map dfI).isEmpty = xs.all g := by
  induction xs with
  | nil => rfl
  | cons x xs ih =>
    rw [List.all_cons, ← ih]
    cases e : g x <;> simp [List.filter, e]
theorem filt_allD (xs : List V) (g : V → Bool) (df : V → PyData) : ((xs.filter fun x => !g x).map df).isEmpty = xs.all g := by
  induction xs with
  | nil => rfl
  | cons x xs ih =>
    rw [List.all_cons, ← ih]
    cases e : g x <;> simp [List.filter, e]
def spABO (K : PySem.W.Frag) : Sp := fun vs H Q _ => ∃ (v : V) (k : String), vs = [v] ∧ Knd K H v k ∧ k ≠ "list" ∧ k ≠ "tuple" ∧ ∀ H', Same H H' → Q (.bl false) H'
def spABL (K : PySem.W.Frag) : Sp := fun vs H Q _ => ∃ (a : Addr) (xs : List V) (kf : V → String) (df : V → PyData), vs = [.ref a] ∧ H a = some (.lst xs) ∧ xs.length ≤ 1000 ∧ Els H xs kf df ∧ ∀ H', Same H H' → Q (.bl (xs.all fun x => decide (kf x = "int"))) H'
def spABT (K : PySem.W.Frag) : Sp := fun vs H Q _ => ∃ (a : Addr) (xs : List V) (kf : V → String) (df : V → PyData), vs = [.ref a] ∧ H a = some (.tup xs) ∧ xs.length ≤ 1000 ∧ Els H xs kf df ∧ ∀ H', Same H H' → Q (.bl (xs.all fun x => decide (kf x = "int"))) H'
theorem ok_abO {f : Addr} {fd : FuncData} (F : Fun K "_law_are_bars" "_law_are_bars" sLwAreBars f fd) (T : Bi mg) : FnOk P w K mg base CX0 1 f fd ["_law_value"] (spABO K) := by
  refine F.ok scAB (fun vs H Q E h => ?_) (fun cdv A outer s H vs Q E hr h => ?_)
  · obtain ⟨v, k, rfl, _⟩ := h
    rfl
  · have nd := scAB.nd
    refine ⟨_, (pss_cons (ps_if (pt_not (pt_val (pe_callB call_isiT (by rfl) T.isinstance (by decide +kernel) (pa_cons (pv 0) (pa_cons (pe_tup (pa_cons (pe_bltn (v := .ty "list") (u := .type "list") (by rfl) T.list (by decide +kernel) rfl) (pa_cons (pe_bltn (v := .ty "tuple") (u := .type "tuple") (by rfl) T.tuple (by decide +kernel) rfl) pa_nil))) pa_nil))))) (pss_one (ps_ret pe_bl)) pss_nil)
      (pss_one (ps_ret (pe_cmpR (op_eqD hr.units) (pe_lc (own := [("_law_bar", 1)]) (g := (gName 1))  rfl nd (pi_list (pv 0))
          (blkOk_by (N := nAB) (sc := defScope sLwAreBars) (by decide +kernel)) (fun _ _ _ _ _ => (pg_name (i := 1) nd rfl (Or.inl rfl))) (fun _ _ _ _ _ => (pts_one (PW.pt (pw_or (pt_not (pt_val (pe_callB (r := rIsi K) call_isi (by rfl) T.isinstance (by decide +kernel) (pa_cons (pv 1) (pa_cons (pe_bltn (v := .ty "int") (u := .type "int") (by rfl) T.int (by decide +kernel) rfl) pa_nil))))) (pw_or1 (pt_val (pe_callB (r := rIsi K) call_isi (by rfl) T.isinstance (by decide +kernel) (pa_cons (pv 1) (pa_cons (pe_bltn (v := .ty "bool") (u := .type "bool") (by rfl) T.bool (by decide +kernel) rfl) pa_nil))))))))) (fun _ _ _ _ _ => (pv 1))) (pe_lst pa_nil) (nomark _))))), ?_⟩
    obtain ⟨v, k, rfl, ⟨ty, hk⟩, k1, k2, q⟩ := h
    refine ⟨_, rfl, (by show 2 ≤ sizeLine; decide), fun p hp => ?_⟩
    have s1 : Same H (upd H p (.tup [.ty "list", .ty "tuple"])) := (Same.refl H).new hp
    refine ⟨v, p, [.ty "list", .ty "tuple"], _, _, _, rfl, upd_same, .cons (.ty _) (.cons (.ty _) .nil), tyx_same ty s1, kit_lt hk, _, rfl, ?_⟩
    rw [decide_eq_false (fun z => z.elim k1 k2)]
    exact iteT (q _ s1)
theorem ok_abL {f : Addr} {fd : FuncData} (F : Fun K "_law_are_bars" "_law_are_bars" sLwAreBars f fd) (T : Bi mg) : FnOk P w K mg base CX0 1 f fd ["_law_value"] (spABL K) := by
  refine F.ok scAB (fun vs H Q E h => ?_) (fun cdv A outer s H vs Q E hr h => ?_)
  · obtain ⟨a, xs, kf, df, rfl, _⟩ := h
    rfl
  · have nd := scAB.nd
    refine ⟨_, (pss_cons (ps_if (pt_not (pt_val (pe_callB call_isiT (by rfl) T.isinstance (by decide +kernel) (pa_cons (pv 0) (pa_cons (pe_tup (pa_cons (pe_bltn (v := .ty "list") (u := .type "list") (by rfl) T.list (by decide +kernel) rfl) (pa_cons (pe_bltn (v := .ty "tuple") (u := .type "tuple") (by rfl) T.tuple (by decide +kernel) rfl) pa_nil))) pa_nil))))) (pss_one (ps_ret pe_bl)) pss_nil)
      (pss_one (ps_ret (pe_cmpR (op_eqD hr.units) (pe_lc (own := [("_law_bar", 1)]) (g := (gName 1))  rfl nd (pi_list (pv 0))
          (blkOk_by (N := nAB) (sc := defScope sLwAreBars) (by decide +kernel)) (fun _ _ _ _ _ => (pg_name (i := 1) nd rfl (Or.inl rfl))) (fun _ _ _ _ _ => (pts_one (PW.pt (pw_or (pt_not (pt_val (pe_callB (r := rIsi K) call_isi (by rfl) T.isinstance (by decide +kernel) (pa_cons (pv 1) (pa_cons (pe_bltn (v := .ty "int") (u := .type "int") (by rfl) T.int (by decide +kernel) rfl) pa_nil))))) (pw_or1 (pt_val (pe_callB (r := rIsi K) call_isi (by rfl) T.isinstance (by decide +kernel) (pa_cons (pv 1) (pa_cons (pe_bltn (v := .ty "bool") (u := .type "bool") (by rfl) T.bool (by decide +kernel) rfl) pa_nil))))))))) (fun _ _ _ _ _ => (pv 1))) (pe_lst pa_nil) (nomark _))))), ?_⟩
    obtain ⟨a, xs, kf, df, rfl, ha, hl, els, q⟩ := h
    refine ⟨_, rfl, (by show 2 ≤ sizeLine; decide), fun p hp => ?_⟩
    have s1 : Same H (upd H p (.tup [.ty "list", .ty "tuple"])) := (Same.refl H).new hp
    refine ⟨.ref a, p, [.ty "list", .ty "tuple"], .type "list", _, _, rfl, upd_same, .cons (.ty _) (.cons (.ty _) .nil), .base (.lst (s1 _ _ ha)), kit_lt (by decide), _, rfl, iteF ?_⟩
    generalize upd H p (.tup [.ty "list", .ty "tuple"]) = H1 at s1 ⊢
    have ha1 := s1 _ _ ha
    refine ⟨_, rfl, a, rfl, ⟨_, SqL.of ha1⟩, fun D nD => ?_⟩
    refine lc_list (K := K) (a := a) (xs := xs) (fun i H' => Same H1 H' ∧ H' D = some (.lst ((xs.take i).filter fun x => !decide (kf x = "int")))) ⟨(Same.refl H1).new nD, upd_same⟩ (fun i H' _ z => SqL.of (z.1 _ _ ha1)) ?_ ?_
    · rintro i x H' hx ⟨s2, h2⟩
      have hil : i < xs.length := (List.getElem?_eq_some_iff.mp hx).1
      have el := ((els x (List.mem_of_getElem? hx)).same s1).same s2
      obtain ⟨ty, hk⟩ := El.knd (K := K) el
      have fl : ((xs.take i).filter fun x => !decide (kf x = "int")).length < sizeLine := by
        have := List.length_filter_le (fun x => !decide (kf x = "int")) (xs.take i)
        rw [List.length_take] at this
        exact sm (by omega)
      rw [← take_snoc hx, List.filter_append]
      refine ⟨rfl, _, rfl, x, .ty "int", _, _, _, rfl, .ty _, ty, kit_ty (kit_int _ hk), _, rfl, ?_⟩
      by_cases c : kf x = "int"
      · rw [decide_eq_true (Or.inl c)]
        refine iteF ?_
        refine ⟨_, rfl, x, .ty "bool", _, _, _, rfl, .ty _, ty, kit_ty (kit_bool _ hk), _, rfl, ?_⟩
        rw [decide_eq_false (show ¬ kf x = "bool" by rw [c]; decide)]
        refine iteF ⟨s2, ?_⟩
        rw [h2]
        simp [List.filter, c]
      · by_cases c2 : kf x = "bool"
        · rw [decide_eq_true (Or.inr c2)]
          refine iteF ?_
          refine ⟨_, rfl, x, .ty "bool", _, _, _, rfl, .ty _, ty, kit_ty (kit_bool _ hk), _, rfl, ?_⟩
          rw [decide_eq_true c2]
          refine iteT ⟨_, rfl, _, h2, fl, s2.mut nD, ?_⟩
          rw [upd_same]
          simp [List.filter, c]
        · rw [decide_eq_false (fun z => z.elim c c2)]
          refine iteT ⟨_, rfl, _, h2, fl, s2.mut nD, ?_⟩
          rw [upd_same]
          simp [List.filter, c]
    rintro H2 ⟨s2, h2⟩
    rw [List.take_length] at h2
    refine ⟨(by decide), fun e ne => ?_⟩
    have s3 : Same H2 (upd H2 e (.lst [])) := (Same.refl H2).new ne
    have els2 : Els (upd H2 e (.lst [])) (xs.filter fun x => !decide (kf x = "int")) kf df := fun x hx => (((els x (List.mem_filter.mp hx).1).same s1).same s2).same s3
    obtain ⟨d1, d2, d3⟩ := els_data (K := K) els2
    refine ⟨_, _, .lst (SqL.of (s3 _ _ h2)) d1, .lst (SqL.of upd_same) .nil, ?_, rfl, ?_⟩
    · simp [SeqAt.shaped, PyData.canLay0, PyData.depth, d2]
      omega
    rw [eqv_nil', filt_allD]
    exact q _ ((s1.trans s2).trans s3)
theorem ok_abT {f : Addr} {fd : FuncData} (F : Fun K "_law_are_bars" "_law_are_bars" sLwAreBars f fd) (T : Bi mg) : FnOk P w K mg base CX0 1 f fd ["_law_value"] (spABT K) := by
  refine F.ok scAB (fun vs H Q E h => ?_) (fun cdv A outer s H vs Q E hr h => ?_)
  · obtain ⟨a, xs, kf, df, rfl, _⟩ := h
    rfl
  · have nd := scAB.nd
    refine ⟨_, (pss_cons (ps_if (pt_not (pt_val (pe_callB call_isiT (by rfl) T.isinstance (by decide +kernel) (pa_cons (pv 0) (pa_cons (pe_tup (pa_cons (pe_bltn (v := .ty "list") (u := .type "list") (by rfl) T.list (by decide +kernel) rfl) (pa_cons (pe_bltn (v := .ty "tuple") (u := .type "tuple") (by rfl) T.tuple (by decide +kernel) rfl) pa_nil))) pa_nil))))) (pss_one (ps_ret pe_bl)) pss_nil)
      (pss_one (ps_ret (pe_cmpR (op_eqD hr.units) (pe_lc (own := [("_law_bar", 1)]) (g := (gName 1))  rfl nd (pi_tup (pv 0))
          (blkOk_by (N := nAB) (sc := defScope sLwAreBars) (by decide +kernel)) (fun _ _ _ _ _ => (pg_name (i := 1) nd rfl (Or.inl rfl))) (fun _ _ _ _ _ => (pts_one (PW.pt (pw_or (pt_not (pt_val (pe_callB (r := rIsi K) call_isi (by rfl) T.isinstance (by decide +kernel) (pa_cons (pv 1) (pa_cons (pe_bltn (v := .ty "int") (u := .type "int") (by rfl) T.int (by decide +kernel) rfl) pa_nil))))) (pw_or1 (pt_val (pe_callB (r := rIsi K) call_isi (by rfl) T.isinstance (by decide +kernel) (pa_cons (pv 1) (pa_cons (pe_bltn (v := .ty "bool") (u := .type "bool") (by rfl) T.bool (by decide +kernel) rfl) pa_nil))))))))) (fun _ _ _ _ _ => (pv 1))) (pe_lst pa_nil) (nomark _))))), ?_⟩
    obtain ⟨a, xs, kf, df, rfl, ha, hl, els, q⟩ := h
    refine ⟨_, rfl, (by show 2 ≤ sizeLine; decide), fun p hp => ?_⟩
    have s1 : Same H (upd H p (.tup [.ty "list", .ty "tuple"])) := (Same.refl H).new hp
    refine ⟨.ref a, p, [.ty "list", .ty "tuple"], .type "tuple", _, _, rfl, upd_same, .cons (.ty _) (.cons (.ty _) .nil), .base (.tup (s1 _ _ ha)), kit_lt (by decide), _, rfl, iteF ?_⟩
    generalize upd H p (.tup [.ty "list", .ty "tuple"]) = H1 at s1 ⊢
    have ha1 := s1 _ _ ha
    refine ⟨_, rfl, a, rfl, ⟨_, .inl (.inl ha1)⟩, fun D nD => ?_⟩
    refine lc_tup (K := K) (a := a) (xs := xs) (fun i H' => Same H1 H' ∧ H' D = some (.lst ((xs.take i).filter fun x => !decide (kf x = "int")))) ⟨(Same.refl H1).new nD, upd_same⟩ (fun i H' _ z => .inl (.inl (z.1 _ _ ha1))) ?_ ?_
    · rintro i x H' hx ⟨s2, h2⟩
      have hil : i < xs.length := (List.getElem?_eq_some_iff.mp hx).1
      have el := ((els x (List.mem_of_getElem? hx)).same s1).same s2
      obtain ⟨ty, hk⟩ := El.knd (K := K) el
      have fl : ((xs.take i).filter fun x => !decide (kf x = "int")).length < sizeLine := by
        have := List.length_filter_le (fun x => !decide (kf x = "int")) (xs.take i)
        rw [List.length_take] at this
        exact sm (by omega)
      rw [← take_snoc hx, List.filter_append]
      refine ⟨rfl, _, rfl, x, .ty "int", _, _, _, rfl, .ty _, ty, kit_ty (kit_int _ hk), _, rfl, ?_⟩
      by_cases c : kf x = "int"
      · rw [decide_eq_true (Or.inl c)]
        refine iteF ?_
        refine ⟨_, rfl, x, .ty "bool", _, _, _, rfl, .ty _, ty, kit_ty (kit_bool _ hk), _, rfl, ?_⟩
        rw [decide_eq_false (show ¬ kf x = "bool" by rw [c]; decide)]
        refine iteF ⟨s2, ?_⟩
        rw [h2]
        simp [List.filter, c]
      · by_cases c2 : kf x = "bool"
        · rw [decide_eq_true (Or.inr c2)]
          refine iteF ?_
          refine ⟨_, rfl, x, .ty "bool", _, _, _, rfl, .ty _, ty, kit_ty (kit_bool _ hk), _, rfl, ?_⟩
          rw [decide_eq_true c2]
          refine iteT ⟨_, rfl, _, h2, fl, s2.mut nD, ?_⟩
          rw [upd_same]
          simp [List.filter, c]
        · rw [decide_eq_false (fun z => z.elim c c2)]
          refine iteT ⟨_, rfl, _, h2, fl, s2.mut nD, ?_⟩
          rw [upd_same]
          simp [List.filter, c]
    rintro H2 ⟨s2, h2⟩
    rw [List.take_length] at h2
    refine ⟨(by decide), fun e ne => ?_⟩
    have s3 : Same H2 (upd H2 e (.lst [])) := (Same.refl H2).new ne
    have els2 : Els (upd H2 e (.lst [])) (xs.filter fun x => !decide (kf x = "int")) kf df := fun x hx => (((els x (List.mem_filter.mp hx).1).same s1).same s2).same s3
    obtain ⟨d1, d2, d3⟩ := els_data (K := K) els2
    refine ⟨_, _, .lst (SqL.of (s3 _ _ h2)) d1, .lst (SqL.of upd_same) .nil, ?_, rfl, ?_⟩
    · simp [SeqAt.shaped, PyData.canLay0, PyData.depth, d2]
      omega
    rw [eqv_nil', filt_allD]
    exact q _ ((s1.trans s2).trans s3)
end
end K
namespace K
open PySem L2 Rg
open Evl (pss_cut)
section
variable {P : Program} {w : World} {K : PySem.W.Frag} {mg : Str → Option Value} {base : Heap}
/-! ### the law: is_round -/
def spLRO (K : PySem.W.Frag) : Sp := fun vs H Q _ => ∃ (l v : V) (k : String), vs = [l, v] ∧ Knd K H v k ∧ k ≠ "list" ∧ k ≠ "tuple" ∧ ∀ H', Same H H' → Q (.bl false) H'
def spLRL (K : PySem.W.Frag) : Sp := fun vs H Q _ => ∃ (l a : Addr) (ls : List Int) (xs : List V) (kf : V → String) (df : V → PyData) (b : Bool), vs = [.ref l, .ref a] ∧ SqL K H l (ls.map V.int) ∧ 1 ≤ ls.length ∧ ls.length ≤ 8 ∧ H a = some (.lst xs) ∧ xs.length ≤ 1000 ∧ Els H xs kf df ∧
  (((xs.all fun x => decide (kf x = "int")) = false ∧ b = false) ∨ ∃ ns : List Int, xs = ns.map V.int ∧ (xs.all fun x => decide (kf x = "int")) = true ∧ b = rdB ls.length ns) ∧ ∀ H', Same H H' → Q (.bl b) H'
def spLRT (K : PySem.W.Frag) : Sp := fun vs H Q _ => ∃ (l a : Addr) (ls : List Int) (xs : List V) (kf : V → String) (df : V → PyData) (b : Bool), vs = [.ref l, .ref a] ∧ SqL K H l (ls.map V.int) ∧ 1 ≤ ls.length ∧ ls.length ≤ 8 ∧ H a = some (.tup xs) ∧ xs.length ≤ 1000 ∧ Els H xs kf df ∧
  (((xs.all fun x => decide (kf x = "int")) = false ∧ b = false) ∨ ∃ ns : List Int, xs = ns.map V.int ∧ (xs.all fun x => decide (kf x = "int")) = true ∧ b = rdB ls.length ns) ∧ ∀ H', Same H H' → Q (.bl b) H'
abbrev nLR : List Str := ["_law_lengths_here", "_law_value"]
theorem scLR : FnScope nLR ["_law_lengths_here", "_law_value"] (defScope sLwIsRound) := ⟨rfl, rfl, rfl, by decide +kernel, rfl, by decide +kernel, by decide +kernel⟩
theorem ok_lrO {f fB : Addr} {fd fdB : FuncData} (F : Fun K "_law_is_round" "_law_is_round" sLwIsRound f fd) (T : Bi mg) (LB : DefAt P w K mg base CX0 1 "_law_are_bars" ["_law_value"] (spABO K) fB fdB) : FnOk P w K mg base CX0 2 f fd ["_law_lengths_here", "_law_value"] (spLRO K) := by
  refine F.ok scLR (fun vs H Q E h => ?_) (fun cdv A outer s H vs Q E hr h => ?_)
  · obtain ⟨l, v, k, rfl, _⟩ := h
    rfl
  · have nd := scLR.nd
    refine ⟨_, (pss_one (ps_ret (pe_and (pe_call LB.ok (hr.mono (by decide)) rfl LB.g LB.kp LB.b .nil pass0 (pa_cons (pv 1) pa_nil)) (pe_and (pe_cmpR (op_eqD hr.units) (pe_callB cr_sortedI (by rfl) T.sorted (by decide +kernel) (pa_cons (pv 1) pa_nil)) (pe_listRg rfl (by rfl) T.list (prg_1 (by rfl) T.range (pe_callB (r := rLenS K) call_len_seq (by rfl) T.len PySem.boot_len (pa_cons (pv 0) pa_nil)))) (nomark _)) (pe_one (pe_cmpR op_eq (pe_ix (r := rIxL K) ix_list (pv 1) pe_int (fun _ _ => rfl)) pe_int (nomark _))))))), ?_⟩
    obtain ⟨l, v, k, rfl, hk, k1, k2, q⟩ := h
    exact ⟨_, rfl, v, k, rfl, hk, k1, k2, fun H' s1 => ⟨_, rfl, iteF (q H' s1)⟩⟩
theorem ok_lrL {f fB : Addr} {fd fdB : FuncData} (F : Fun K "_law_is_round" "_law_is_round" sLwIsRound f fd) (T : Bi mg) (LB : DefAt P w K mg base CX0 1 "_law_are_bars" ["_law_value"] (spABL K) fB fdB) : FnOk P w K mg base CX0 2 f fd ["_law_lengths_here", "_law_value"] (spLRL K) := by
  refine F.ok scLR (fun vs H Q E h => ?_) (fun cdv A outer s H vs Q E hr h => ?_)
  · obtain ⟨l, a, ls, xs, kf, df, b, rfl, _⟩ := h
    rfl
  · have nd := scLR.nd
    refine ⟨_, (pss_one (ps_ret (pe_and (pe_call LB.ok (hr.mono (by decide)) rfl LB.g LB.kp LB.b .nil pass0 (pa_cons (pv 1) pa_nil)) (pe_and (pe_cmpR (op_eqD hr.units) (pe_callB cr_sortedI (by rfl) T.sorted (by decide +kernel) (pa_cons (pv 1) pa_nil)) (pe_listRg rfl (by rfl) T.list (prg_1 (by rfl) T.range (pe_callB (r := rLenS K) call_len_seq (by rfl) T.len PySem.boot_len (pa_cons (pv 0) pa_nil)))) (nomark _)) (pe_one (pe_cmpR op_eq (pe_ix (r := rIxL K) ix_list (pv 1) pe_int (fun _ _ => rfl)) pe_int (nomark _))))))), ?_⟩
    obtain ⟨l, a, ls, xs, kf, df, b, rfl, hl, l1, l8, ha, x8, els, hb, q⟩ := h
    refine ⟨_, rfl, a, xs, kf, df, rfl, ha, x8, els, fun H1 s1 => ⟨_, rfl, ?_⟩⟩
    rcases hb with ⟨e, rfl⟩ | ⟨ns, rfl, e, rfl⟩
    · rw [e]
      exact iteF (q H1 s1)
    rw [e]
    refine iteT ?_
    have ha1 := s1 _ _ ha
    refine ⟨_, rfl, a, ns, rfl, SqL.of ha1, fun ms p pm od np => ?_⟩
    have s2 : Same H1 (upd H1 p (.lst (ms.map V.int))) := (Same.refl H1).new np
    have hp : upd H1 p (.lst (ms.map V.int)) p = some (.lst (ms.map V.int)) := upd_same
    generalize upd H1 p (.lst (ms.map V.int)) = H2 at s2 hp ⊢
    refine ⟨_, rfl, l, _, rfl, .inl ((s1.trans s2).seq hl), ?_⟩
    rw [List.length_map]
    refine ⟨_, rfl, RgOk.of_le (by omega) (by omega) (by omega) (by omega), fun c nc => ?_⟩
    rw [rg_nat]
    have s3 : Same H2 (upd H2 c (.lst ((natB (List.range ls.length)).map V.int))) := (Same.refl H2).new nc
    have hc : upd H2 c (.lst ((natB (List.range ls.length)).map V.int)) c = some (.lst ((natB (List.range ls.length)).map V.int)) := upd_same
    generalize upd H2 c (.lst ((natB (List.range ls.length)).map V.int)) = H3 at s3 hc ⊢
    refine ⟨_, _, .lst (SqL.of (s3 _ _ hp)) (dp_ints _), .lst (SqL.of hc) (dp_ints _), shaped_ints _, shaped_ints _, _, rfl, ?_⟩
    rw [eqvA_pd, show natB (List.range ls.length) = rgN ls.length from rfl, rd_sorted pm od]
    have s13 := (s1.trans s2).trans s3
    have qq := q H3 s13
    unfold rdB at qq
    by_cases c : ns.Perm (rgN ls.length)
    · rw [decide_eq_true c] at qq ⊢
      rw [Bool.true_and] at qq
      refine iteT ?_
      have nl : ns.length = ls.length := by rw [c.length_eq, rgN_len]
      have h0 : ns[0]? = some (ns[0]'(by omega)) := List.getElem?_eq_getElem (by omega)
      refine ⟨_, rfl, a, _, _, _, rfl, rfl, SqL.of (s13 _ _ ha), getL (i := 0) rfl (by omega), ?_⟩
      refine ⟨rfl, ?_⟩
      have e0 : ns.getD 0 0 = ns[0]'(by omega) := by rw [List.getD_eq_getElem?_getD, h0]; rfl
      rw [h0] at qq
      rw [dec_int, e0]
      have e1 : decide (some (ns[0]'(by omega)) = some (0 : Int)) = decide (ns[0]'(by omega) = 0) := by simp
      rw [e1] at qq
      exact qq
    · rw [decide_eq_false c] at qq ⊢
      exact iteF qq
theorem ok_lrT {f fB : Addr} {fd fdB : FuncData} (F : Fun K "_law_is_round" "_law_is_round" sLwIsRound f fd) (T : Bi mg) (LB : DefAt P w K mg base CX0 1 "_law_are_bars" ["_law_value"] (spABT K) fB fdB) : FnOk P w K mg base CX0 2 f fd ["_law_lengths_here", "_law_value"] (spLRT K) := by
  refine F.ok scLR (fun vs H Q E h => ?_) (fun cdv A outer s H vs Q E hr h => ?_)
  · obtain ⟨l, a, ls, xs, kf, df, b, rfl, _⟩ := h
    rfl
  · have nd := scLR.nd
    refine ⟨_, (pss_one (ps_ret (pe_and (pe_call LB.ok (hr.mono (by decide)) rfl LB.g LB.kp LB.b .nil pass0 (pa_cons (pv 1) pa_nil)) (pe_and (pe_cmpR (op_eqD hr.units) (pe_callB cr_sortedT (by rfl) T.sorted (by decide +kernel) (pa_cons (pv 1) pa_nil)) (pe_listRg rfl (by rfl) T.list (prg_1 (by rfl) T.range (pe_callB (r := rLenS K) call_len_seq (by rfl) T.len PySem.boot_len (pa_cons (pv 0) pa_nil)))) (nomark _)) (pe_one (pe_cmpR op_eq (pe_ix (r := rIxT K) ix_tup (pv 1) pe_int (fun _ _ => rfl)) pe_int (nomark _))))))), ?_⟩
    obtain ⟨l, a, ls, xs, kf, df, b, rfl, hl, l1, l8, ha, x8, els, hb, q⟩ := h
    refine ⟨_, rfl, a, xs, kf, df, rfl, ha, x8, els, fun H1 s1 => ⟨_, rfl, ?_⟩⟩
    rcases hb with ⟨e, rfl⟩ | ⟨ns, rfl, e, rfl⟩
    · rw [e]
      exact iteF (q H1 s1)
    rw [e]
    refine iteT ?_
    have ha1 := s1 _ _ ha
    refine ⟨_, rfl, a, ns, rfl, .inl (.inl ha1), fun ms p pm od np => ?_⟩
    have s2 : Same H1 (upd H1 p (.lst (ms.map V.int))) := (Same.refl H1).new np
    have hp : upd H1 p (.lst (ms.map V.int)) p = some (.lst (ms.map V.int)) := upd_same
    generalize upd H1 p (.lst (ms.map V.int)) = H2 at s2 hp ⊢
    refine ⟨_, rfl, l, _, rfl, .inl ((s1.trans s2).seq hl), ?_⟩
    rw [List.length_map]
    refine ⟨_, rfl, RgOk.of_le (by omega) (by omega) (by omega) (by omega), fun c nc => ?_⟩
    rw [rg_nat]
    have s3 : Same H2 (upd H2 c (.lst ((natB (List.range ls.length)).map V.int))) := (Same.refl H2).new nc
    have hc : upd H2 c (.lst ((natB (List.range ls.length)).map V.int)) c = some (.lst ((natB (List.range ls.length)).map V.int)) := upd_same
    generalize upd H2 c (.lst ((natB (List.range ls.length)).map V.int)) = H3 at s3 hc ⊢
    refine ⟨_, _, .lst (SqL.of (s3 _ _ hp)) (dp_ints _), .lst (SqL.of hc) (dp_ints _), shaped_ints _, shaped_ints _, _, rfl, ?_⟩
    rw [eqvA_pd, show natB (List.range ls.length) = rgN ls.length from rfl, rd_sorted pm od]
    have s13 := (s1.trans s2).trans s3
    have qq := q H3 s13
    unfold rdB at qq
    by_cases c : ns.Perm (rgN ls.length)
    · rw [decide_eq_true c] at qq ⊢
      rw [Bool.true_and] at qq
      refine iteT ?_
      have nl : ns.length = ls.length := by rw [c.length_eq, rgN_len]
      have h0 : ns[0]? = some (ns[0]'(by omega)) := List.getElem?_eq_getElem (by omega)
      refine ⟨_, rfl, a, _, _, _, rfl, rfl, .inl (.inl (s13 _ _ ha)), getL (i := 0) rfl (by omega), ?_⟩
      refine ⟨rfl, ?_⟩
      have e0 : ns.getD 0 0 = ns[0]'(by omega) := by rw [List.getD_eq_getElem?_getD, h0]; rfl
      rw [h0] at qq
      rw [dec_int, e0]
      have e1 : decide (some (ns[0]'(by omega)) = some (0 : Int)) = decide (ns[0]'(by omega) = 0) := by simp
      rw [e1] at qq
      exact qq
    · rw [decide_eq_false c] at qq ⊢
      exact iteF qq
def spLR (K : PySem.W.Frag) : Sp := fun vs H Q _ => ∃ (l : Addr) (v : V) (ls : List Int) (b : Bool), vs = [.ref l, v] ∧ SqL K H l (ls.map V.int) ∧ 1 ≤ ls.length ∧ ls.length ≤ 8 ∧ EV K H ls.length v b ∧ ∀ H', Same H H' → Q (.bl b) H'
theorem ok_lr {f : Addr} {fd : FuncData} (F1 : FnOk P w K mg base CX0 2 f fd ["_law_lengths_here", "_law_value"] (spLRO K)) (F2 : FnOk P w K mg base CX0 2 f fd ["_law_lengths_here", "_law_value"] (spLRL K)) (F3 : FnOk P w K mg base CX0 2 f fd ["_law_lengths_here", "_law_value"] (spLRT K)) : FnOk P w K mg base CX0 2 f fd ["_law_lengths_here", "_law_value"] (spLR K) := by
  refine (fn_or F1 (fn_or F2 F3)).imp fun vs H Q E h => ?_
  obtain ⟨l, v, ls, b, rfl, hl, l1, l8, ev, q⟩ := h
  rcases ev with ⟨k, h1, h2, h3, rfl⟩ | ⟨a, xs, kf, df, rfl, z | z, x8, els, hb⟩
  · exact .inl ⟨_, v, k, rfl, h1, h2, h3, q⟩
  · exact .inr (.inl ⟨l, a, ls, xs, kf, df, b, rfl, hl, l1, l8, z, x8, els, hb, q⟩)
  · exact .inr (.inr ⟨l, a, ls, xs, kf, df, b, rfl, hl, l1, l8, z, x8, els, hb, q⟩)
/-! ### a round bent -/
def kfA (v : V) : String := match v with
  | .int _ => "int"
  | .bl _ => "bool"
  | .non => "NoneType"
  | .str _ => "str"
  | _ => "list"
def dfA (H : Hp) (v : V) : PyData := match v with
  | .int i => .int i
  | .bl b => .bool b
  | .non => .none
  | .str z => .str z
  | .ref a => (match H a with
    | some (.lst [.int i]) => .list [.int i]
    | _ => .none)
  | _ => .none
def EO (H : Hp) (x : V) : Prop := ∃ k d, El H x k d
theorem els_of {H : Hp} {xs : List V} (h : ∀ x ∈ xs, EO H x) : Els H xs kfA (dfA H) := fun x hx => by
  obtain ⟨k, d, e⟩ := h x hx
  cases e with
  | int i => exact .int i
  | bl b => exact .bl b
  | non => exact .non
  | str z hz => exact .str z hz
  | lst a i e =>
    have d : dfA H (.ref a) = .list [.int i] := by
      show (match H a with
        | some (.lst [.int i]) => PyData.list [.int i]
        | _ => .none) = _
      rw [e]
    rw [d]
    exact .lst a i e
theorem eo_ints {H : Hp} {ns : List Int} : ∀ x ∈ ns.map V.int, EO H x := fun x hx => by
  obtain ⟨i, _, rfl⟩ := List.mem_map.mp hx
  exact ⟨_, _, .int i⟩
theorem EO.same {H H' : Hp} {x : V} (h : EO H x) (s : Same H H') : EO H' x := let ⟨k, d, e⟩ := h; ⟨k, d, e.same s⟩
theorem ev_lst {H : Hp} {n : Nat} {a : Addr} {xs : List V} (h : H a = some (.lst xs)) (hl : xs.length ≤ 1000) (e : ∀ x ∈ xs, EO H x) : ∃ b, EV K H n (.ref a) b := EV.of (.inl h) hl (els_of e)
theorem ev_tup {H : Hp} {n : Nat} {a : Addr} {xs : List V} (h : H a = some (.tup xs)) (hl : xs.length ≤ 1000) (e : ∀ x ∈ xs, EO H x) : ∃ b, EV K H n (.ref a) b := EV.of (.inr h) hl (els_of e)
theorem ix_m1 {n k : Nat} (h : k < n) : ∃ j, ixN n ((k : Int) - 1) = some j ∧ j < n := by
  unfold ixN
  cases k with
  | zero =>
    refine ⟨n - 1, ?_, by omega⟩
    rw [if_neg (by omega), if_pos (by omega)]
    congr 1
    omega
  | succ k =>
    refine ⟨k, ?_, by omega⟩
    rw [if_pos (by omega), if_pos (by omega)]
    congr 1
    omega
theorem at_m1 {xs : List V} {k : Nat} (h : k < xs.length) : ∃ j, ∃ hj : j < xs.length, ixN xs.length ((k : Int) - 1) = some j ∧ atI xs ((k : Int) - 1) = some xs[j] := by
  obtain ⟨j, e, hj⟩ := ix_m1 h
  refine ⟨j, hj, e, ?_⟩
  unfold atI
  rw [e]
  exact List.getElem?_eq_getElem hj
def spBN (K : PySem.W.Frag) : Sp := fun vs H Q _ => ∃ (p a : Addr) (e : Addr × List Int) (one : List Int) (n : Nat), vs = [.ref p, .ref a] ∧ H a = some (.tup (one.map V.int)) ∧ a ≠ p ∧ 3 ≤ one.length ∧ one.length ≤ 8 ∧ n < 800000 ∧ PenAt K H p e n ∧
  ∀ v H', (∃ b, EV K H' one.length v b) → But p H H' → PenAt K H' p e (n + 5) → Q v H'
abbrev nBN : List Str := ["_law_can_here", "_law_one", "_law_bars", "_law_way", "_law_at"]
theorem scBN : FnScope nBN ["_law_can_here", "_law_one"] (defScope sLwBent) := ⟨rfl, rfl, rfl, by decide +kernel, rfl, by decide +kernel, by decide +kernel⟩
theorem ok_bn {f fD fP : Addr} {fd fdD fdP : FuncData} (F : Fun K "_law_bent" "_law_bent" sLwBent f fd) (T : Bi mg) (D : DrawAt P w K mg base fD fdD) (PK : DefAt P w K mg base CX0 3 "_law_take" ["_law_can_here", "_law_some"] (spPick K) fP fdP) : FnOk P w K mg base CX0 4 f fd ["_law_can_here", "_law_one"] (spBN K) := by
  refine F.ok scBN (fun vs H Q E h => ?_) (fun cdv A outer s H vs Q E hr h => ?_)
  · obtain ⟨p, a, e, one, n, rfl, _⟩ := h
    rfl
  · have nd := scBN.nd
    refine ⟨_, (pss_cons (ps_par3 (i := 2) (j := 3) (l := 4) (by rfl) nd rfl rfl rfl (by decide) (by decide) (by decide) rfl rfl rfl (pa_cons (pe_callTy call_list_of (by rfl) T.list (by decide +kernel) (pa_cons (pv 1) pa_nil)) (pa_cons (pe_call D.ok (hr.mono (by decide)) rfl D.g D.kp D.b .nil pass0 (pa_cons (pv 0) (pa_cons pe_int pa_nil))) (pa_cons (pe_call D.ok (hr.mono (by decide)) rfl D.g D.kp D.b .nil pass0 (pa_cons (pv 0) (pa_cons (pe_callB (r := rLenS K) call_len_seq (by rfl) T.len PySem.boot_len (pa_cons (pv 1) pa_nil)) pa_nil))) pa_nil))) (by rfl))
      (pss_cons (ps_if (pt_cmpR op_eq (pv 3) pe_int (nomark _)) (pss_one (ps_ret (pe_op op_cat (pe_slice sl_list (pv 2) (po_some (pv 4)) po_none) (pe_slice sl_list (pv 2) po_none (po_some (pv 4)))))) pss_nil)
      (pss_cut (ps_if (pt_cmpR op_eq (pv 3) pe_int (nomark _)) (pss_one (ps_expr (pe_bm PySem.F.plainAttrs_list PySem.F.slot_list_pop PySem.F.type_list_pop mt_popAt (pv 2) (pa_cons (pv 4) pa_nil)))) (pss_one (ps_if (pt_cmpR op_eq (pv 3) pe_int (nomark _)) (pss_one (ps_expr (pe_bm PySem.F.plainAttrs_list PySem.F.slot_list_insert PySem.F.type_list_insert mt_insert (pv 2) (pa_cons (pv 4) (pa_cons (pe_call D.ok (hr.mono (by decide)) rfl D.g D.kp D.b .nil pass0 (pa_cons (pv 0) (pa_cons (pe_op op_add (pe_callB (r := rLenS K) call_len_seq (by rfl) T.len PySem.boot_len (pa_cons (pv 1) pa_nil)) pe_int) pa_nil))) pa_nil))))) (pss_one (ps_if (pt_cmpR op_eq (pv 3) pe_int (nomark _)) (pss_one (ps_asg (pe_call PK.ok (hr.mono (by decide)) rfl PK.g PK.kp PK.b .nil pass0 (pa_cons (pv 0) (pa_cons (pe_lst (pa_cons pe_bl (pa_cons pe_bl (pa_cons pe_non (pa_cons pe_str (pa_cons (pe_un un_neg pe_int) (pa_cons (pe_callB (r := rLenS K) call_len_seq (by rfl) T.len PySem.boot_len (pa_cons (pv 1) pa_nil)) pa_nil))))))) pa_nil))) (pg_sub (pv 2) (pv 4) set_list))) (pss_one (ps_if (pt_cmpR op_eq (pv 3) pe_int (nomark _)) (pss_one (ps_ret (pe_call PK.ok (hr.mono (by decide)) rfl PK.g PK.kp PK.b .nil pass0 (pa_cons (pv 0) (pa_cons (pe_lst (pa_cons pe_non (pa_cons pe_int (pa_cons pe_str (pa_cons pe_dnewK (pa_cons (pe_tup pa_nil) (pa_cons (pe_lst (pa_cons (pe_lst (pa_cons pe_int pa_nil)) (pa_cons (pe_lst (pa_cons pe_int pa_nil)) (pa_cons (pe_lst (pa_cons pe_int pa_nil)) pa_nil)))) (pa_cons (pe_op op_cat (pv 2) (pe_lst (pa_cons pe_non pa_nil))) pa_nil)))))))) pa_nil))))) (pss_one (ps_if (pt_cmpR op_eq (pv 3) pe_int (nomark _)) (pss_one (ps_set (i := 2) nd rfl (Or.inl rfl) (pe_revL (pv 2)))) (pss_one (ps_if (pt_cmpR op_eq (pv 3) pe_int (nomark _)) (pss_one (ps_asg (pe_tup (pa_cons (pe_ix (r := rIxL K) ix_list (pv 2) (pe_op op_sub (pv 4) pe_int) (fun _ _ => rfl)) (pa_cons (pe_ix (r := rIxL K) ix_list (pv 2) (pv 4) (fun _ _ => rfl)) pa_nil))) (pg_tup (by rfl) (pgs_cons (pg_sub (pv 2) (pv 4) set_list) (pgs_cons (pg_sub (pv 2) (pe_op op_sub (pv 4) pe_int) set_list) pgs_nil))))) pss_nil)))))))))))
      (pss_one (ps_ret (pe_callTy call_tuple_of (by rfl) T.tuple (by decide +kernel) (pa_cons (pv 2) pa_nil))))))), ?_⟩
    obtain ⟨p, a, e, one, n, rfl, ha, nap, o3, o8, hn, pen, q⟩ := h
    refine ⟨_, rfl, a, _, rfl, .inr (.inl (.inl ha)), fun l nl => ?_⟩
    have nlp := pen.ne nl
    have s1 : Same H (upd H l (.lst (one.map V.int))) := (Same.refl H).new nl
    have hl : upd H l (.lst (one.map V.int)) l = some (.lst (one.map V.int)) := upd_same
    generalize upd H l (.lst (one.map V.int)) = H1 at s1 hl ⊢
    have pen1 := pen.same s1
    refine ⟨_, rfl, p, e, 8, n, rfl, by decide, by decide, by omega, pen1, fun way H2 w0 w1 b2 pen2 => ?_⟩
    have ha2 := b2 _ _ nap (s1 _ _ ha)
    have hl2 := b2 _ _ nlp hl
    refine ⟨_, rfl, _, rfl, a, _, rfl, .inr (.inl (.inl ha2)), p, e, _, _, rfl, by rw [List.length_map]; omega, by rw [List.length_map]; omega, by omega, pen2, fun r H3 r0 r1 b3 pen3 => ?_⟩
    rw [List.length_map] at r1
    obtain ⟨k, rfl⟩ := Int.eq_ofNat_of_zero_le r0
    have hk : k < one.length := by omega
    have ha3 := b3 _ _ nap ha2
    have hl3 := b3 _ _ nlp hl2
    have pen4 := pen3
    have b4 : But p H H3 := ((But.of s1).trans b2).trans b3
    have ha4 := ha3
    have hl4 := hl3
    generalize H3 = H4 at pen4 b4 ha4 hl4 ⊢
    refine ⟨_, _, _, rfl, ?_⟩
    refine ⟨_, rfl, rfl, _, rfl, ?_⟩
    refine ite2 (fun _ => ?_) (fun _ => ?_)
    · -- turned
      refine ⟨_, rfl, _, rfl, _, rfl, l, _, rfl, SqL.of hl4, fun p1 np1 => ?_⟩
      dsimp only [tNoPart]
      rw [cut_from _ rfl, ← List.map_drop]
      have s5 : Same H4 (upd H4 p1 (.lst ((one.drop k).map V.int))) := (Same.refl H4).new np1
      have hp1 : upd H4 p1 (.lst ((one.drop k).map V.int)) p1 = some (.lst ((one.drop k).map V.int)) := upd_same
      generalize upd H4 p1 (.lst ((one.drop k).map V.int)) = H5 at s5 hp1 ⊢
      refine ⟨_, rfl, _, rfl, _, rfl, l, _, rfl, SqL.of (s5 _ _ hl4), fun p2 np2 => ?_⟩
      rw [cutV_to, ← List.map_take]
      have s6 : Same H5 (upd H5 p2 (.lst ((one.take k).map V.int))) := (Same.refl H5).new np2
      have hp2 : upd H5 p2 (.lst ((one.take k).map V.int)) p2 = some (.lst ((one.take k).map V.int)) := upd_same
      generalize upd H5 p2 (.lst ((one.take k).map V.int)) = H6 at s6 hp2 ⊢
      refine ⟨p1, p2, _, _, rfl, rfl, s6 _ _ hp1, hp2, ?_, fun p3 np3 => ?_⟩
      · rw [List.length_map, List.length_map, List.length_drop, List.length_take]
        exact Nat.le_of_lt (sm (by omega))
      rw [← List.map_append]
      have s7 : Same H6 (upd H6 p3 (.lst ((one.drop k ++ one.take k).map V.int))) := (Same.refl H6).new np3
      have hp3 : upd H6 p3 (.lst ((one.drop k ++ one.take k).map V.int)) p3 = some (.lst ((one.drop k ++ one.take k).map V.int)) := upd_same
      generalize upd H6 p3 (.lst ((one.drop k ++ one.take k).map V.int)) = H7 at s7 hp3 ⊢
      have s47 := (s5.trans s6).trans s7
      exact q _ _ (ev_lst hp3 (by rw [List.length_map, List.length_append, List.length_drop, List.length_take]; omega) eo_ints) (b4.trans (But.of s47)) ((pen4.same s47).mono (by omega))
    refine ⟨fun σ' H' => ∃ (u : Addr) (xs : List V) (z3 z4 : Option V), σ' = [some (.ref p), some (.ref a), some (.ref u), z3, z4] ∧ H' u = some (.lst xs) ∧ xs.length ≤ 100 ∧ (∀ x ∈ xs, EO H' x) ∧ But p H H' ∧ PenAt K H' p e (n + 5), ?_, ?_⟩
    · refine ⟨_, rfl, rfl, _, rfl, ?_⟩
      refine ite2 (fun _ => ?_) (fun _ => ?_)
      · -- one less
        refine ⟨_, rfl, .inl ⟨rfl, _, SqL.of hl4⟩, _, rfl, l, one.map V.int, (k : Int), k, .int (one[k]'hk), rfl, rfl, hl4, by omega, by omega, seqIndex_of (by omega) (by rw [List.length_map]; omega), int_get hk, ?_⟩
        refine ⟨l, _, _, _, rfl, upd_same, ?_, fun x hx => ?_, b4.mut nl, ?_⟩
        · rw [List.length_eraseIdx, List.length_map, if_pos (by omega)]; omega
        · obtain ⟨i, _, rfl⟩ := List.mem_map.mp (List.mem_of_mem_eraseIdx hx)
          exact ⟨_, _, .int i⟩
        · exact (pen.mut pen4 b4 nl).mono (by omega)
      refine ⟨_, rfl, rfl, _, rfl, ?_⟩
      refine ite2 (fun _ => ?_) (fun _ => ?_)
      · -- one more
        refine ⟨_, rfl, .inl ⟨rfl, _, SqL.of hl4⟩, _, rfl, _, rfl, _, rfl, a, _, rfl, .inr (.inl (.inl ha4)), _, _, rfl, rfl, p, e, _, _, rfl, by rw [List.length_map]; omega, by rw [List.length_map]; omega, by omega, pen4, fun r H5 r0 r1 b5 pen5 => ?_⟩
        have hl5 := b5 _ _ nlp hl4
        refine ⟨l, _, (k : Int), .int r, rfl, rfl, hl5, (by rw [List.length_map]; exact sm (by omega)), by omega, by omega, ?_⟩
        refine ⟨l, _, _, _, rfl, upd_same, ?_, fun x hx => ?_, (b4.trans b5).mut nl, (pen.mut pen5 (b4.trans b5) nl).mono (by omega)⟩
        · rw [List.length_append, List.length_append, List.length_take, List.length_drop, List.length_map, List.length_singleton]; omega
        · rcases List.mem_append.mp hx with hx | hx
          · rcases List.mem_append.mp hx with hx | hx
            · exact eo_ints x (List.mem_of_mem_take hx)
            · rw [List.mem_singleton.mp hx]; exact ⟨_, _, .int r⟩
          · exact eo_ints x (List.mem_of_mem_drop hx)
      refine ⟨_, rfl, rfl, _, rfl, ?_⟩
      refine ite2 (fun _ => ?_) (fun _ => ?_)
      · -- one else
        refine ⟨_, rfl, _, rfl, _, rfl, a, _, rfl, .inr (.inl (.inl ha4)), (by show 6 ≤ sizeLine; decide), fun u nu => ?_⟩
        have nup := pen4.ne nu
        have hu : ∀ o, upd H4 u o u = some o := fun o => upd_same
        refine ⟨p, u, e, _, _, rfl, SqL.of upd_same, nup, (by show 1 ≤ 6; decide), (by show 6 ≤ 1000; decide), by omega, pen4.put nu, fun i v H5 hv b5 pen5 => ?_⟩
        have b45 : But p H H5 := (b4.trans ((But.refl p H4).new nu)).trans b5
        have hl5 : H5 l = some (.lst (one.map V.int)) := b5 _ _ nlp (by rw [upd_ne (ne_of_none hl4 nu)]; exact hl4)
        refine ⟨_, rfl, _, rfl, l, _, _, k, rfl, rfl, hl5, ixN_at (by omega) (by rw [List.length_map]; omega), ?_⟩
        have nvl : EO (upd H5 l (.lst ((one.map V.int).set k v))) v := by
          have hm := List.mem_of_getElem? hv
          simp only [List.mem_cons, List.not_mem_nil, or_false] at hm
          rcases hm with z | z | z | z | z | z
          · subst z; exact ⟨_, _, .bl _⟩
          · subst z; exact ⟨_, _, .bl _⟩
          · subst z; exact ⟨_, _, .non⟩
          · subst z; exact ⟨_, _, .str _ (by decide +kernel)⟩
          · subst z; exact ⟨_, _, .int _⟩
          · subst z; exact ⟨_, _, .int _⟩
        refine ⟨l, _, _, _, rfl, upd_same, by rw [List.length_set, List.length_map]; omega, fun x hx => ?_, b45.mut nl, (pen.mut pen5 b45 nl).mono (by omega)⟩
        rcases List.mem_or_eq_of_mem_set hx with z | z
        · exact eo_ints x z
        · rw [z]; exact nvl
      refine ⟨_, rfl, rfl, _, rfl, ?_⟩
      refine ite2 (fun _ => ?_) (fun _ => ?_)
      · -- none of a kind
        refine ⟨_, rfl, fun d nd' => ?_⟩
        have s5 : Same H4 (upd H4 d (.dK [])) := (Same.refl H4).new nd'
        have hd : upd H4 d (.dK []) d = some (.dK []) := upd_same
        generalize upd H4 d (.dK []) = H5 at s5 hd ⊢
        refine ⟨(by show 0 ≤ sizeLine; decide), fun t0 nt0 => ?_⟩
        have s6 : Same H5 (upd H5 t0 (.tup [])) := (Same.refl H5).new nt0
        have ht0 : upd H5 t0 (.tup []) t0 = some (.tup []) := upd_same
        generalize upd H5 t0 (.tup []) = H6 at s6 ht0 ⊢
        refine ⟨(by show 1 ≤ sizeLine; decide), fun c0 nc0 => ?_⟩
        have s7 : Same H6 (upd H6 c0 (.lst [.int 0])) := (Same.refl H6).new nc0
        have hc0 : upd H6 c0 (.lst [.int 0]) c0 = some (.lst [.int 0]) := upd_same
        generalize upd H6 c0 (.lst [.int 0]) = H7 at s7 hc0 ⊢
        refine ⟨(by show 1 ≤ sizeLine; decide), fun c1 nc1 => ?_⟩
        have s8 : Same H7 (upd H7 c1 (.lst [.int 1])) := (Same.refl H7).new nc1
        have hc1 : upd H7 c1 (.lst [.int 1]) c1 = some (.lst [.int 1]) := upd_same
        generalize upd H7 c1 (.lst [.int 1]) = H8 at s8 hc1 ⊢
        refine ⟨(by show 1 ≤ sizeLine; decide), fun c2 nc2 => ?_⟩
        have s9 : Same H8 (upd H8 c2 (.lst [.int 2])) := (Same.refl H8).new nc2
        have hc2 : upd H8 c2 (.lst [.int 2]) c2 = some (.lst [.int 2]) := upd_same
        generalize upd H8 c2 (.lst [.int 2]) = H9 at s9 hc2 ⊢
        refine ⟨(by show 3 ≤ sizeLine; decide), fun cc ncc => ?_⟩
        have s10 : Same H9 (upd H9 cc (.lst [.ref c0, .ref c1, .ref c2])) := (Same.refl H9).new ncc
        have hcc : upd H9 cc (.lst [.ref c0, .ref c1, .ref c2]) cc = some (.lst [.ref c0, .ref c1, .ref c2]) := upd_same
        generalize upd H9 cc (.lst [.ref c0, .ref c1, .ref c2]) = H10 at s10 hcc ⊢
        have s410 := ((((s5.trans s6).trans s7).trans s8).trans s9).trans s10
        refine ⟨_, rfl, (by show 1 ≤ sizeLine; decide), fun c3 nc3 => ?_⟩
        have s11 : Same H10 (upd H10 c3 (.lst [.non])) := (Same.refl H10).new nc3
        have hc3 : upd H10 c3 (.lst [.non]) c3 = some (.lst [.non]) := upd_same
        generalize upd H10 c3 (.lst [.non]) = H11 at s11 hc3 ⊢
        refine ⟨l, c3, _, _, rfl, rfl, s11 _ _ (s410 _ _ hl4), hc3, (by rw [List.length_map, List.length_singleton]; exact Nat.le_of_lt (sm (by omega))), fun c4 nc4 => ?_⟩
        have s12 : Same H11 (upd H11 c4 (.lst (one.map V.int ++ [.non]))) := (Same.refl H11).new nc4
        have hc4 : upd H11 c4 (.lst (one.map V.int ++ [.non])) c4 = some (.lst (one.map V.int ++ [.non])) := upd_same
        generalize upd H11 c4 (.lst (one.map V.int ++ [.non])) = H12 at s12 hc4 ⊢
        refine ⟨(by show 7 ≤ sizeLine; decide), fun u nu => ?_⟩
        have s1112 := s11.trans s12
        have s412 := s410.trans s1112
        have pen12 := pen4.same s412
        have nup := pen12.ne nu
        have s13 : Same H12 (upd H12 u (.lst [.non, .int 5, .str "0 1 2", .ref d, .ref t0, .ref cc, .ref c4])) := (Same.refl H12).new nu
        have hu : upd H12 u (.lst [.non, .int 5, .str "0 1 2", .ref d, .ref t0, .ref cc, .ref c4]) u = some (.lst [.non, .int 5, .str "0 1 2", .ref d, .ref t0, .ref cc, .ref c4]) := upd_same
        generalize upd H12 u (.lst [.non, .int 5, .str "0 1 2", .ref d, .ref t0, .ref cc, .ref c4]) = H13 at s13 hu ⊢
        have pen13 := pen12.same s13
        refine ⟨p, u, e, _, _, rfl, SqL.of hu, nup, (by show 1 ≤ 7; decide), (by show 7 ≤ 1000; decide), by omega, pen13, fun i v H14 hv b14 pen14 => ?_⟩
        have s413 := s412.trans s13
        have fin : But p H H14 := (b4.trans (But.of s413)).trans b14
        have nn : ∀ {x : Addr} {o : HO}, H13 x = some o → x ≠ p → H14 x = some o := fun h n => b14 _ _ n h
        have nw : ∀ {x : Addr}, H4 x = none → x ≠ p := fun h => pen4.ne h
        have hm := List.mem_of_getElem? hv
        simp only [List.mem_cons, List.not_mem_nil, or_false] at hm
        refine q v H14 ?_ fin (pen14.mono (by omega))
        rcases hm with z | z | z | z | z | z | z
        · exact ⟨false, .inl ⟨"NoneType", by rw [z]; exact ⟨.base .non, by decide⟩, by decide, by decide, rfl⟩⟩
        · exact ⟨false, .inl ⟨"int", by rw [z]; exact Knd.int, by decide, by decide, rfl⟩⟩
        · exact ⟨false, .inl ⟨"str", by rw [z]; exact ⟨.base (.str _), by decide⟩, by decide, by decide, rfl⟩⟩
        · have hd13 := s13 _ _ (s1112 _ _ (s10 _ _ (s9 _ _ (s8 _ _ (s7 _ _ (s6 _ _ hd))))))
          have hd14 := nn hd13 (nw nd')
          exact ⟨false, .inl ⟨"dict", by rw [z]; exact ⟨.base (.dK hd14), by decide⟩, by decide, by decide, rfl⟩⟩
        · have h13 := s13 _ _ (s1112 _ _ (s10 _ _ (s9 _ _ (s8 _ _ (s7 _ _ ht0)))))
          rw [z]
          exact ev_tup (nn h13 (nw (s5.free nt0))) (by show 0 ≤ 1000; decide) (fun x hx => nomatch hx)
        · have h13 := s13 _ _ (s1112 _ _ hcc)
          have n5 := s5.trans s6
          have e0 := nn (s13 _ _ (s1112 _ _ (s10 _ _ (s9 _ _ (s8 _ _ hc0))))) (nw (n5.free nc0))
          have e1 := nn (s13 _ _ (s1112 _ _ (s10 _ _ (s9 _ _ hc1)))) (nw ((n5.trans s7).free nc1))
          have e2 := nn (s13 _ _ (s1112 _ _ (s10 _ _ hc2))) (nw (((n5.trans s7).trans s8).free nc2))
          rw [z]
          refine ev_lst (nn h13 (nw ((((n5.trans s7).trans s8).trans s9).free ncc))) (by show 3 ≤ 1000; decide) (fun x hx => ?_)
          simp only [List.mem_cons, List.not_mem_nil, or_false] at hx
          rcases hx with y | y | y
          · subst y; exact ⟨_, _, .lst c0 0 e0⟩
          · subst y; exact ⟨_, _, .lst c1 1 e1⟩
          · subst y; exact ⟨_, _, .lst c2 2 e2⟩
        · have h13 := s13 _ _ hc4
          rw [z]
          refine ev_lst (nn h13 (nw ((s410.trans s11).free nc4))) (by rw [List.length_append, List.length_map]; show one.length + 1 ≤ 1000; omega) (fun x hx => ?_)
          rcases List.mem_append.mp hx with y | y
          · exact eo_ints x y
          · rw [List.mem_singleton.mp y]; exact ⟨_, _, .non⟩
      refine ⟨_, rfl, rfl, _, rfl, ?_⟩
      refine ite2 (fun _ => ?_) (fun _ => ?_)
      · -- backwards
        refine ⟨_, rfl, l, _, rfl, SqL.of hl4, fun u nu => ?_⟩
        have s5 : Same H4 (upd H4 u (.lst (one.map V.int).reverse)) := (Same.refl H4).new nu
        have hu : upd H4 u (.lst (one.map V.int).reverse) u = some (.lst (one.map V.int).reverse) := upd_same
        generalize upd H4 u (.lst (one.map V.int).reverse) = H5 at s5 hu ⊢
        refine ⟨u, _, _, _, rfl, hu, by rw [List.length_reverse, List.length_map]; omega, fun x hx => eo_ints x (List.mem_reverse.mp hx), b4.trans (But.of s5), (pen4.same s5).mono (by omega)⟩
      refine ⟨_, rfl, rfl, _, rfl, ?_⟩
      refine ite2 (fun _ => ?_) (fun _ => ?_)
      · -- two exchanged
        obtain ⟨j, hj, ej, aj⟩ := at_m1 (xs := one.map V.int) (k := k) (by rw [List.length_map]; exact hk)
        have evj : ∃ z : Int, (one.map V.int)[j] = .int z := by
          rw [List.getElem_map]; exact ⟨_, rfl⟩
        obtain ⟨zj, ezj⟩ := evj
        rw [ezj] at aj
        refine ⟨_, rfl, _, rfl, _, _, rfl, rfl, l, _, _, _, rfl, rfl, SqL.of hl4, aj, _, rfl, _, rfl, l, _, _, _, rfl, rfl, SqL.of hl4, getL (i := k) rfl hk, (by show 2 ≤ sizeLine; decide), fun t5 nt5 => ?_⟩
        have s5 : Same H4 (upd H4 t5 (.tup [.int zj, .int (one.getD k 0)])) := (Same.refl H4).new nt5
        have ht5 : upd H4 t5 (.tup [.int zj, .int (one.getD k 0)]) t5 = some (.tup [.int zj, .int (one.getD k 0)]) := upd_same
        generalize upd H4 t5 (.tup [.int zj, .int (one.getD k 0)]) = H5 at s5 ht5 ⊢
        have hl5 := s5 _ _ hl4
        refine ⟨t5, _, rfl, .inl (.inl ht5), rfl, _, _, rfl, ?_⟩
        refine ⟨_, rfl, _, rfl, l, _, _, k, rfl, rfl, hl5, ixN_at (by omega) (by rw [List.length_map]; omega), ?_⟩
        rw [set_map]
        have b6 : But p H (upd H5 l (.lst ((one.set k zj).map V.int))) := (b4.trans (But.of s5)).mut nl
        have pen6 : PenAt K (upd H5 l (.lst ((one.set k zj).map V.int))) p e (n + 1 + 1) := pen.mut (pen4.same s5) (b4.trans (But.of s5)) nl
        have hl6 : upd H5 l (.lst ((one.set k zj).map V.int)) l = some (.lst ((one.set k zj).map V.int)) := upd_same
        generalize upd H5 l (.lst ((one.set k zj).map V.int)) = H6 at b6 pen6 hl6 ⊢
        refine ⟨_, _, rfl, ?_⟩
        refine ⟨_, rfl, _, rfl, _, _, rfl, rfl, l, _, _, j, rfl, rfl, hl6, by rw [List.length_map, List.length_set, ← ej, List.length_map], ?_⟩
        rw [set_map]
        refine ⟨rfl, l, _, _, _, rfl, upd_same, by rw [List.length_map, List.length_set, List.length_set]; omega, eo_ints, b6.mut nl, (pen.mut pen6 b6 nl).mono (by omega)⟩
      · exact ⟨l, _, _, _, rfl, hl4, by rw [List.length_map]; omega, eo_ints, b4, pen4.mono (by omega)⟩
    · rintro σ H5 ⟨u, xs, z3, z4, rfl, hu, xl, eo, b5, pen5⟩
      refine ⟨_, rfl, u, _, rfl, .inl ⟨SqL.of hu, fun t nt => ?_⟩⟩
      have s6 : Same H5 (upd H5 t (.tup xs)) := (Same.refl H5).new nt
      have ht : upd H5 t (.tup xs) t = some (.tup xs) := upd_same
      generalize upd H5 t (.tup xs) = H6 at s6 ht ⊢
      exact q _ _ (ev_tup ht (by omega) fun x hx => (eo x hx).same s6) (b5.trans (But.of s6)) (pen5.same s6)
end
end K
namespace K
open PySem L2 Rg
open Evl (pss_cut)
/-! ### rounds by the places of their bars -/
def swpN (l : List Nat) (i j : Nat) : List Nat := (l.set i (l.getD j 0)).set j (l.getD i 0)
def rotN (l : List Nat) : List Nat := l.drop (l.idxOf 0) ++ l.take (l.idxOf 0)
def oI (n i : Nat) : List Nat := rotN (swpN (List.range n) i (nxt n i))
def srtN (a b : Nat) : List Nat := if a ≤ b then [a, b] else [b, a]
def cellN (l : List Nat) (k : Nat) : List (List Nat) := wbL (l.map fun b => [b]) k (srtN (l.getD k 0) (l.getD (nxt l.length k) 0))
def normL (n : Nat) (l : List Nat) : Bool := match l with
  | [a] => decide (a < n)
  | [a, b] => decide (a < b) && decide (b < n)
  | _ => false
def lawN (n i : Nat) : List (List Nat) :=
  let r := ((List.range n).filter fun j => !(decide (j = i) || decide (j = nxt n i))).map fun b => [b]
  if i = n - 1 then srtN i (nxt n i) :: r else r.take i ++ [srtN i (nxt n i)] ++ r.drop i
def pairB (a b c d : Nat) : Bool := (decide (a = c) && decide (b = d)) || (decide (a = d) && decide (b = c))
def okB (n i : Nat) : Bool :=
  decide ((oI n i).length = n) && (oI n i).all (fun a => decide (a < n)) &&
  ((List.range n).any fun k => decide (rotN (swpN (oI n i) k (nxt n k)) = List.range n) && pairB ((oI n i).getD k 0) ((oI n i).getD (nxt n k) 0) i (nxt n i) && decide (cellN (oI n i) k = cellN (List.range n) i)) &&
  ((List.range n).all fun j => (List.range n).all fun k => !decide (cellN (List.range n) j = cellN (oI n i) k) || decide (j = i)) &&
  ((List.range n).all fun j => (cellN (List.range n) j).all (normL n) && (cellN (oI n i) j).all (normL n)) &&
  decide (lawN n i = cellN (List.range n) i) && decide ((List.range n).filter (fun j => decide (j = i)) = [i])
theorem all_ok : ((List.range 9).all fun n => decide (n < 4) || (List.range n).all (okB n)) = true := by decide +kernel
theorem ok_at {n i : Nat} (h4 : 4 ≤ n) (h8 : n ≤ 8) (hi : i < n) : okB n i = true := by
  have a := List.all_eq_true.mp all_ok n (List.mem_range.mpr (by omega))
  rw [Bool.or_eq_true] at a
  rcases a with a | a
  · have := of_decide_eq_true a
    omega
  · exact List.all_eq_true.mp a i (List.mem_range.mpr hi)
/-- a numbering of the bars by their places -/
structure Plc (n : Nat) (f : Nat → Int) : Prop where
  inj : ∀ a b, a < n → b < n → f a = f b → a = b
  zero : ∀ a, a < n → (f a = 0 ↔ a = 0)
section
variable {n : Nat} {f : Nat → Int}
theorem getD_map (f : Nat → Int) {l : List Nat} {k : Nat} (h : k < l.length) : (l.map f).getD k 0 = f (l.getD k 0) := by
  rw [List.getD_eq_getElem?_getD, List.getElem?_map, List.getD_eq_getElem?_getD, List.getElem?_eq_getElem h]; rfl
theorem swp_map {l : List Nat} {i j : Nat} (hi : i < l.length) (hj : j < l.length) : swp (l.map f) i j = (swpN l i j).map f := by
  unfold swp swpN
  rw [getD_map f hi, getD_map f hj, List.map_set, List.map_set]
theorem idx_map (P : Plc n f) (h0 : 0 < n) : ∀ {l : List Nat}, (∀ a ∈ l, a < n) → (l.map f).idxOf 0 = l.idxOf 0
  | [], _ => rfl
  | x :: l, h => by
    have ih := idx_map P h0 (l := l) fun a ha => h a (List.mem_cons_of_mem _ ha)
    rw [List.map_cons, List.idxOf_cons, List.idxOf_cons, ih]
    have z := P.zero x (h x (List.mem_cons_self ..))
    by_cases c : x = 0
    · have e : f x = 0 := z.mpr c
      rw [e, c]
      rfl
    · have e : ¬ f x = 0 := fun q => c (z.mp q)
      have b1 : (f x == 0) = false := beq_false_of_ne e
      have b2 : (x == 0) = false := beq_false_of_ne c
      rw [b1, b2]
theorem rot_map (P : Plc n f) (h0 : 0 < n) {l : List Nat} (h : ∀ a ∈ l, a < n) : rot0 (l.map f) = (rotN l).map f := by
  unfold rot0 rotN
  rw [idx_map P h0 h, List.map_append, List.map_drop, List.map_take]
theorem swpN_lt {l : List Nat} {i j : Nat} (h : ∀ a ∈ l, a < n) (h0 : 0 < n) : ∀ a ∈ swpN l i j, a < n := by
  have g : ∀ k, l.getD k 0 < n := fun k => by
    rw [List.getD_eq_getElem?_getD]
    cases e : l[k]? with
    | none => exact h0
    | some x => exact h x (List.mem_of_getElem? e)
  intro a ha
  unfold swpN at ha
  rcases List.mem_or_eq_of_mem_set ha with z | z
  · rcases List.mem_or_eq_of_mem_set z with y | y
    · exact h a y
    · rw [y]; exact g j
  · rw [z]; exact g i
theorem srt2_comm (x y : Int) : srt2 x y = srt2 y x := by
  unfold srt2
  by_cases c : x ≤ y
  · by_cases d : y ≤ x
    · have : x = y := by omega
      rw [this]
    · rw [if_pos c, if_neg d]
  · rw [if_neg c, if_pos (by omega)]
def FL (f : Nat → Int) (l : List Nat) : List Int := match l with
  | [a] => [f a]
  | [a, b] => srt2 (f a) (f b)
  | _ => []
theorem FL_srt (f : Nat → Int) (a b : Nat) : FL f (srtN a b) = srt2 (f a) (f b) := by
  unfold srtN
  by_cases c : a ≤ b
  · rw [if_pos c]; rfl
  · rw [if_neg c]; exact srt2_comm _ _
theorem map_wb {α β : Type} (g : α → β) (xs : List α) (i : Nat) (y : α) : (wbL xs i y).map g = wbL (xs.map g) i (g y) := by
  unfold wbL
  rw [List.length_map]
  by_cases c : i = xs.length - 1
  · rw [if_pos c, if_pos c, List.map_cons, List.map_drop, List.map_take]
  · rw [if_neg c, if_neg c, List.map_append, List.map_append, List.map_take, List.map_drop]; rfl
theorem cell_map {l : List Nat} {k : Nat} (h : k < l.length) : cellW (l.map f) k = (cellN l k).map (FL f) := by
  have hj : nxt l.length k < l.length := nxt_lt (by omega)
  unfold cellW cellN sp2
  rw [map_wb, FL_srt, List.length_map, getD_map f h, getD_map f hj, List.map_map, List.map_map]
  rfl
theorem FL_inj (P : Plc n f) {a b : List Nat} (ha : normL n a = true) (hb : normL n b = true) (e : FL f a = FL f b) : a = b := by
  have len2 : ∀ x y : Int, (srt2 x y).length = 2 := fun x y => (srt2_perm x y).length_eq
  match a, b, ha, hb, e with
  | [x], [y], ha, hb, e =>
    have e1 : f x = f y := (List.cons.inj e).1
    rw [P.inj x y (of_decide_eq_true ha) (of_decide_eq_true hb) e1]
  | [x], [y, z], ha, hb, e =>
    have := congrArg List.length e
    have l2 : (FL f [y, z]).length = 2 := len2 _ _
    rw [l2] at this
    cases this
  | [x, w], [y], ha, hb, e =>
    have := congrArg List.length e
    have l2 : (FL f [x, w]).length = 2 := len2 _ _
    rw [l2] at this
    cases this
  | [x, w], [y, z], ha, hb, e =>
    have h1 : x < w ∧ w < n := by
      have := ha
      unfold normL at this
      rw [Bool.and_eq_true, decide_eq_true_eq, decide_eq_true_eq] at this
      exact this
    have h2 : y < z ∧ z < n := by
      have := hb
      unfold normL at this
      rw [Bool.and_eq_true, decide_eq_true_eq, decide_eq_true_eq] at this
      exact this
    have e' : srt2 (f x) (f w) = srt2 (f y) (f z) := e
    have pm : [f x, f w].Perm [f y, f z] := (srt2_perm _ _).symm.trans (by rw [e']; exact srt2_perm _ _)
    have m1 : f x ∈ [f y, f z] := pm.mem_iff.mp (List.mem_cons_self ..)
    have m2 : f w ∈ [f y, f z] := pm.mem_iff.mp (List.mem_cons_of_mem _ (List.mem_cons_self ..))
    simp only [List.mem_cons, List.not_mem_nil, or_false] at m1 m2
    have i1 := P.inj x y (by omega) (by omega)
    have i2 := P.inj x z (by omega) (by omega)
    have i3 := P.inj w y (by omega) (by omega)
    have i4 := P.inj w z (by omega) (by omega)
    rcases m1 with m1 | m1 <;> rcases m2 with m2 | m2
    · have := i1 m1; have := i3 m2; omega
    · rw [i1 m1, i4 m2]
    · have := i2 m1; have := i3 m2; omega
    · have := i2 m1; have := i4 m2; omega
theorem cells_inj (P : Plc n f) : ∀ {a b : List (List Nat)}, a.all (normL n) = true → b.all (normL n) = true → a.map (FL f) = b.map (FL f) → a = b
  | [], [], _, _, _ => rfl
  | [], _ :: _, _, _, e => by cases e
  | _ :: _, [], _, _, e => by cases e
  | x :: a, y :: b, ha, hb, e => by
    rw [List.all_cons, Bool.and_eq_true] at ha hb
    rw [List.map_cons, List.map_cons] at e
    rw [FL_inj P ha.1 hb.1 (List.cons.inj e).1, cells_inj P ha.2 hb.2 (List.cons.inj e).2]
end
/-- a round by its places -/
theorem rnd_plc {n : Nat} {one : List Int} (h : Rnd n one) (h1 : 1 ≤ n) : one = (List.range n).map (fun j => one.getD j 0) ∧ Plc n (fun j => one.getD j 0) := by
  have ln := h.len
  have nd := h.lot.1
  refine ⟨?_, fun a b ha hb e => ?_, fun a ha => ⟨fun e => ?_, fun e => ?_⟩⟩
  · refine List.ext_getElem? fun k => ?_
    rw [List.getElem?_map]
    by_cases c : k < n
    · rw [List.getElem?_range c, List.getElem?_eq_getElem (by omega)]
      show some _ = some (one.getD k 0)
      rw [List.getD_eq_getElem?_getD, List.getElem?_eq_getElem (by omega)]
      rfl
    · rw [List.getElem?_eq_none (by omega), List.getElem?_eq_none (by rw [List.length_range]; omega)]
      rfl
  · cases Nat.decEq a b with
    | isTrue q => exact q
    | isFalse q => exact absurd e (get_ne nd (by omega) (by omega) q)
  · cases Nat.decEq a 0 with
    | isTrue q => exact q
    | isFalse q =>
      refine absurd e ?_
      have z := h.h0
      have e0 : one.getD 0 0 = 0 := by rw [List.getD_eq_getElem?_getD, z]; rfl
      have ne := get_ne nd (show a < one.length by omega) (show 0 < one.length by omega) q
      rw [e0] at ne
      exact ne
  · rw [e]
    show one.getD 0 0 = 0
    rw [List.getD_eq_getElem?_getD, h.h0]; rfl
theorem sort_perm {ls a b : List Int} (p : a.Perm b) : sortV ls a = sortV ls b := by
  unfold sortV
  rw [lsum_perm p]
/-- what an exchange does, by places -/
structure Exd (ls one m : List Int) (i : Nat) : Prop where
  back : ∃ k, k < one.length ∧ exch ls m k = some one
  rim : (rimL ls one).filter (fun c => decide (c ∈ rimL ls m)) = [cellW one i]
theorem exd_of {ls one m : List Int} {i : Nat} (h : Rnd ls.length one) (h4 : 4 ≤ ls.length) (h8 : ls.length ≤ 8) (nl : levelB ls = false) (hi : i < ls.length) (e : exch ls one i = some m) : Exd ls one m i := by
  have ln := h.len
  obtain ⟨eo, P⟩ := rnd_plc h (by omega)
  have shi : ¬ sortV ls (pr one i) = "long" := fun c => by
    unfold exch at e
    rw [if_pos c] at e
    cases e
  have shS : sortV ls (pr one i) = "short" := by
    rcases sort_cases ls (pr one i) with ⟨c, _⟩ | ⟨_, c⟩ | ⟨_, c⟩
    · rw [level_of (pr_lot h (by omega) hi) c] at nl; cases nl
    · exact c
    · exact absurd c shi
  have em : m = rot0 (swp one i (nxt one.length i)) := by
    unfold exch at e
    rw [if_neg shi] at e
    exact (Option.some.inj e).symm
  generalize hf : (fun j => one.getD j 0) = f at eo P
  generalize ls.length = n at h h4 h8 hi ln eo P
  have rl : (List.range n).length = n := List.length_range
  have lt0 : ∀ a ∈ List.range n, a < n := fun a ha => List.mem_range.mp ha
  have ni : nxt n i < n := nxt_lt (by omega)
  rw [ln] at em
  have em2 : m = (oI n i).map f := by
    rw [em, eo, swp_map (by rw [rl]; exact hi) (by rw [rl]; exact ni), rot_map P (by omega) (swpN_lt lt0 (by omega))]
    rfl
  have ok := ok_at h4 h8 hi
  unfold okB at ok
  simp only [Bool.and_eq_true] at ok
  obtain ⟨⟨⟨⟨⟨⟨k1, k2⟩, k3⟩, k4⟩, k5⟩, k6⟩, k7⟩ := ok
  have ol := of_decide_eq_true k1
  have olt : ∀ a ∈ oI n i, a < n := fun a ha => of_decide_eq_true (List.all_eq_true.mp k2 a ha)
  have ml : m.length = n := by rw [em2, List.length_map, ol]
  obtain ⟨k, hk, k3⟩ := List.any_eq_true.mp k3
  have hk := List.mem_range.mp hk
  have nk : nxt n k < n := nxt_lt (by omega)
  simp only [Bool.and_eq_true] at k3
  obtain ⟨⟨a1, a2⟩, a3⟩ := k3
  have a1 := of_decide_eq_true a1
  have a3 := of_decide_eq_true a3
  have pp : (pr m k).Perm (pr one i) := by
    have e1 : pr m k = [f ((oI n i).getD k 0), f ((oI n i).getD (nxt n k) 0)] := by
      unfold pr
      rw [ml, em2, getD_map f (by omega), getD_map f (by omega)]
    have e2 : pr one i = [f i, f (nxt n i)] := by
      unfold pr
      rw [ln, ← hf]
    rw [e1, e2]
    unfold pairB at a2
    simp only [Bool.or_eq_true, Bool.and_eq_true, decide_eq_true_eq] at a2
    rcases a2 with ⟨b1, b2⟩ | ⟨b1, b2⟩
    · rw [b1, b2]
    · rw [b1, b2]; exact List.Perm.swap ..
  refine ⟨⟨k, by omega, ?_⟩, ?_⟩
  · unfold exch
    rw [if_neg (by rw [sort_perm pp]; exact shi), ml, em2, swp_map (by omega) (by omega), rot_map P (by omega) (swpN_lt olt (by omega)), a1, ← eo]
  · have inRim : ∀ j, j < n → (cellW one j ∈ rimL ls m ↔ j = i) := by
      intro j hj
      have ec : cellW one j = (cellN (List.range n) j).map (FL f) := by
        have := cell_map (f := f) (l := List.range n) (k := j) (by rw [rl]; exact hj)
        rw [← eo] at this
        exact this
      have n1 := List.all_eq_true.mp k5 j (List.mem_range.mpr hj)
      rw [Bool.and_eq_true] at n1
      constructor
      · intro hm
        obtain ⟨q, hq, eq⟩ := List.mem_map.mp hm
        have hq := List.mem_range.mp (List.mem_filter.mp hq).1
        rw [ml] at hq
        have e3 : cellW m q = (cellN (oI n i) q).map (FL f) := by
          rw [em2]
          exact cell_map (by omega)
        rw [e3, ec] at eq
        have n2 := List.all_eq_true.mp k5 q (List.mem_range.mpr hq)
        rw [Bool.and_eq_true] at n2
        have e4 := cells_inj P n2.2 n1.1 eq
        have z := List.all_eq_true.mp (List.all_eq_true.mp k4 j (List.mem_range.mpr hj)) q (List.mem_range.mpr hq)
        rw [e4] at z
        simpa using z
      · rintro rfl
        refine List.mem_map.mpr ⟨k, List.mem_filter.mpr ⟨List.mem_range.mpr (by omega), decide_eq_true ?_⟩, ?_⟩
        · rw [sp2_sort, sort_perm pp]
          exact shS
        · rw [ec, em2, cell_map (by omega), a3]
    unfold rimL
    rw [List.filter_map, List.filter_filter]
    have ef : (List.range one.length).filter (fun j => (((fun c => decide (c ∈ rimL ls m)) ∘ cellW one) j) && shB ls one j) = [i] := by
      rw [ln]
      have k7 := of_decide_eq_true k7
      refine Eq.trans ?_ k7
      refine List.filter_congr fun j hj => ?_
      have hj := List.mem_range.mp hj
      show (decide (cellW one j ∈ rimL ls m) && shB ls one j) = decide (j = i)
      by_cases c : j = i
      · rw [decide_eq_true ((inRim j hj).mpr c), decide_eq_true c, c]
        exact decide_eq_true (by rw [sp2_sort]; exact shS)
      · rw [decide_eq_false (fun z => c ((inRim j hj).mp z)), decide_eq_false c]
        rfl
    have ef2 := ef
    unfold rimL at ef2
    rw [ef2]
    rfl
/-- the law's cell -/
def lawC (one : List Int) (i : Nat) : List (List Int) :=
  if i = one.length - 1 then sp2 one i :: (one.filter fun b => !decide (b ∈ sp2 one i)).map (fun b => [b])
  else ((one.filter fun b => !decide (b ∈ sp2 one i)).map (fun b => [b])).take i ++ [sp2 one i] ++ ((one.filter fun b => !decide (b ∈ sp2 one i)).map (fun b => [b])).drop i
theorem lawC_eq {n : Nat} {one : List Int} {i : Nat} (h : Rnd n one) (h4 : 4 ≤ n) (h8 : n ≤ 8) (hi : i < n) : lawC one i = cellW one i := by
  have ln := h.len
  obtain ⟨eo, P⟩ := rnd_plc h (by omega)
  generalize hf : (fun j => one.getD j 0) = f at eo P
  have rl : (List.range n).length = n := List.length_range
  have ni : nxt n i < n := nxt_lt (by omega)
  have es : sp2 one i = FL f (srtN i (nxt n i)) := by
    rw [FL_srt]
    unfold sp2
    rw [ln, ← hf]
  have ok := ok_at h4 h8 hi
  unfold okB at ok
  simp only [Bool.and_eq_true] at ok
  have k6 := of_decide_eq_true ok.1.2
  have ec : cellW one i = (cellN (List.range n) i).map (FL f) := by
    have := cell_map (f := f) (l := List.range n) (k := i) (by rw [rl]; exact hi)
    rw [← eo] at this
    exact this
  rw [ec, ← k6]
  have er : (one.filter fun b => !decide (b ∈ sp2 one i)).map (fun b => [b]) = (((List.range n).filter fun j => !(decide (j = i) || decide (j = nxt n i))).map fun b => [b]).map (FL f) := by
    have e1 : one.filter (fun b => !decide (b ∈ sp2 one i)) = ((List.range n).map f).filter (fun b => !decide (b ∈ sp2 one i)) := by rw [← eo]
    rw [e1, List.filter_map, List.map_map, List.map_map]
    have e2 : (List.range n).filter ((fun b => !decide (b ∈ sp2 one i)) ∘ f) = (List.range n).filter fun j => !(decide (j = i) || decide (j = nxt n i)) := by
      refine List.filter_congr fun j hj => ?_
      have hj := List.mem_range.mp hj
      show (!decide (f j ∈ sp2 one i)) = _
      congr 1
      have mi : f j ∈ sp2 one i ↔ j = i ∨ j = nxt n i := by
        rw [es, FL_srt, (srt2_perm _ _).mem_iff]
        simp only [List.mem_cons, List.not_mem_nil, or_false]
        constructor
        · rintro (z | z)
          · exact .inl (P.inj _ _ hj hi z)
          · exact .inr (P.inj _ _ hj ni z)
        · rintro (z | z)
          · exact .inl (by rw [z])
          · exact .inr (by rw [z])
      by_cases c : j = i ∨ j = nxt n i
      · rw [decide_eq_true (mi.mpr c)]
        rcases c with c | c
        · rw [decide_eq_true c]; rfl
        · rw [decide_eq_true c, Bool.or_true]
      · rw [decide_eq_false (fun z => c (mi.mp z)), decide_eq_false fun z => c (.inl z), decide_eq_false fun z => c (.inr z)]
        rfl
    rw [e2]
    rfl
  unfold lawC lawN
  rw [er, es, ln]
  by_cases c : i = n - 1
  · rw [if_pos c, if_pos c, List.map_cons]
  · rw [if_neg c, if_neg c, List.map_append, List.map_append, List.map_take, List.map_drop]; rfl
/-- three bars: every exchange is too long -/
theorem three_none {ls one : List Int} (h : Rnd ls.length one) (h3 : ls.length = 3) (cl : closesB ls = true) (nl : levelB ls = false) {i : Nat} (hi : i < 3) : exch ls one i = none := by
  have ln := h.len
  have lot := h.lot
  have pl := pr_lot h (by omega) (show i < ls.length by omega)
  match ls, h3 with
  | [x, y, z], _ =>
    match one, ln with
    | [a, b, c], _ =>
      have ea : a = 0 := Option.some.inj h.h0
      have hb := lot.2 b (by simp)
      have hc := lot.2 c (by simp)
      have nd := lot.1
      simp only [List.nodup_cons, List.mem_cons, List.not_mem_nil, or_false, not_or] at nd
      simp only [List.length_cons, List.length_nil] at hb hc
      have cx : ∀ w ∈ [x, y, z], 2 * w ≤ x + y + z := fun w hw => by
        have := of_decide_eq_true (List.all_eq_true.mp cl w hw)
        simp only [List.sum_cons, List.sum_nil] at this
        omega
      have c1 := cx x (by simp)
      have c2 := cx y (by simp)
      have c3 := cx z (by simp)
      have ge : [x, y, z].sum ≤ 2 * lsum [x, y, z] (pr [a, b, c] i) := by
        have hbc : (b = 1 ∧ c = 2) ∨ (b = 2 ∧ c = 1) := by omega
        rcases hbc with ⟨rfl, rfl⟩ | ⟨rfl, rfl⟩ <;> subst ea <;>
        (match i, hi with
          | 0, _ => (simp [pr, nxt, lsum]; omega)
          | 1, _ => (simp [pr, nxt, lsum]; omega)
          | 2, _ => (simp [pr, nxt, lsum]; omega))
      unfold exch
      rw [if_pos]
      rcases sort_cases [x, y, z] (pr [a, b, c] i) with ⟨q, _⟩ | ⟨q, _⟩ | ⟨_, q⟩
      · rw [level_of pl q] at nl; cases nl
      · omega
      · exact q
theorem near_three {ls one : List Int} (h : Rnd ls.length one) (h3 : ls.length = 3) (cl : closesB ls = true) (nl : levelB ls = false) : nearL ls one = [] := by
  unfold nearL
  rw [h.len]
  refine List.filterMap_eq_nil_iff.mpr fun i hi => three_none h h3 cl nl ?_
  have := List.mem_range.mp hi
  omega
end K
namespace K
open PySem L2 Rg
open Evl (pss_cut)
/-! ### cells as data -/
theorem cells_dp {K : PySem.W.Frag} {H : Hp} : ∀ {xs : List V} {cs : List (List (List Int))}, Paired (CellV H) xs cs → DpAll K H xs (cs.map cellD)
  | _, _, .nil => .nil
  | _, _, .cons ⟨a, us, e, ha, px⟩ t => by
    subst e
    exact .cons (.tup (.inl (.inl ha)) (tl_dp px)) (cells_dp t)
theorem cellD_eqv (a b : List (List Int)) : PyData.eqv (cellD a) (cellD b) = decide (a = b) := tl_eqT a b
theorem cells_any (cs : List (List (List Int))) (c : List (List Int)) : ((cs.map cellD).any fun z => PyData.eqv z (cellD c)) = decide (c ∈ cs) := by
  rw [List.any_map]
  by_cases h : c ∈ cs
  · rw [decide_eq_true h, List.any_eq_true]
    exact ⟨c, h, by rw [Function.comp_apply, cellD_eqv]; exact decide_eq_true rfl⟩
  · rw [decide_eq_false h, List.any_eq_false]
    intro x hx
    rw [Function.comp_apply, cellD_eqv]
    intro z
    rw [of_decide_eq_true z] at hx
    exact h hx
theorem cell_lay (c : List (List Int)) : (cellD c).canLay0 = true ∧ (cellD c).depth ≤ 2 := by
  have e := tl_shapedT c
  have d := tl_deep c
  have l := tl_lay c
  refine ⟨?_, ?_⟩
  · unfold cellD
    rw [PyData.canLay0]
    exact l
  · unfold cellD
    rw [PyData.depth]
    have : PyData.depthAll (c.map lotD) ≤ 1 := d
    omega
theorem cells_lay : ∀ cs : List (List (List Int)), PyData.canLayAll0 (cs.map cellD) = true ∧ PyData.depthAll (cs.map cellD) ≤ 2
  | [] => ⟨by simp [PyData.canLayAll0], by simp [PyData.depthAll]⟩
  | c :: cs => by
    obtain ⟨a, b⟩ := cells_lay cs
    obtain ⟨a1, b1⟩ := cell_lay c
    refine ⟨?_, ?_⟩
    · rw [List.map_cons, PyData.canLayAll0, a1, a]; rfl
    · rw [List.map_cons, PyData.depthAll]; omega
theorem cells_shT (cs : List (List (List Int))) : SeqAt.shaped (.tuple (cs.map cellD)) = true := by
  obtain ⟨a, b⟩ := cells_lay cs
  simp [SeqAt.shaped, PyData.canLay0, PyData.depth, a]
  omega
theorem cells_shL (cs : List (List (List Int))) : SeqAt.shaped (.list (cs.map cellD)) = true := by
  obtain ⟨a, b⟩ := cells_lay cs
  simp [SeqAt.shaped, PyData.canLay0, PyData.depth, a]
  omega
theorem cell_sh (c : List (List Int)) : SeqAt.shaped (cellD c) = true := by
  obtain ⟨a, b⟩ := cell_lay c
  unfold SeqAt.shaped
  rw [a, Bool.true_and]
  exact decide_eq_true (by omega)
/-- lists of one bar each, none of them the list at D -/
def LLd (D : Addr) (H : Hp) : List V → List Int → Prop := Paired fun x b => ∃ t, x = V.ref t ∧ t ≠ D ∧ H t = some (.lst [.int b])
theorem LLd.ll {D : Addr} {H : Hp} {xs : List V} {bs : List Int} (h : LLd D H xs bs) : LL H xs bs := par_imp (fun _ _ ⟨t, e, _, z⟩ => ⟨t, e, z⟩) h
def scCRo : Scope := { kind := .function, names := [(Str.ofString ".0", .local), (Str.ofString "_law_cell", .local), (Str.ofString "rim_of", .globalImplicit), (Str.ofString "_law_other", .free), (Str.ofString "_law_ring", .free)], isGenerator := false, isCoroutine := false }
section
variable {P : Program} {w : World} {K : PySem.W.Frag} {mg : Str → Option Value} {base : Heap}
def spCR (K : PySem.W.Frag) (C : Addr) : Sp := fun vs H Q _ => ∃ (r a b : Addr) (ls one m : List Int) (i : Nat), vs = [.ref r, .ref a, .int (i : Nat), .ref b] ∧ RC K C H r ls ∧ SqT K H a (one.map V.int) ∧ SqT K H b (m.map V.int) ∧ Rnd ls.length one ∧ Rnd ls.length m ∧ i < ls.length ∧ 4 ≤ ls.length ∧ Exd ls one m i ∧
  ∀ H', Same H H' → Q (.bl true) H'
abbrev nCR : List Str := ["_law_ring", "_law_one", "_law_at", "_law_other", "_law_both", "_law_lots", "_law_mine", "_law_bar", "_law_cell"]
theorem scCR : FnScope nCR ["_law_ring", "_law_one", "_law_at", "_law_other"] (defScope sLwCommonRight) := ⟨rfl, rfl, rfl, by decide +kernel, rfl, by decide +kernel, by decide +kernel⟩
theorem ok_cr {C f fR : Addr} {fd fdR : FuncData} (F : Fun K "_law_common_right" "_law_common_right" sLwCommonRight f fd) (T : Bi mg) (RO : DefAt P w K mg base CX0 9 "rim_of" ["ring", "cell"] (spRO K C) fR fdR) : FnOk P w K mg base CX0 10 f fd ["_law_ring", "_law_one", "_law_at", "_law_other"] (spCR K C) := by
  refine F.ok scCR (fun vs H Q E h => ?_) (fun cdv A outer s H vs Q E hr h => ?_)
  · obtain ⟨r, a, b, ls, one, m, i, rfl, _⟩ := h
    rfl
  · have nd := scCR.nd
    have hu65 : (A.deeper (PyProof.Rows.envOfC "_law_common_right" (defScope sLwCommonRight) s.heap.objs.size f cdv)).units + 65 < cLine := by have := hr.un; omega
    refine ⟨_, (pss_cons (ps_set (i := 4) nd rfl (Or.inr rfl) (pe_callTy call_tuple_of (by rfl) T.tuple (by decide +kernel) (pa_cons (pe_callB cr_sortedI (by rfl) T.sorted (by decide +kernel) (pa_cons (pe_lst (pa_cons (pe_ix (r := rIxT K) ix_tup (pv 1) (pv 2) (fun _ _ => rfl)) (pa_cons (pe_ix (r := rIxT K) ix_tup (pv 1) (pe_op op_mod (pe_callTy call_int1 (by rfl) T.int (by decide +kernel) (pa_cons (pe_op op_add (pv 2) pe_int) pa_nil)) (pe_callB (r := rLenS K) call_len_seq (by rfl) T.len PySem.boot_len (pa_cons (pv 1) pa_nil))) (fun _ _ => rfl)) pa_nil))) pa_nil)) pa_nil)))
      (pss_cons (ps_setLc (i := 5) (own := [("_law_bar", 7)]) (g := (gName 7)) (tt := tTest (tOp (rIn K true) (tVar 7) (tVar 4))) (te := tTup (tCons (tVar 7) tNil))  rfl nd rfl rfl (sw_true rfl rfl rfl (by decide +kernel)) (pi_tup (pv 1))
          (blkOk_by (N := nCR) (sc := defScope sLwCommonRight) (by decide +kernel)) (fun _ _ _ _ _ => (pg_name (i := 7) nd rfl (Or.inl rfl))) (fun _ _ _ _ _ => (pts_one (pt_cmpR op_notIn_seq (pv 7) (pv 4) (by rfl)))) (fun _ _ _ _ _ => (pe_tup (pa_cons (pv 7) pa_nil))))
      (pss_cut (ps_if (pt_cmpR op_eq (pv 2) (pe_op op_sub (pe_callB (r := rLenS K) call_len_seq (by rfl) T.len PySem.boot_len (pa_cons (pv 1) pa_nil)) pe_int) (nomark _)) (pss_one (ps_set (i := 5) nd rfl (Or.inl rfl) (pe_op op_cat (pe_lst (pa_cons (pv 4) pa_nil)) (pv 5)))) (pss_one (ps_expr (pe_bm PySem.F.plainAttrs_list PySem.F.slot_list_insert PySem.F.type_list_insert mt_insert (pv 5) (pa_cons (pv 2) (pa_cons (pv 4) pa_nil))))))
      (pss_cons (ps_set (i := 6) nd rfl (Or.inl rfl) (pe_call RO.ok (hr.mono (by decide)) rfl RO.g RO.kp RO.b .nil pass0 (pa_cons (pv 0) (pa_cons (pe_lc (own := [("_law_bar", 7)]) (g := (gName 7)) (tt := tYes) (te := tLst (tCons (tVar 7) tNil))  rfl nd (pi_tup (pv 1))
          (blkOk_by (N := nCR) (sc := defScope sLwCommonRight) (by decide +kernel)) (fun _ _ _ _ _ => (pg_name (i := 7) nd rfl (Or.inl rfl))) (fun _ _ _ _ _ => pts_nil) (fun _ _ _ _ _ => (pe_lst (pa_cons (pv 7) pa_nil)))) pa_nil))))
      (pss_one (ps_ret (pe_cmpR (op_eqD hr.units) (pe_lc (own := [("_law_cell", 8)]) (g := (gName 8)) (tt := tTest (tOp (rInDT K) (tVar 8) (tCall (spRO K C) [] E0 (tCons (tVar 0) (tCons (tLc (iTup K (tVar 3)) (gName 7) tYes (tLst (tCons (tVar 7) tNil)) [7]) tNil))))) (te := tVar 8)  rfl nd (pi_tup (pv 6))
          (blkOk_by (N := nCR) (sc := defScope sLwCommonRight) (by decide +kernel)) (fun _ _ _ _ _ => (pg_name (i := 8) nd rfl (Or.inl rfl))) (fun _ _ _ _ _ => (pts_one (pt_cmpR (op_inDT hu65) (pv 8) (pe_call RO.ok (hr.mono (by decide)) rfl RO.g RO.kp RO.b .nil pass0 (pa_cons (pv 0) (pa_cons (pe_lc (own := [("_law_bar", 7)]) (g := (gName 7)) (tt := tYes) (te := tLst (tCons (tVar 7) tNil))  rfl nd (pi_tup (pv 3))
          (blkOk_by (N := nCR) (sc := relS scCRo (defScope sLwCommonRight)) (by decide +kernel)) (fun _ _ _ _ _ => (pg_name (i := 7) nd rfl (Or.inl rfl))) (fun _ _ _ _ _ => pts_nil) (fun _ _ _ _ _ => (pe_lst (pa_cons (pv 7) pa_nil)))) pa_nil))) (by rfl)))) (fun _ _ _ _ _ => (pv 8))) (pe_lst (pa_cons (pe_callTy call_tuple_of (by rfl) T.tuple (by decide +kernel) (pa_cons (pv 5) pa_nil)) pa_nil)) (nomark _)))))))), ?_⟩
    obtain ⟨r, a, b, ls, one, m, i, rfl, rc, hs, hb, rd, rdm, hi, l4, ex, q⟩ := h
    have l8 := rc.l8
    have ln := rd.len
    have lm := rdm.len
    have hj : nxt one.length i < one.length := nxt_lt (by omega)
    refine ⟨_, rfl, _, rfl, a, _, _, _, rfl, rfl, hs, getL (i := i) rfl (by omega), _, rfl, _, rfl, _, _, rfl, rfl, .inl ⟨_, rfl, _, rfl, a, _, rfl, .inr hs, _, _, rfl, rfl, ?_⟩⟩
    rw [List.length_map]
    refine ⟨(show (0 : Int) < one.length by omega), ?_⟩
    dsimp only
    rw [show ((i : Int) + 1) % (one.length : Int) = ((nxt one.length i : Nat) : Int) from rfl]
    refine ⟨a, _, _, _, rfl, rfl, hs, getL (i := nxt one.length i) rfl hj, (by show 2 ≤ sizeLine; decide), fun l0 nl0 => ?_⟩
    have s1 : Same H (upd H l0 (.lst [.int (one.getD i 0), .int (one.getD (nxt one.length i) 0)])) := (Same.refl H).new nl0
    have hl0 : upd H l0 (.lst [.int (one.getD i 0), .int (one.getD (nxt one.length i) 0)]) l0 = some (.lst [.int (one.getD i 0), .int (one.getD (nxt one.length i) 0)]) := upd_same
    generalize upd H l0 (.lst [.int (one.getD i 0), .int (one.getD (nxt one.length i) 0)]) = H1 at s1 hl0 ⊢
    refine ⟨l0, [one.getD i 0, one.getD (nxt one.length i) 0], rfl, SqL.of hl0, fun ms p0 pm od np0 => ?_⟩
    have e : ms = sp2 one i := sorted_eqI (pm.trans (srt2_perm _ _).symm) od (srt2_sorted _ _)
    subst e
    have s2 : Same H1 (upd H1 p0 (.lst ((sp2 one i).map V.int))) := (Same.refl H1).new np0
    have hp0 : upd H1 p0 (.lst ((sp2 one i).map V.int)) p0 = some (.lst ((sp2 one i).map V.int)) := upd_same
    generalize upd H1 p0 (.lst ((sp2 one i).map V.int)) = H2 at s2 hp0 ⊢
    refine ⟨p0, _, rfl, .inl ⟨SqL.of hp0, fun t nt => ?_⟩⟩
    have s3 : Same H2 (upd H2 t (.tup ((sp2 one i).map V.int))) := (Same.refl H2).new nt
    have ht : upd H2 t (.tup ((sp2 one i).map V.int)) t = some (.tup ((sp2 one i).map V.int)) := upd_same
    generalize upd H2 t (.tup ((sp2 one i).map V.int)) = H3 at s3 ht ⊢
    have s03 := (s1.trans s2).trans s3
    have hs3 := s03.tup hs
    -- the lots
    refine ⟨_, rfl, a, rfl, ⟨_, hs3⟩, fun D nD => ?_⟩
    have nD0 := s03.free nD
    obtain ⟨kp, hkp⟩ : ∃ kp : Int → Bool, kp = fun b => !decide (b ∈ sp2 one i) := ⟨_, rfl⟩
    refine lc_tup (K := K) (a := a) (xs := one.map V.int) (fun j H' => Same H3 H' ∧ ∃ us, H' D = some (.lst us) ∧ TL H' us (((one.take j).filter kp).map fun b => [b])) ⟨(Same.refl H3).new nD, [], upd_same, .nil⟩ (fun j H' _ z => z.1.tup hs3) ?_ ?_
    · rintro j y H' hj ⟨s4, us, h4, tl⟩
      obtain ⟨z, hz, rfl⟩ := int_at hj
      have hjl : j < one.length := (List.getElem?_eq_some_iff.mp hz).1
      have ul : us.length ≤ j := by
        rw [par_len tl, List.length_map]
        refine Nat.le_trans (List.length_filter_le ..) ?_
        rw [List.length_take]; omega
      refine ⟨rfl, _, rfl, _, rfl, t, _, rfl, .inr (.inl (.inl (s4 _ _ ht))), rfl, flat_ints _, _, rfl, ?_⟩
      have eb : (!inV (.int z) ((sp2 one i).map V.int)) = kp z := by
        rw [hkp, inV_int]
        congr 1
        by_cases c : z ∈ sp2 one i
        · rw [decide_eq_true c, List.any_eq_true]
          exact ⟨z, c, decide_eq_true rfl⟩
        · rw [decide_eq_false c, List.any_eq_false]
          intro y hy yz
          rw [of_decide_eq_true yz] at hy
          exact c hy
      show (if (!inV (.int z) ((sp2 one i).map V.int)) = true then _ else _)
      rw [eb, ← take_snoc hz, List.filter_append, List.map_append]
      cases ek : kp z with
      | true =>
        refine iteT ⟨_, rfl, (by show 1 ≤ sizeLine; decide), fun c nc => ⟨us, ((Same.refl H').new nc) _ _ h4, sm (by omega), (s4.new nc).mut nD, _, upd_same, ?_⟩⟩
        have s5 : Same H' (upd H' c (.tup [.int z])) := (Same.refl H').new nc
        have e1 : (List.filter kp [z]).map (fun b => [b]) = [[z]] := by simp [List.filter, ek]
        rw [e1]
        refine par_app ((tl.same s5).mut (s5 _ _ h4)) (.cons ⟨c, rfl, ?_⟩ .nil)
        rw [upd_ne (ne_of_none h4 nc).symm, upd_same]
        rfl
      | false =>
        refine iteF ⟨s4, us, h4, ?_⟩
        have e1 : (List.filter kp [z]).map (fun b => [b]) = ([] : List (List Int)) := by simp [List.filter, ek]
        rw [e1, List.append_nil]
        exact tl
    rintro H4 ⟨s4, us, h4, tl⟩
    rw [List.length_map, List.take_length] at tl
    have s04 := s03.trans s4
    have ul : us.length ≤ 8 := by
      rw [par_len tl, List.length_map]
      refine Nat.le_trans (List.length_filter_le ..) ?_
      omega
    have ht4 := s4 _ _ ht
    -- with the two
    refine ⟨fun σ' H' => ∃ (u : Addr) (ws : List V), σ' = [some (.ref r), some (.ref a), some (.int (i : Nat)), some (.ref b), some (.ref t), some (.ref u), none, none, none] ∧ Same H H' ∧ H' u = some (.lst ws) ∧ TL H' ws (lawC one i), ?_, ?_⟩
    · refine ⟨_, rfl, _, rfl, a, _, rfl, .inr (s04.tup hs), _, _, rfl, rfl, rfl, _, rfl, ?_⟩
      by_cases c : i = one.length - 1
      · refine iteDT (by show V.int _ = V.int _; rw [List.length_map]; congr 1; omega) ?_
        refine ⟨_, rfl, (by show 1 ≤ sizeLine; decide), fun g ng => ?_⟩
        have s5 : Same H4 (upd H4 g (.lst [.ref t])) := (Same.refl H4).new ng
        have hg : upd H4 g (.lst [.ref t]) g = some (.lst [.ref t]) := upd_same
        generalize upd H4 g (.lst [.ref t]) = H5 at s5 hg ⊢
        refine ⟨_, rfl, g, D, _, _, rfl, rfl, hg, s5 _ _ h4, (by rw [List.length_singleton]; exact Nat.le_of_lt (sm (by omega))), fun u nu => ?_⟩
        have s6 : Same H5 (upd H5 u (.lst ([.ref t] ++ us))) := (Same.refl H5).new nu
        have hu : upd H5 u (.lst ([.ref t] ++ us)) u = some (.lst ([.ref t] ++ us)) := upd_same
        generalize upd H5 u (.lst ([.ref t] ++ us)) = H6 at s6 hu ⊢
        refine ⟨u, _, rfl, (s04.trans s5).trans s6, hu, ?_⟩
        unfold lawC
        rw [if_pos c, ← hkp]
        exact .cons ⟨t, rfl, s6 _ _ (s5 _ _ ht4)⟩ ((tl.same s5).same s6)
      · refine iteDF (fun z => c (by have := V.int.inj z; rw [List.length_map] at this; omega)) ?_
        refine ⟨_, rfl, .inl ⟨rfl, _, SqL.of h4⟩, _, rfl, _, rfl, D, us, (i : Int), .ref t, rfl, rfl, h4, sm (by omega), by omega, by omega, ?_⟩
        refine ⟨D, _, rfl, s04.mut nD0, upd_same, ?_⟩
        unfold lawC
        rw [if_neg c, ← hkp, show (i : Int).toNat = i from rfl]
        have tl' := tl.mut (ws := us.take i ++ [.ref t] ++ us.drop i) h4
        exact par_app (par_app (par_take i tl') (.cons ⟨t, rfl, by rw [upd_ne fun z => by rw [z, h4] at ht4; cases ht4]; exact ht4⟩ .nil)) (par_drop i tl')
    rintro σ H5 ⟨u, ws, rfl, s05, hu, tlu⟩
    have hs5 := s05.tup hs
    -- my rim
    refine ⟨_, rfl, _, rfl, a, rfl, ⟨_, hs5⟩, fun D2 nD2 => ?_⟩
    refine lc_tup (K := K) (a := a) (xs := one.map V.int) (fun j H' => Same H5 H' ∧ ∃ us, H' D2 = some (.lst us) ∧ LLd D2 H' us (one.take j)) ⟨(Same.refl H5).new nD2, [], upd_same, .nil⟩ (fun j H' _ z => z.1.tup hs5) ?_ ?_
    · rintro j y H' hj ⟨s6, vs6, h6, ll⟩
      obtain ⟨z, hz, rfl⟩ := int_at hj
      have hjl : j < one.length := (List.getElem?_eq_some_iff.mp hz).1
      refine ⟨rfl, _, rfl, (by show 1 ≤ sizeLine; decide), fun c nc => ?_⟩
      have s7 : Same H' (upd H' c (.lst [.int z])) := (Same.refl H').new nc
      have ncD : c ≠ D2 := (ne_of_none h6 nc).symm
      refine ⟨vs6, s7 _ _ h6, ?_, (s6.trans s7).mut nD2, _, upd_same, ?_⟩
      · rw [par_len ll, List.length_take]; exact sm (by omega)
      · rw [← take_snoc hz]
        exact par_app (par_imp (fun _ _ ⟨q, e, n, k⟩ => ⟨q, e, n, by rw [upd_ne n]; exact s7 _ _ k⟩) ll) (.cons ⟨c, rfl, ncD, by rw [upd_ne ncD, upd_same]⟩ .nil)
    rintro H6 ⟨s6, vs6, h6, ll6⟩
    rw [List.length_map, List.take_length] at ll6
    have s06 := s05.trans s6
    refine ⟨r, D2, ls, one, vs6, rfl, rc.same s06, h6, ll6.ll, rd, fun pM ys cs H7 s7 hpM pc pmc => ?_⟩
    have s07 := s06.trans s7
    have cl8 : cs.length ≤ 8 := by
      rw [pmc.length_eq]
      unfold rimL
      rw [List.length_map]
      refine Nat.le_trans (List.length_filter_le ..) ?_
      rw [List.length_range]; omega
    have yl : ys.length = cs.length := par_len pc
    obtain ⟨kc, hkc⟩ : ∃ kc : List (List Int) → Bool, kc = fun c => decide (c ∈ rimL ls m) := ⟨_, rfl⟩
    -- those of both
    refine ⟨_, rfl, pM, rfl, ⟨_, .inl (.inl hpM)⟩, fun D3 nD3 => ?_⟩
    refine lc_tup (K := K) (a := pM) (xs := ys) (fun j H' => Same H7 H' ∧ ∃ us, H' D3 = some (.lst us) ∧ Paired (CellV H') us ((cs.take j).filter kc)) ⟨(Same.refl H7).new nD3, [], upd_same, .nil⟩ (fun j H' _ z => .inl (.inl (z.1 _ _ hpM))) ?_ ?_
    · rintro j y H' hj ⟨s8, us8, h8, pu8⟩
      obtain ⟨c, hc, cv⟩ := par_get pc hj
      have hjl : j < cs.length := (List.getElem?_eq_some_iff.mp hc).1
      have cv8 := CellV.same cv s8
      have s08 := s07.trans s8
      have hb8 := s08.tup hb
      refine ⟨rfl, _, rfl, _, rfl, _, rfl, b, rfl, ⟨_, hb8⟩, fun D4 nD4 => ?_⟩
      refine lc_tup (K := K) (a := b) (xs := m.map V.int) (fun j H'' => Same H' H'' ∧ ∃ us, H'' D4 = some (.lst us) ∧ LLd D4 H'' us (m.take j)) ⟨(Same.refl H').new nD4, [], upd_same, .nil⟩ (fun j H'' _ z => z.1.tup hb8) ?_ ?_
      · rintro j y H'' hj ⟨s9, vs9, h9, ll⟩
        obtain ⟨z, hz, rfl⟩ := int_at hj
        have hjl : j < m.length := (List.getElem?_eq_some_iff.mp hz).1
        refine ⟨rfl, _, rfl, (by show 1 ≤ sizeLine; decide), fun c nc => ?_⟩
        have s10 : Same H'' (upd H'' c (.lst [.int z])) := (Same.refl H'').new nc
        have ncD : c ≠ D4 := (ne_of_none h9 nc).symm
        refine ⟨vs9, s10 _ _ h9, ?_, (s9.trans s10).mut nD4, _, upd_same, ?_⟩
        · rw [par_len ll, List.length_take]; exact sm (by omega)
        · rw [← take_snoc hz]
          exact par_app (par_imp (fun _ _ ⟨q, e, n, k⟩ => ⟨q, e, n, by rw [upd_ne n]; exact s10 _ _ k⟩) ll) (.cons ⟨c, rfl, ncD, by rw [upd_ne ncD, upd_same]⟩ .nil)
      rintro H9 ⟨s9, vs9, h9, ll9⟩
      rw [List.length_map, List.take_length] at ll9
      refine ⟨r, D4, ls, m, vs9, rfl, rc.same (s08.trans s9), h9, ll9.ll, rdm, fun p2 ys2 cs2 H10 s10 hp2 pc2 pm2 => ?_⟩
      have s810 := s9.trans s10
      obtain ⟨ca, cxs, rfl, hca, cpx⟩ := CellV.same cv8 s810
      refine ⟨cellD c, cs2.map cellD, .tup (.inl (.inl hca)) (tl_dp cpx), .tup (.inl (.inl hp2)) (cells_dp pc2), cell_sh c, cells_shT cs2, _, rfl, ?_⟩
      have em : ((cs2.map cellD).any fun z => PyData.eqv z (cellD c)) = kc c := by
        rw [cells_any, hkc]
        by_cases k : c ∈ cs2
        · rw [decide_eq_true k]; exact (decide_eq_true (pm2.mem_iff.mp k)).symm
        · rw [decide_eq_false k]; exact (decide_eq_false (fun z => k (pm2.mem_iff.mpr z))).symm
      show (if ((cs2.map cellD).any fun z => PyData.eqv z (cellD c)) = true then _ else _)
      rw [em, ← take_snoc hc, List.filter_append]
      have h10 := s810 _ _ h8
      have pu10 := par_imp (fun _ _ z => CellV.same z s810) pu8
      have ul8 : us8.length ≤ j := by
        rw [par_len pu8]
        refine Nat.le_trans (List.length_filter_le ..) ?_
        rw [List.length_take]; omega
      cases ek : kc c with
      | true =>
        refine iteT ⟨_, rfl, us8, h10, sm (by omega), (s8.trans s810).mut nD3, _, upd_same, ?_⟩
        have e1 : List.filter kc [c] = [c] := by simp [List.filter, ek]
        rw [e1]
        have cvT : CellV H10 (.ref ca) c := ⟨ca, cxs, rfl, hca, cpx⟩
        exact par_app (par_imp (fun _ _ z => CellV.mut z h10) pu10) (.cons (cvT.mut h10) .nil)
      | false =>
        refine iteF ⟨s8.trans s810, us8, h10, ?_⟩
        have e1 : List.filter kc [c] = [] := by simp [List.filter, ek]
        rw [e1, List.append_nil]
        exact pu10
    rintro H8 ⟨s8, us8, h8, pu8⟩
    rw [yl, List.take_length] at pu8
    have efc : cs.filter kc = [cellW one i] := by
      have p1 := pmc.filter kc
      rw [hkc] at p1 ⊢
      rw [ex.rim] at p1
      exact List.perm_singleton.mp p1
    rw [efc] at pu8
    have s58 := (s6.trans s7).trans s8
    have hu8 := s58 _ _ hu
    refine ⟨_, rfl, u, _, rfl, .inl ⟨SqL.of hu8, fun t2 nt2 => ?_⟩⟩
    have s9 : Same H8 (upd H8 t2 (.tup ws)) := (Same.refl H8).new nt2
    have ht2 : upd H8 t2 (.tup ws) t2 = some (.tup ws) := upd_same
    generalize upd H8 t2 (.tup ws) = H9 at s9 ht2 ⊢
    refine ⟨(by show 1 ≤ sizeLine; decide), fun eL neL => ?_⟩
    have s10 : Same H9 (upd H9 eL (.lst [.ref t2])) := (Same.refl H9).new neL
    have heL : upd H9 eL (.lst [.ref t2]) eL = some (.lst [.ref t2]) := upd_same
    generalize upd H9 eL (.lst [.ref t2]) = H10 at s10 heL ⊢
    have s810 := s9.trans s10
    have tlF := (tlu.same s58).same s810
    rw [lawC_eq rd l4 l8 hi] at tlF
    have dpL : DpAll K H10 [.ref t2] ([cellW one i].map cellD) := .cons (.tup (.inl (.inl (s10 _ _ ht2))) (tl_dp tlF)) .nil
    refine ⟨_, _, .lst (SqL.of (s810 _ _ h8)) (cells_dp (par_imp (fun _ _ z => CellV.same z s810) pu8)), .lst (SqL.of heL) dpL, cells_shL _, cells_shL _, ?_⟩
    have ev : PyData.eqv (.list ([cellW one i].map cellD)) (.list ([cellW one i].map cellD)) = true := by
      show PyData.eqv (.list [cellD (cellW one i)]) (.list [cellD (cellW one i)]) = true
      have := cellD_eqv (cellW one i) (cellW one i)
      rw [decide_eq_true rfl] at this
      simp [PyData.eqv, PyData.eqvAll, this]
    rw [ev]
    exact q _ ((s05.trans s58).trans s810)
end
end K
namespace L2
open PySem PySem.Spec PyProof.Rows Rg
variable {P : Program} {w : World} {K : PySem.W.Frag} {mg : Str → Option Value} {base : Heap}
theorem Fun.okG {x qual : Str} {st : Stmt} {f : Addr} {fd : FuncData} {N ps : List Str} {k : Nat} {sp : Sp} (F : Fun K x qual st f fd) (S : FnScope N ps (defScope st)) (len : ∀ vs H Q E, sp vs H Q E → vs.length = ps.length)
    (hbody : ∀ (cdv : Value) (A : Around) (outer : List Env) (s : Shared) (H : Hp) (vs : List V) (Q : VK) (E : XK), A.guards = some [] → Room k (A.deeper (envOfC qual (defScope st) s.heap.objs.size f cdv)) → sp vs H Q E →
      ∃ t, PSs (cxOf CX0 P w K mg base N qual (defScope st) f cdv A outer s H E).nox (defBody st) t ∧ t { nx := fun _ H' => Q .non H', rt := Q } (start N vs) H) : FnG P w K mg base CX0 (k + 1) f fd ps sp := by
  obtain ⟨oc, od, kV, doc, pm, an, cdv, ct, osl, rfl, lk, hcd⟩ := F.ex
  refine fn_ofG lk hcd S len fun A outer s H vs Q E ga hr hsp => ?_
  obtain ⟨t, h, q⟩ := hbody cdv A outer s H vs Q E ga hr hsp
  exact ⟨t, h.nox, q⟩
end L2
namespace K
open PySem L2 Rg
open Evl (pss_cut)
/-! ### what is shown is short -/
theorem dig : ∀ i : Nat, i < 8 → ((PyData.int (i : Int)).showable = true ∧ PyData.intsShort 13 (.int (i : Int)) = true ∧ PyData.weight (.int (i : Int)) ≤ 3) := by
  have h : ((List.range 8).all fun i : Nat => (PyData.int (i : Int)).showable && PyData.intsShort 13 (.int (i : Int)) && decide (PyData.weight (.int (i : Int)) ≤ 3)) = true := by decide +kernel
  intro i hi
  have := List.all_eq_true.mp h i (List.mem_range.mpr hi)
  simp only [Bool.and_eq_true, decide_eq_true_eq] at this
  exact ⟨this.1.1, this.1.2, this.2⟩
theorem digI {i : Int} (h0 : 0 ≤ i) (h8 : i < 8) : ((PyData.int i).showable = true ∧ PyData.intsShort 13 (.int i) = true ∧ PyData.weight (.int i) ≤ 3) := by
  have := dig i.toNat (by omega)
  rw [show ((i.toNat : Nat) : Int) = i by omega] at this
  exact this
theorem digs : ∀ l : List Int, (∀ i ∈ l, 0 ≤ i ∧ i < 8) → PyData.showableAll (l.map PyData.int) = true ∧ PyData.intsShortAll 13 (l.map PyData.int) = true ∧ PyData.weightAll (l.map PyData.int) ≤ 4 * l.length ∧ PyData.hasDictAll (l.map PyData.int) = false
  | [], _ => ⟨by simp [PyData.showableAll], by simp [PyData.intsShortAll], by simp [PyData.weightAll], by simp [PyData.hasDictAll]⟩
  | i :: l, h => by
    obtain ⟨a, b, c, d⟩ := digs l fun x hx => h x (List.mem_cons_of_mem _ hx)
    have hi := h i (List.mem_cons_self ..)
    obtain ⟨a1, b1, c1⟩ := digI hi.1 hi.2
    refine ⟨?_, ?_, ?_, ?_⟩
    · rw [List.map_cons, PyData.showableAll, a1, a]; rfl
    · rw [List.map_cons, PyData.intsShortAll, b1, b]; rfl
    · rw [List.map_cons, PyData.weightAll, List.length_cons]; omega
    · rw [List.map_cons, PyData.hasDictAll, d]; simp [PyData.hasDict]
theorem lotss : ∀ L : List (List Int), (∀ l ∈ L, l.length ≤ 8 ∧ ∀ i ∈ l, 0 ≤ i ∧ i < 8) → PyData.showableAll (L.map lotD) = true ∧ PyData.intsShortAll 13 (L.map lotD) = true ∧ PyData.weightAll (L.map lotD) ≤ 33 * L.length ∧ PyData.hasDictAll (L.map lotD) = false
  | [], _ => ⟨by simp [PyData.showableAll], by simp [PyData.intsShortAll], by simp [PyData.weightAll], by simp [PyData.hasDictAll]⟩
  | l :: L, h => by
    obtain ⟨a, b, c, d⟩ := lotss L fun x hx => h x (List.mem_cons_of_mem _ hx)
    obtain ⟨l8, hl⟩ := h l (List.mem_cons_self ..)
    obtain ⟨a1, b1, c1, d1⟩ := digs l hl
    have e1 : (lotD l).showable = true := by unfold lotD; rw [PyData.showable]; exact a1
    have e2 : (lotD l).intsShort 13 = true := by unfold lotD; rw [PyData.intsShort]; exact b1
    have e3 : (lotD l).weight ≤ 32 := by unfold lotD; rw [PyData.weight]; omega
    have e4 : (lotD l).hasDict = false := by unfold lotD; rw [PyData.hasDict]; exact d1
    refine ⟨?_, ?_, ?_, ?_⟩
    · rw [List.map_cons, PyData.showableAll, e1, a]; rfl
    · rw [List.map_cons, PyData.intsShortAll, e2, b]; rfl
    · rw [List.map_cons, PyData.weightAll, List.length_cons]; omega
    · rw [List.map_cons, PyData.hasDictAll, d, e4]; rfl
def Smd (d : PyData) : Prop := d.showable = true ∧ d.hasDict = false ∧ d.depth ≤ 60 ∧ d.shown.length ≤ sizeLine
theorem smd_lot {l : List Int} (l8 : l.length ≤ 8) (h : ∀ i ∈ l, 0 ≤ i ∧ i < 8) : Smd (lotD l) := by
  obtain ⟨a1, b1, c1, d1⟩ := digs l h
  have dp : (lotD l).depth ≤ 1 := by unfold lotD; rw [PyData.depth, deep_ints l]; exact Nat.le_refl _
  have e2 : (lotD l).intsShort 13 = true := by unfold lotD; rw [PyData.intsShort]; exact b1
  have ly : PyData.layable0 (lotD l) = true := by
    unfold PyData.layable0
    simp only [Bool.and_eq_true, decide_eq_true_eq]
    refine ⟨⟨?_, by omega⟩, ?_⟩
    · unfold lotD; rw [PyData.canLay0]; exact lay_ints l
    · unfold lotD; rw [PyData.weight]; omega
  refine ⟨by unfold lotD; rw [PyData.showable]; exact a1, by unfold lotD; rw [PyData.hasDict]; exact d1, by omega, ?_⟩
  exact Nat.le_trans (PyProof.Rows.shown_le13 ly e2) (by decide)
theorem smd_lots {L : List (List Int)} (L8 : L.length ≤ 100) (h : ∀ l ∈ L, l.length ≤ 8 ∧ ∀ i ∈ l, 0 ≤ i ∧ i < 8) : Smd (cellD L) := by
  obtain ⟨a1, b1, c1, d1⟩ := lotss L h
  obtain ⟨l1, l2⟩ := cell_lay L
  have e2 : (cellD L).intsShort 13 = true := by unfold cellD; rw [PyData.intsShort]; exact b1
  have ly : PyData.layable0 (cellD L) = true := by
    unfold PyData.layable0
    simp only [Bool.and_eq_true, decide_eq_true_eq]
    refine ⟨⟨l1, by omega⟩, ?_⟩
    unfold cellD; rw [PyData.weight]; omega
  refine ⟨by unfold cellD; rw [PyData.showable]; exact a1, by unfold cellD; rw [PyData.hasDict]; exact d1, by omega, ?_⟩
  exact Nat.le_trans (PyProof.Rows.shown_le13 ly e2) (by decide)
theorem rnd_small {n : Nat} {l : List Int} (h : Rnd n l) (h8 : n ≤ 8) : l.length ≤ 8 ∧ ∀ i ∈ l, 0 ≤ i ∧ i < 8 := by
  have ln := h.len
  refine ⟨by omega, fun i hi => ?_⟩
  have := h.lot.2 i hi
  omega
def showO (o : Option (List Int)) : Str := match o with
  | none => "None"
  | some l => (lotD l).shown
theorem repr_opt {K : PySem.W.Frag} {H : Hp} {Q : VK} {v : V} {o : Option (List Int)} (h : OptV H v o) (sm : ∀ l, o = some l → Smd (lotD l)) (q : Q (.str (showO o)) H) : rRepr K [v] H Q := by
  rcases h with ⟨e, f⟩ | ⟨l, t, e, f, ht⟩
  · subst e f
    exact ⟨_, rfl, .inr ⟨rfl, q⟩⟩
  · subst e f
    obtain ⟨a, b, c, d⟩ := sm l rfl
    exact ⟨_, rfl, .inl ⟨t, lotD l, rfl, .tup (.inl (.inl ht)) (dp_ints l), a, b, c, d, q⟩⟩
theorem repr_near {K : PySem.W.Frag} {H : Hp} {Q : VK} {t : Addr} {xs : List V} {L : List (List Int)} (h : H t = some (.tup xs)) (tl : TL H xs L) (sm : Smd (cellD L)) (q : Q (.str (cellD L).shown) H) : rRepr K [.ref t] H Q := by
  obtain ⟨a, b, c, d⟩ := sm
  exact ⟨_, rfl, .inl ⟨t, cellD L, rfl, .tup (.inl (.inl h)) (tl_dp tl), a, b, c, d, q⟩⟩
abbrev gEX {α : Type} : List α → List α → List α := fun us ws => match us, ws with
  | [], [a, b, c] => [c, b, a]
  | _, _ => []
abbrev gK2 {α : Type} : List α → List α → List α := fun us ws => match us, ws with
  | [], [a, b] => [b, a]
  | _, _ => []
/-! ### the law -/
section
variable {P : Program} {w : World} {K : PySem.W.Frag} {mg : Str → Option Value} {base : Heap}
abbrev nLaw : List Str := ["_law_script", "_law_can_here", "_law_lengths_here", "_law_many", "_law_ring", "_law_one", "_law_turn", "_law_at", "_law_due", "_law_near_here", "_law_lap", "_law_value", "_law_other"]
theorem scLaw : FnScope nLaw ["_law_script"] (defScope sLaw) := ⟨rfl, rfl, rfl, by decide +kernel, rfl, by decide +kernel, by decide +kernel⟩
def spLaw (K : PySem.W.Frag) : Sp := fun vs H Q _ => ∃ (a : Addr) (ns : List Int), vs = [.ref a] ∧ SqL K H a (ns.map V.int) ∧ ns.length ≤ 63 ∧ ∀ H', Q (.bl true) H'
/-- what stands between two turns -/
structure LS (K : PySem.W.Frag) (C p l r o : Addr) (e : Addr × List Int) (n : Nat) (ls one : List Int) (H : Hp) : Prop where
  pen : PenAt K H p e n
  rc : RC K C H r ls
  hl : H l = some (.lst (ls.map V.int))
  ho : H o = some (.tup (one.map V.int))
  rd : Rnd ls.length one
theorem LS.same {C p l r o : Addr} {e : Addr × List Int} {n : Nat} {ls one : List Int} {H H' : Hp} (h : LS K C p l r o e n ls one H) (s : Same H H') : LS K C p l r o e n ls one H' := ⟨h.pen.same s, h.rc.same s, s _ _ h.hl, s _ _ h.ho, h.rd⟩
theorem LS.mono {C p l r o : Addr} {e : Addr × List Int} {n m : Nat} {ls one : List Int} {H : Hp} (h : LS K C p l r o e n ls one H) (le : n ≤ m) : LS K C p l r o e m ls one H := ⟨h.pen.mono le, h.rc, h.hl, h.ho, h.rd⟩
theorem RC.but {C p r : Addr} {e : Addr × List Int} {n : Nat} {ls : List Int} {H H' : Hp} (h : RC K C H r ls) (b : But p H H') (pen : PenAt K H p e n) : RC K C H' r ls := ⟨h.ring.but b pen, h.l3, h.l8, h.cl, h.nl⟩
/-- a tuple is not the pen -/
theorem tup_ne {p o : Addr} {e : Addr × List Int} {n : Nat} {H : Hp} {xs : List V} (pen : PenAt K H p e n) (h : H o = some (.tup xs)) : o ≠ p := fun z => by
  obtain ⟨ys, hp⟩ := pen.some
  rw [z, hp] at h
  cases h
theorem LS.but {C p l r o : Addr} {e : Addr × List Int} {n m : Nat} {ls one : List Int} {H H' : Hp} (h : LS K C p l r o e n ls one H) (nl : l ≠ p) (b : But p H H') (pen : PenAt K H' p e m) : LS K C p l r o e m ls one H' :=
  ⟨pen, h.rc.but b h.pen, b _ _ nl h.hl, b _ _ (tup_ne h.pen h.ho) h.ho, h.rd⟩
theorem near_len {ls one : List Int} {n : Nat} (h : one.length = n) : (nearL ls one).length ≤ n := by
  unfold nearL
  refine Nat.le_trans (List.length_filterMap_le ..) ?_
  rw [List.length_range]
  omega
theorem ok_law {C f fP fLn fDr fX fE fN fI fK fB fC fLR fG : Addr} {fd fdP fdLn fdDr fdX fdE fdN fdI fdK fdB fdC fdLR fdG fdLE : FuncData} {fLE : Addr} (F : Fun K "law" "law" sLaw f fd) (T : Bi mg) (R : RingC K mg C) (G : RingP P w K mg base C fG fdG)
    (PN : DefAt P w K mg base CX0 2 "_law_can" ["_law_script"] (spPen K) fP fdP) (LN : DefAt P w K mg base CX0 4 "_law_lengths" ["_law_can_here", "_law_sizes"] (spLN K) fLn fdLn) (DR : DefAt P w K mg base CX0 3 "_law_drawn_round" ["_law_can_here", "_law_many"] (spDR K) fDr fdDr)
    (LX : DefAt P w K mg base CX0 3 "_law_exchanged" ["_law_lengths_here", "_law_one", "_law_at"] (spLX K) fX fdX) (LE : DefAt P w K mg base CX0 4 "_law_near" ["_law_lengths_here", "_law_one"] (spLE K) fLE fdLE)
    (EX : DefAt P w K mg base CX0 8 "exchanged" ["ring", "one", "at"] (spEX K C) fE fdE) (bEX : KBinds K fdE ["ring", "one", "at"] ["at", "one", "ring"] gEX gEX) (NR : DefAt P w K mg base CX0 9 "near_rounds" ["ring", "one"] (spNR K C) fN fdN) (bNR : KBinds K fdN ["ring", "one"] ["one", "ring"] gK2 gK2)
    (IR : DefAt P w K mg base CX0 7 "is_round" ["ring", "value"] (spMR K C) fI fdI) (bIR : KBinds K fdI ["ring", "value"] ["value", "ring"] gK2 gK2) (PK : DefAt P w K mg base CX0 3 "_law_take" ["_law_can_here", "_law_some"] (spPick K) fK fdK)
    (BN : DefAt P w K mg base CX0 4 "_law_bent" ["_law_can_here", "_law_one"] (spBN K) fB fdB) (LR : DefAt P w K mg base CX0 2 "_law_is_round" ["_law_lengths_here", "_law_value"] (spLR K) fLR fdLR) (CR : DefAt P w K mg base CX0 10 "_law_common_right" ["_law_ring", "_law_one", "_law_at", "_law_other"] (spCR K C) fC fdC) :
    FnG P w K mg base CX0 11 f fd ["_law_script"] (spLaw K) := by
  refine F.okG scLaw (fun vs H Q E h => ?_) (fun cdv A outer s H vs Q E ga hr h => ?_)
  · obtain ⟨a, ns, rfl, _⟩ := h
    rfl
  · have nd := scLaw.nd
    have hu65 : (A.deeper (PyProof.Rows.envOfC "law" (defScope sLaw) s.heap.objs.size f cdv)).units + 65 < cLine := by have := hr.un; omega
    have gX : (A.deeper (PyProof.Rows.envOfC "law" (defScope sLaw) s.heap.objs.size f cdv)).guards = some [] := ga
    refine ⟨_, (pss_cons (ps_set (i := 1) nd rfl (Or.inl rfl) (pe_call PN.ok (hr.mono (by decide)) rfl PN.g PN.kp PN.b .nil pass0 (pa_cons (pv 0) pa_nil)))
      (pss_cons (ps_set (i := 2) nd rfl (Or.inl rfl) (pe_call LN.ok (hr.mono (by decide)) rfl LN.g LN.kp LN.b .nil pass0 (pa_cons (pv 1) (pa_cons (pe_lst (pa_cons pe_int (pa_cons pe_int (pa_cons pe_int (pa_cons pe_int (pa_cons pe_int (pa_cons pe_int (pa_cons pe_int (pa_cons pe_int pa_nil))))))))) pa_nil))))
      (pss_cons (ps_asg (pe_tup (pa_cons (pe_callB (r := rLenS K) call_len_seq (by rfl) T.len PySem.boot_len (pa_cons (pv 2) pa_nil)) (pa_cons (pe_make G.made G.ok (hr.mono (by decide)) (by rfl) R.g G.b .nil pass0 (pa_cons (pv 2) pa_nil)) pa_nil))) (pg_tup (by rfl) (pgs_cons (pg_name (i := 3) nd rfl (Or.inl rfl)) (pgs_cons (pg_name (i := 4) nd rfl (Or.inr rfl)) pgs_nil))))
      (pss_cons (ps_set (i := 5) nd rfl (Or.inr rfl) (pe_call DR.ok (hr.mono (by decide)) rfl DR.g DR.kp DR.b .nil pass0 (pa_cons (pv 1) (pa_cons (pv 3) pa_nil))))
      (pss_cons (ps_for PassesOwn.never rfl (pi_range1 (by rfl) T.range (pa_cons pe_int pa_nil)) (pg_name (i := 6) nd rfl (Or.inl rfl)) (pss_cons (ps_for PassesOwn.never rfl (pi_range1 (by rfl) T.range (pa_cons (pv 3) pa_nil)) (pg_name (i := 7) nd rfl (Or.inl rfl)) (pss_cons (ps_set (i := 8) nd rfl (Or.inl rfl) (pe_call LX.ok (hr.mono (by decide)) rfl LX.g LX.kp LX.b .nil pass0 (pa_cons (pv 2) (pa_cons (pv 5) (pa_cons (pv 7) pa_nil)))))
      (pss_cons (ps_if (pt_cmpR op_ne (pe_callB (cr_repr gX hu65) (by rfl) T.repr (by decide +kernel) (pa_cons (pe_callK0 EX.ok (hr.mono (by decide)) rfl EX.g EX.kp bEX pass0 (pk_cons (pv 7) (pk_cons (pe_callTy call_list_of (by rfl) T.list (by decide +kernel) (pa_cons (pv 5) pa_nil)) (pk_cons (pv 4) pk_nil)))) pa_nil)) (pe_callB (cr_repr gX hu65) (by rfl) T.repr (by decide +kernel) (pa_cons (pv 8) pa_nil)) (nomark _)) (pss_one ps_never) pss_nil)
      (pss_one (ps_if (PW.pt (pw_and (pt_cmpR op_notN (pv 8) pe_non (nomark _)) (pw_and1 (pt_not (pt_val (pe_call CR.ok (hr.mono (by decide)) rfl CR.g CR.kp CR.b .nil pass0 (pa_cons (pv 4) (pa_cons (pv 5) (pa_cons (pv 7) (pa_cons (pv 8) pa_nil)))))))))) (pss_one ps_never) pss_nil)))))
      (pss_cons (ps_set (i := 9) nd rfl (Or.inl rfl) (pe_callK0 NR.ok (hr.mono (by decide)) rfl NR.g NR.kp bNR pass0 (pk_cons (pe_callTy call_list_of (by rfl) T.list (by decide +kernel) (pa_cons (pv 5) pa_nil)) (pk_cons (pv 4) pk_nil))))
      (pss_cons (ps_if (PW.pt (pw_or (pt_cmpR op_ne (pe_callB (cr_repr gX hu65) (by rfl) T.repr (by decide +kernel) (pa_cons (pv 9) pa_nil)) (pe_callB (cr_repr gX hu65) (by rfl) T.repr (by decide +kernel) (pa_cons (pe_callTy call_tuple_of (by rfl) T.tuple (by decide +kernel) (pa_cons (pe_call LE.ok (hr.mono (by decide)) rfl LE.g LE.kp LE.b .nil pass0 (pa_cons (pv 2) (pa_cons (pv 5) pa_nil))) pa_nil)) pa_nil)) (nomark _)) (pw_or1 (pt_cmpR (op_neD hr.units) (pe_lc (own := [("_law_other", 12)]) (g := (gName 12)) (tt := tTest (tOp (rNotInDT K) (tVar 5) (tCall (spNR K C) [] E0 (tCons (tVar 4) (tCons (tVar 12) tNil))))) (te := tVar 12)  rfl nd (pi_tup (pv 9))
          (blkOk_by (N := nLaw) (sc := defScope sLaw) (by decide +kernel)) (fun _ _ _ _ _ => (pg_name (i := 12) nd rfl (Or.inl rfl))) (fun _ _ _ _ _ => (pts_one (pt_cmpR (op_notInDT hu65) (pv 5) (pe_call NR.ok (hr.mono (by decide)) rfl NR.g NR.kp NR.b .nil pass0 (pa_cons (pv 4) (pa_cons (pv 12) pa_nil))) (by rfl)))) (fun _ _ _ _ _ => (pv 12))) (pe_lst pa_nil) (nomark _))))) (pss_one ps_never) pss_nil)
      (pss_cons (ps_for PassesOwn.never rfl (pi_range1 (by rfl) T.range (pa_cons pe_int pa_nil)) (pg_name (i := 10) nd rfl (Or.inl rfl)) (pss_cons (ps_set (i := 11) nd rfl (Or.inl rfl) (pe_call BN.ok (hr.mono (by decide)) rfl BN.g BN.kp BN.b .nil pass0 (pa_cons (pv 1) (pa_cons (pv 5) pa_nil))))
      (pss_one (ps_if (pt_cmpR op_ne (pe_callK0 IR.ok (hr.mono (by decide)) rfl IR.g IR.kp bIR pass0 (pk_cons (pv 11) (pk_cons (pv 4) pk_nil))) (pe_call LR.ok (hr.mono (by decide)) rfl LR.g LR.kp LR.b .nil pass0 (pa_cons (pv 2) (pa_cons (pv 11) pa_nil))) (nomark _)) (pss_one ps_never) pss_nil))))
      (pss_cons (ps_if (PW.pt (pw_or (pt_cmpR op_notBl (pe_call IR.ok (hr.mono (by decide)) rfl IR.g IR.kp IR.b .nil pass0 (pa_cons (pv 4) (pa_cons (pv 5) pa_nil))) pe_bl (nomark _)) (pw_or1 (pt_cmpR op_notBl (pe_call IR.ok (hr.mono (by decide)) rfl IR.g IR.kp IR.b .nil pass0 (pa_cons (pv 4) (pa_cons (pe_callTy call_list_of (by rfl) T.list (by decide +kernel) (pa_cons (pv 5) pa_nil)) pa_nil))) pe_bl (nomark _))))) (pss_one ps_never) pss_nil)
      (pss_one (ps_set (i := 5) nd rfl (Or.inr rfl) (pe_call PK.ok (hr.mono (by decide)) rfl PK.g PK.kp PK.b .nil pass0 (pa_cons (pv 1) (pa_cons (pe_op op_cat (pe_callTy call_list_of (by rfl) T.list (by decide +kernel) (pa_cons (pv 9) pa_nil)) (pe_lst (pa_cons (pe_call DR.ok (hr.mono (by decide)) rfl DR.g DR.kp DR.b .nil pass0 (pa_cons (pv 1) (pa_cons (pv 3) pa_nil))) pa_nil))) pa_nil)))))))))))
      (pss_one (ps_ret (pe_or (pe_cmpR op_gt (pv 3) pe_int (nomark _)) (pe_one (pe_cmpR (op_eqD hr.units) (pv 9) (pe_tup pa_nil) (nomark _))))))))))), ?_⟩
    obtain ⟨a, ns, rfl, hs, hl, q⟩ := h
    refine ⟨_, rfl, a, ns, rfl, hs, hl, fun p e H1 s1 np pen1 => ?_⟩
    refine ⟨_, rfl, (by show 8 ≤ sizeLine; decide), fun u0 nu0 => ?_⟩
    have npu := pen1.ne nu0
    have s2 : Same H1 (upd H1 u0 (.lst [.int 4, .int 5, .int 6, .int 3, .int 4, .int 5, .int 7, .int 8])) := (Same.refl H1).new nu0
    have hu : upd H1 u0 (.lst [.int 4, .int 5, .int 6, .int 3, .int 4, .int 5, .int 7, .int 8]) u0 = some (.lst [.int 4, .int 5, .int 6, .int 3, .int 4, .int 5, .int 7, .int 8]) := upd_same
    generalize upd H1 u0 (.lst [.int 4, .int 5, .int 6, .int 3, .int 4, .int 5, .int 7, .int 8]) = H2 at s2 hu ⊢
    have pen2 := pen1.same s2
    refine ⟨p, u0, e, [4, 5, 6, 3, 4, 5, 7, 8], _, rfl, SqL.of hu, npu, (by decide), (by decide), (by decide), by decide, pen2, fun l ls H3 l3 l8 bd cl nl nul hl3 b3 pen3 => ?_⟩
    have nlp : l ≠ p := pen2.ne nul
    refine ⟨_, rfl, l, _, rfl, .inl (SqL.of hl3), _, rfl, madeL2 hl3 l3 l8 (bd.le (by decide)) fun r H4 ring4 s4 nr4 => ⟨rfl, (by show 2 ≤ sizeLine; decide), fun t nt => ?_⟩⟩
    rw [List.length_map]
    have s5 : Same H4 (upd H4 t (.tup [.int (ls.length : Nat), .ref r])) := (Same.refl H4).new nt
    have ht : upd H4 t (.tup [.int (ls.length : Nat), .ref r]) t = some (.tup [.int (ls.length : Nat), .ref r]) := upd_same
    generalize upd H4 t (.tup [.int (ls.length : Nat), .ref r]) = H5 at s5 ht ⊢
    have s35 := s4.trans s5
    refine ⟨t, _, rfl, .inl (.inl ht), rfl, _, _, rfl, _, _, rfl, rfl, ?_⟩
    have pen5 := pen3.same s35
    have rc5 : RC K C H5 r ls := ⟨ring4.same s5, l3, l8, cl, nl⟩
    refine ⟨_, rfl, _, rfl, p, e, ls.length, _, rfl, l3, l8, by omega, pen5, fun o0 one0 H6 rd0 no0 ho0 b6 pen6 => ?_⟩
    have st0 : LS K C p l r o0 e 40 ls one0 H6 := ⟨pen6.mono (by omega), rc5.but b6 pen5, b6 _ _ nlp (s35 _ _ hl3), ho0, rd0⟩
    refine ⟨_, rfl, by decide, by decide, ?_⟩
    refine for_range (lo := 0) (n := (3 : Int).toNat) (fun i σ H' => ∃ (o : Addr) (one : List Int) (z6 z7 z8 z9 z10 z11 : Option V), σ = [some (.ref a), some (.ref p), some (.ref l), some (.int (ls.length : Nat)), some (.ref r), some (.ref o), z6, z7, z8, z9, z10, z11, none] ∧ LS K C p l r o e (40 + 100 * i) ls one H' ∧ (0 < i → ∃ nr xs, z9 = some (.ref nr) ∧ H' nr = some (.tup xs) ∧ (ls.length = 3 → xs = [])))
      ⟨o0, one0, none, none, none, none, none, none, rfl, st0, fun z => absurd z (by decide)⟩ ?_ ?_
    · rintro i σ H7 hi ⟨o, one, z6, z7, z8, z9, z10, z11, rfl, st, _⟩
      have hi3 : i < 3 := hi
      have rd := st.rd
      have ln := rd.len
      have small : ∀ m, Rnd ls.length m → m.length ≤ 8 ∧ ∀ i ∈ m, 0 ≤ i ∧ i < 8 := fun m h => rnd_small h l8
      -- each exchange
      refine ⟨_, rfl, _, rfl, by omega, by omega, ?_⟩
      refine for_range (lo := 0) (n := ((ls.length : Nat) : Int).toNat) (fun j σ H' => ∃ (z6 z7 z8 : Option V), σ = [some (.ref a), some (.ref p), some (.ref l), some (.int (ls.length : Nat)), some (.ref r), some (.ref o), z6, z7, z8, z9, z10, z11, none] ∧ Same H7 H') ⟨_, z7, z8, rfl, Same.refl H7⟩ ?_ ?_
      · rintro j σ H8 hj ⟨z6, z7, z8, rfl, s8⟩
        rw [Int.toNat_natCast] at hj
        rw [Int.zero_add]
        have st8 := st.same s8
        refine ⟨_, rfl, _, rfl, _, rfl, l, o, ls, one, j, rfl, SqL.of st8.hl, l3, l8, nl, .inl (.inl st8.ho), rd, hj, fun v H9 s9 ov => ?_⟩
        have st9 := st8.same s9
        have smO : ∀ m, exch ls one j = some m → Smd (lotD m) := fun m em => smd_lot (small m (exch_rnd rd (by omega) hj em)).1 (small m (exch_rnd rd (by omega) hj em)).2
        refine ⟨_, rfl, _, rfl, o, _, rfl, .inr (.inl (.inl st9.ho)), fun l1 nl1 => ?_⟩
        have s10 : Same H9 (upd H9 l1 (.lst (one.map V.int))) := (Same.refl H9).new nl1
        have hl1 : upd H9 l1 (.lst (one.map V.int)) l1 = some (.lst (one.map V.int)) := upd_same
        generalize upd H9 l1 (.lst (one.map V.int)) = H10 at s10 hl1 ⊢
        have st10 := st9.same s10
        refine ⟨_, rfl, r, l1, ls, one, j, rfl, st10.rc, hl1, rd, hj, fun v2 H11 s11 ov2 => ?_⟩
        dsimp only [tNil]
        refine repr_opt ov2 smO ?_
        have st11 := st10.same s11
        have s911 := s10.trans s11
        have ov11 := ov.same s911
        refine ⟨_, rfl, ?_⟩
        dsimp only [tNil]
        refine repr_opt ov11 smO ⟨rfl, _, rfl, iteBF (ne_vv _) ?_⟩
        have s711 := (s8.trans s9).trans s911
        refine ⟨_, rfl, rfl, _, rfl, ?_⟩
        rcases ov11 with ⟨_, rfl⟩ | ⟨m, tm, em, rfl, htm⟩
        · exact iteF ⟨_, _, _, rfl, s711⟩
        · refine iteT ?_
          have l4 : 4 ≤ ls.length := by
            by_cases c : ls.length = 3
            · rw [three_none rd c cl nl (by omega)] at em
              cases em
            · omega
          refine ⟨_, rfl, _, rfl, _, rfl, _, rfl, r, o, tm, ls, one, m, j, rfl, st11.rc, .inl (.inl st11.ho), .inl (.inl htm), rd, exch_rnd rd (by omega) hj em, hj, l4, exd_of rd l4 l8 nl hj em, fun H12 s12 => ⟨_, rfl, iteF ?_⟩⟩
          exact ⟨_, _, _, rfl, s711.trans s12⟩
      rintro σ H8 ⟨z6, z7, z8, rfl, s8⟩
      have st8 := st.same s8
      -- the rounds near
      refine ⟨_, rfl, o, _, rfl, .inr (.inl (.inl st8.ho)), fun l1 nl1 => ?_⟩
      have s9 : Same H8 (upd H8 l1 (.lst (one.map V.int))) := (Same.refl H8).new nl1
      have hl1 : upd H8 l1 (.lst (one.map V.int)) l1 = some (.lst (one.map V.int)) := upd_same
      generalize upd H8 l1 (.lst (one.map V.int)) = H9 at s9 hl1 ⊢
      have st9 := st8.same s9
      refine ⟨_, rfl, r, l1, ls, one, rfl, st9.rc, .inl hl1, rd, fun nr xs nss H10 s10 hnr tl srt => ?_⟩
      have st10 := st9.same s10
      have nmem : ∀ m ∈ nss, m ∈ nearL ls one := fun m hm => srt.1.mem_iff.mp hm
      have nrd : ∀ m ∈ nss, Rnd ls.length m := fun m hm => near_rnd rd (by omega) (nmem m hm)
      have nlen : nss.length ≤ 8 := by
        rw [srt.1.length_eq]
        exact Nat.le_trans (near_len ln) l8
      have smN : Smd (cellD nss) := smd_lots (by omega) fun m hm => small m (nrd m hm)
      refine ⟨_, rfl, ?_⟩
      dsimp only [tNil]
      refine repr_near hnr tl smN ?_
      refine ⟨_, rfl, _, rfl, l, o, ls, one, rfl, SqL.of st10.hl, l3, l8, nl, .inl (.inl st10.ho), rd, fun p2 xs2 nss2 H11 s11 hp2 tl2 srt2 => ?_⟩
      have en : nss2 = nss := srt2.eq srt
      rw [en] at tl2
      refine ⟨p2, _, rfl, .inl ⟨SqL.of hp2, fun t2 nt2 => ?_⟩⟩
      have s12 : Same H11 (upd H11 t2 (.tup xs2)) := (Same.refl H11).new nt2
      have ht2 : upd H11 t2 (.tup xs2) t2 = some (.tup xs2) := upd_same
      generalize upd H11 t2 (.tup xs2) = H12 at s12 ht2 ⊢
      have s1012 := s11.trans s12
      have st12 := st10.same s1012
      dsimp only [tNil]
      refine repr_near ht2 (tl2.same s12) smN ⟨rfl, _, rfl, iteBF (ne_vv _) ?_⟩
      have hnr12 := s1012 _ _ hnr
      have tl12 := tl.same s1012
      have xl : xs.length ≤ 8 := by rw [par_len tl]; exact nlen
      refine ⟨_, rfl, nr, rfl, ⟨_, .inl (.inl hnr12)⟩, fun D nD => ?_⟩
      refine lc_tup (K := K) (a := nr) (xs := xs) (fun j H' => Same H12 H' ∧ H' D = some (.lst [])) ⟨(Same.refl H12).new nD, upd_same⟩ (fun j H' _ z => .inl (.inl (z.1 _ _ hnr12))) ?_ ?_
      · rintro j x H' hx ⟨s13, h13⟩
        obtain ⟨m, hm, b, rfl, hb⟩ := par_get tl12 hx
        have st13 := st12.same s13
        have mm := List.mem_of_getElem? hm
        have rdm := nrd m mm
        refine ⟨rfl, _, rfl, _, rfl, _, rfl, r, b, ls, m, rfl, st13.rc, .inr (s13 _ _ hb), rdm, fun p3 xs3 nss3 H14 s14 hp3 tl3 srt3 => ?_⟩
        have st14 := st13.same s14
        refine ⟨lotD one, nss3.map lotD, .tup (.inl (.inl st14.ho)) (dp_ints one), .tup (.inl (.inl hp3)) (tl_dp tl3), sh_tup one, tl_shapedT nss3, _, rfl, ?_⟩
        have back : one ∈ nss3 := by
          obtain ⟨i', hi', em⟩ := List.mem_filterMap.mp (nmem m mm)
          have hi2 : i' < ls.length := by have := List.mem_range.mp hi'; omega
          have l4 : 4 ≤ ls.length := by
            by_cases c : ls.length = 3
            · rw [three_none rd c cl nl (by omega)] at em
              cases em
            · omega
          obtain ⟨k, hk, ek⟩ := (exd_of rd l4 l8 nl hi2 em).back
          exact srt3.1.mem_iff.mpr (List.mem_filterMap.mpr ⟨k, List.mem_range.mpr (by rw [rdm.len, ← ln]; exact hk), ek⟩)
        have ea : ((nss3.map lotD).any fun z => PyData.eqv z (lotD one)) = true := by
          have := tl_any nss3 one
          rw [decide_eq_true back] at this
          exact this
        rw [ea]
        exact iteF ⟨s13.trans s14, s14 _ _ h13⟩
      rintro H13 ⟨s13, h13⟩
      refine ⟨(by show 0 ≤ sizeLine; decide), fun eL neL => ?_⟩
      have s14 : Same H13 (upd H13 eL (.lst [])) := (Same.refl H13).new neL
      have heL : upd H13 eL (.lst []) eL = some (.lst []) := upd_same
      generalize upd H13 eL (.lst []) = H14 at s14 heL ⊢
      refine ⟨_, _, .lst (SqL.of (s14 _ _ h13)) .nil, .lst (SqL.of heL) .nil, shaped_nil, shaped_nil, _, rfl, ?_⟩
      have ee : PyData.eqv (.list []) (.list []) = true := by simp [PyData.eqv, PyData.eqvAll]
      rw [ee]
      refine iteF ?_
      have s1214 := s13.trans s14
      have st14 := st12.same s1214
      have hnr14 := s1214 _ _ hnr12
      have tl14 := tl12.same s1214
      have three : ls.length = 3 → xs = [] := fun c => by
        have e0 : nss = [] := by
          have := srt.1
          rw [near_three rd c cl nl] at this
          exact List.perm_nil.mp this
        rw [e0] at tl
        exact List.eq_nil_of_length_eq_zero (par_len tl)
      -- bent rounds
      refine ⟨_, rfl, by decide, by decide, ?_⟩
      refine for_range (lo := 0) (n := (4 : Int).toNat) (fun j σ H' => ∃ (z10 z11 : Option V), σ = [some (.ref a), some (.ref p), some (.ref l), some (.int (ls.length : Nat)), some (.ref r), some (.ref o), z6, z7, z8, some (.ref nr), z10, z11, none] ∧ LS K C p l r o e (40 + 100 * i + 5 * j) ls one H' ∧ H' nr = some (.tup xs) ∧ TL H' xs nss) ⟨z10, z11, rfl, st14, hnr14, tl14⟩ ?_ ?_
      · rintro j σ H15 hj ⟨z10, z11, rfl, st15, hnr15, tl15⟩
        have hj4 : j < 4 := hj
        refine ⟨_, rfl, _, rfl, p, o, e, one, _, rfl, st15.ho, tup_ne st15.pen st15.ho, by omega, by omega, by omega, st15.pen, fun v H16 ⟨b, ev⟩ b16 pen16 => ?_⟩
        rw [ln] at ev
        have st16 := st15.but nlp b16 pen16
        have hnr16 := b16 _ _ (tup_ne st15.pen hnr15) hnr15
        have tl16 : TL H16 xs nss := par_imp (fun _ _ ⟨q, eq, hq⟩ => ⟨q, eq, b16 _ _ (tup_ne st15.pen hq) hq⟩) tl15
        refine ⟨_, rfl, _, rfl, r, v, ls, b, rfl, st16.rc, ev.rv, fun H17 s17 => ?_⟩
        have st17 := st16.same s17
        refine ⟨_, rfl, _, rfl, l, v, ls, b, rfl, SqL.of st17.hl, by omega, l8, ev.same s17, fun H18 s18 => ⟨rfl, _, rfl, iteBF (ne_bb rfl) ?_⟩⟩
        have s1618 := s17.trans s18
        exact ⟨_, _, rfl, (st17.same s18).mono (by omega), s1618 _ _ hnr16, tl16.same s1618⟩
      rintro σ H15 ⟨z10, z11, rfl, st15, hnr15, tl15⟩
      have rv15 : RV K H15 ls.length (.ref o) true := by rw [← rd.rd]; exact RV.tpl st15.ho (by omega)
      refine ⟨_, rfl, _, rfl, r, .ref o, ls, true, rfl, st15.rc, rv15, fun H16 s16 => ⟨true, true, rfl, rfl, _, rfl, iteF ?_⟩⟩
      have st16 := st15.same s16
      refine ⟨_, rfl, _, rfl, o, _, rfl, .inr (.inl (.inl st16.ho)), fun l2 nl2 => ?_⟩
      have s17 : Same H16 (upd H16 l2 (.lst (one.map V.int))) := (Same.refl H16).new nl2
      have hl2 : upd H16 l2 (.lst (one.map V.int)) l2 = some (.lst (one.map V.int)) := upd_same
      generalize upd H16 l2 (.lst (one.map V.int)) = H17 at s17 hl2 ⊢
      have st17 := st16.same s17
      have rv17 : RV K H17 ls.length (.ref l2) true := by rw [← rd.rd]; exact RV.lst hl2 (by omega)
      refine ⟨r, .ref l2, ls, true, rfl, st17.rc, rv17, fun H18 s18 => ⟨true, true, rfl, rfl, _, rfl, iteF ?_⟩⟩
      have s1518 := (s16.trans s17).trans s18
      have st18 := st15.same s1518
      have hnr18 := s1518 _ _ hnr15
      have tl18 := tl15.same s1518
      -- the next round
      refine ⟨_, rfl, _, rfl, nr, _, rfl, .inr (.inl (.inl hnr18)), fun g1 ng1 => ?_⟩
      have ng1p := st18.pen.ne ng1
      have s19 : Same H18 (upd H18 g1 (.lst xs)) := (Same.refl H18).new ng1
      have hg1 : upd H18 g1 (.lst xs) g1 = some (.lst xs) := upd_same
      generalize upd H18 g1 (.lst xs) = H19 at s19 hg1 ⊢
      have st19 := st18.same s19
      refine ⟨_, rfl, _, rfl, p, e, ls.length, _, rfl, l3, l8, by omega, st19.pen, fun o2 one2 H20 rd2 no2 ho2 b20 pen20 => ?_⟩
      have st20 := st19.but nlp b20 pen20
      have hnr20 := b20 _ _ (tup_ne st19.pen (s19 _ _ hnr18)) (s19 _ _ hnr18)
      have tl20 : TL H20 xs nss := par_imp (fun _ _ ⟨q, eq, hq⟩ => ⟨q, eq, b20 _ _ (tup_ne st19.pen hq) hq⟩) (tl18.same s19)
      have hg1' := b20 _ _ ng1p hg1
      refine ⟨(by show 1 ≤ sizeLine; decide), fun g2 ng2 => ?_⟩
      have s21 : Same H20 (upd H20 g2 (.lst [.ref o2])) := (Same.refl H20).new ng2
      have hg2 : upd H20 g2 (.lst [.ref o2]) g2 = some (.lst [.ref o2]) := upd_same
      generalize upd H20 g2 (.lst [.ref o2]) = H21 at s21 hg2 ⊢
      refine ⟨g1, g2, _, _, rfl, rfl, s21 _ _ hg1', hg2, (by rw [List.length_singleton]; exact Nat.le_of_lt (sm (by omega))), fun g3 ng3 => ?_⟩
      have s22 : Same H21 (upd H21 g3 (.lst (xs ++ [.ref o2]))) := (Same.refl H21).new ng3
      have hg3 : upd H21 g3 (.lst (xs ++ [.ref o2])) g3 = some (.lst (xs ++ [.ref o2])) := upd_same
      generalize upd H21 g3 (.lst (xs ++ [.ref o2])) = H22 at s22 hg3 ⊢
      have s2022 := s21.trans s22
      have st22 := st20.same s2022
      have ng3p := st22.pen
      have n3 : g3 ≠ p := (st20.pen.same s21).ne ng3
      refine ⟨p, g3, e, xs ++ [.ref o2], _, rfl, SqL.of hg3, n3, by rw [List.length_append, List.length_singleton]; omega, by rw [List.length_append, List.length_singleton]; omega, by omega, st22.pen, fun i9 v9 H23 hv9 b23 pen23 => ?_⟩
      have st23 := st22.but nlp b23 pen23
      have hnr22 := s2022 _ _ hnr20
      have hnr23 := b23 _ _ (tup_ne st22.pen hnr22) hnr22
      have tl22 := tl20.same s2022
      have pick : ∃ (o' : Addr) (one' : List Int), v9 = .ref o' ∧ H22 o' = some (.tup (one'.map V.int)) ∧ Rnd ls.length one' := by
        rcases List.mem_append.mp (List.mem_of_getElem? hv9) with y | y
        · obtain ⟨m, hm, b, eb, hb⟩ := par_mem tl22 y
          exact ⟨b, m, eb, hb, nrd m hm⟩
        · exact ⟨o2, one2, List.mem_singleton.mp y, s2022 _ _ ho2, rd2⟩
      obtain ⟨o', one', rfl, ho', rd'⟩ := pick
      refine ⟨o', one', _, _, _, _, _, _, rfl, ⟨pen23.mono (by omega), st23.rc, st23.hl, b23 _ _ (tup_ne st22.pen ho') ho', rd'⟩, fun _ => ⟨nr, xs, rfl, hnr23, three⟩⟩
    · rintro σ H7 ⟨o, one, z6, z7, z8, z9, z10, z11, rfl, st, hz⟩
      obtain ⟨nr, xs, rfl, hnr, three⟩ := hz (by decide)
      refine ⟨_, rfl, _, _, rfl, rfl, _, rfl, ?_⟩
      by_cases c : (ls.length : Int) > 3
      · rw [decide_eq_true c]
        exact iteT (q H7)
      · rw [decide_eq_false c]
        refine iteF ?_
        have xe := three (by omega)
        subst xe
        refine ⟨_, rfl, (by show 0 ≤ sizeLine; decide), fun eL neL => ?_⟩
        have s8 : Same H7 (upd H7 eL (.tup [])) := (Same.refl H7).new neL
        have heL : upd H7 eL (.tup []) eL = some (.tup []) := upd_same
        generalize upd H7 eL (.tup []) = H8 at s8 heL ⊢
        refine ⟨_, _, .tup (.inl (.inl (s8 _ _ hnr))) .nil, .tup (.inl (.inl heL)) .nil, (by decide), (by decide), ?_⟩
        have ee : PyData.eqv (.tuple []) (.tuple []) = true := by simp [PyData.eqv, PyData.eqvAll]
        rw [ee]
        exact q H8
end
end K
namespace K
open PySem L2 Rg LamX
theorem kb_nr {K : PySem.W.Frag} {fd : FuncData} (h : ∀ (a b : Value) (s : Shared), BindsTo s fd ⟨[], [("one", a), ("ring", b)]⟩ [("ring", b), ("one", a)]) : KBinds K fd ["ring", "one"] ["one", "ring"] gK2 gK2 := by
  refine ⟨fun s us ws _ hl => ?_, fun {vs us zs ws} r1 r2 => ?_⟩
  · match us, ws, hl with
    | [], [a, b], _ => exact h a b s
  · cases r1 with
    | nil =>
      cases r2 with
      | nil => exact .nil
      | cons x t =>
        cases t with
        | nil => exact .nil
        | cons y t2 =>
          cases t2 with
          | nil => exact .cons y (.cons x .nil)
          | cons _ _ => exact .nil
    | cons _ _ => exact .nil
theorem kb_ir {K : PySem.W.Frag} {fd : FuncData} (h : ∀ (a b : Value) (s : Shared), BindsTo s fd ⟨[], [("value", a), ("ring", b)]⟩ [("ring", b), ("value", a)]) : KBinds K fd ["ring", "value"] ["value", "ring"] gK2 gK2 := by
  refine ⟨fun s us ws _ hl => ?_, fun {vs us zs ws} r1 r2 => ?_⟩
  · match us, ws, hl with
    | [], [a, b], _ => exact h a b s
  · cases r1 with
    | nil =>
      cases r2 with
      | nil => exact .nil
      | cons x t =>
        cases t with
        | nil => exact .nil
        | cons y t2 =>
          cases t2 with
          | nil => exact .cons y (.cons x .nil)
          | cons _ _ => exact .nil
    | cons _ _ => exact .nil
theorem kb_ex {K : PySem.W.Frag} {fd : FuncData} (h : ∀ (a b c : Value) (s : Shared), BindsTo s fd ⟨[], [("at", a), ("one", b), ("ring", c)]⟩ [("ring", c), ("one", b), ("at", a)]) : KBinds K fd ["ring", "one", "at"] ["at", "one", "ring"] gEX gEX := by
  refine ⟨fun s us ws _ hl => ?_, fun {vs us zs ws} r1 r2 => ?_⟩
  · match us, ws, hl with
    | [], [a, b, c], _ => exact h a b c s
  · cases r1 with
    | nil =>
      cases r2 with
      | nil => exact .nil
      | cons x t =>
        cases t with
        | nil => exact .nil
        | cons y t2 =>
          cases t2 with
          | nil => exact .nil
          | cons z t3 =>
            cases t3 with
            | nil => exact .cons z (.cons y (.cons x .nil))
            | cons _ _ => exact .nil
    | cons _ _ => exact .nil
section
variable {P : Program} {w : World} {K : PySem.W.Frag} {mg : Str → Option Value} {base : Heap}
theorem scBadRing : FnScope ["self", "part"] ["self", "part"] (defScope sBadRingInit) := ⟨rfl, rfl, rfl, by decide +kernel, rfl, by decide +kernel, by decide +kernel⟩
theorem ok_badRingI {f : Addr} {fd : FuncData} (F : Fun K "__init__" "BadRing.__init__" sBadRingInit f fd) : FnOk P w K mg base CX0 1 f fd ["self", "part"] (spIni K "part") := by
  refine F.ok scBadRing (fun vs H Q E h => ?_) (fun cdv A outer s H vs Q E hr h => ?_)
  · obtain ⟨a, C, v, rfl, _⟩ := h
    rfl
  · refine ⟨_, pss_one (ps_ost (pv 0) (pv 1)), ?_⟩
    obtain ⟨a, C, v, rfl, o, n, ha, k⟩ := h
    exact ⟨_, rfl, _, rfl, a, C, rfl, o, n, .inl ⟨ha, fun d h1 h2 => k d h1 h2⟩⟩
end
theorem code_hd {K : PySem.W.Frag} {c P : Addr} {o : Obj} (l : K.lookup c = some o) (h : PySem.W.codeHdIn [(c, o)] c P = true) : PySem.W.codeHdIn K c P = true := by
  have e : List.lookup c [(c, o)] = some o := by simp [List.lookup]
  unfold PySem.W.codeHdIn at h ⊢
  rw [e] at h
  rw [l]
  exact h
theorem lookup_out {K : PySem.W.Frag} {P : Addr} : ∀ {as : List Addr}, as = K.map (·.1) → P ∉ as → K.lookup P = none := by
  intro as e h
  subst e
  induction K with
  | nil => rfl
  | cons x r ih =>
    obtain ⟨a, o⟩ := x
    rw [List.map_cons, List.mem_cons, not_or] at h
    have hne : (P == a) = false := by simpa using h.1
    rw [List.lookup_cons, hne]
    exact ih h.2
theorem out_of {K : Params → PySem.W.Frag} {as : List Addr} {e : ∀ P, as = (K P).map (·.1)} {ts : List Addr} {w : World} {h : Heap} (_ : (PySem.W.kmHook K as e ts).says w h) {P : Addr} (hP : P ∉ as) : (K w.params).lookup P = none := lookup_out (e w.params) hP


theorem all_mk {l : PySem.W.OpenLaw} {w : World} {K : PySem.W.Frag} {h : Heap} {mg : Str → Option Value} {fa : Addr} (X : K.In h) (G : h.Ns mainGlobals mg) (hfa : mg "law" = some (.ref fa))
    {C eR eL eN eT f0 f1 f2 f3 f4 f5 f6 f7 f8 f9 f10 f11 f12 f13 f14 f15 f16 f17 f18 f19 f20 f21 f22 f23 f24 f25 f26 f27 f28 f29 f30 f31 f32 f33 f34 f35 f36 f37 f38 f39 f40 f41 f42 f43 f44 fm0 fm1 fm2 fm3 fm4 fm5 fm6 fm7 : Addr} {od0 an0 od1 an1 od2 an2 od3 an3 od4 an4 od5 an5 od6 an6 od7 an7 od8 an8 od9 an9 od10 an10 od11 an11 od12 an12 od13 an13 od14 an14 od15 an15 od16 an16 od17 an17 od18 an18 od19 an19 od20 an20 od21 an21 od22 an22 od23 an23 od24 an24 od25 an25 od26 an26 od27 an27 od28 an28 od29 an29 od30 an30 od31 an31 od32 an32 od33 an33 od34 an34 od35 an35 od36 an36 od37 an37 od38 an38 od39 an39 od40 an40 od41 an41 od42 an42 od43 an43 od44 an44 odm0 anm0 odm1 anm1 odm2 anm2 odm3 anm3 odm4 anm4 odm5 anm5 odm6 anm6 odm7 anm7 : Option Addr} {sl0 sl1 sl2 sl3 sl4 sl5 sl6 sl7 sl8 sl9 sl10 sl11 sl12 sl13 sl14 sl15 sl16 sl17 sl18 sl19 sl20 sl21 sl22 sl23 sl24 sl25 sl26 sl27 sl28 sl29 sl30 sl31 sl32 sl33 sl34 sl35 sl36 sl37 sl38 sl39 sl40 sl41 sl42 sl43 sl44 slm0 slm1 slm2 slm3 slm4 slm5 slm6 slm7 : Array (Option Value)} {oc0 kV0 dc0 pm0 ct0 cd0 oc1 kV1 dc1 pm1 ct1 cd1 oc2 kV2 dc2 pm2 ct2 cd2 oc3 kV3 dc3 pm3 ct3 cd3 oc4 kV4 dc4 pm4 ct4 cd4 oc5 kV5 dc5 pm5 ct5 cd5 oc6 kV6 dc6 pm6 ct6 cd6 oc7 kV7 dc7 pm7 ct7 cd7 oc8 kV8 dc8 pm8 ct8 cd8 oc9 kV9 dc9 pm9 ct9 cd9 oc10 kV10 dc10 pm10 ct10 cd10 oc11 kV11 dc11 pm11 ct11 cd11 oc12 kV12 dc12 pm12 ct12 cd12 oc13 kV13 dc13 pm13 ct13 cd13 oc14 kV14 dc14 pm14 ct14 cd14 oc15 kV15 dc15 pm15 ct15 cd15 oc16 kV16 dc16 pm16 ct16 cd16 oc17 kV17 dc17 pm17 ct17 cd17 oc18 kV18 dc18 pm18 ct18 cd18 oc19 kV19 dc19 pm19 ct19 cd19 oc20 kV20 dc20 pm20 ct20 cd20 oc21 kV21 dc21 pm21 ct21 cd21 oc22 kV22 dc22 pm22 ct22 cd22 oc23 kV23 dc23 pm23 ct23 cd23 oc24 kV24 dc24 pm24 ct24 cd24 oc25 kV25 dc25 pm25 ct25 cd25 oc26 kV26 dc26 pm26 ct26 cd26 oc27 kV27 dc27 pm27 ct27 cd27 oc28 kV28 dc28 pm28 ct28 cd28 oc29 kV29 dc29 pm29 ct29 cd29 oc30 kV30 dc30 pm30 ct30 cd30 oc31 kV31 dc31 pm31 ct31 cd31 oc32 kV32 dc32 pm32 ct32 cd32 oc33 kV33 dc33 pm33 ct33 cd33 oc34 kV34 dc34 pm34 ct34 cd34 oc35 kV35 dc35 pm35 ct35 cd35 oc36 kV36 dc36 pm36 ct36 cd36 oc37 kV37 dc37 pm37 ct37 cd37 oc38 kV38 dc38 pm38 ct38 cd38 oc39 kV39 dc39 pm39 ct39 cd39 oc40 kV40 dc40 pm40 ct40 cd40 oc41 kV41 dc41 pm41 ct41 cd41 oc42 kV42 dc42 pm42 ct42 cd42 oc43 kV43 dc43 pm43 ct43 cd43 oc44 kV44 dc44 pm44 ct44 cd44 ocm0 kVm0 dcm0 pmm0 ctm0 cdm0 ocm1 kVm1 dcm1 pmm1 ctm1 cdm1 ocm2 kVm2 dcm2 pmm2 ctm2 cdm2 ocm3 kVm3 dcm3 pmm3 ctm3 cdm3 ocm4 kVm4 dcm4 pmm4 ctm4 cdm4 ocm5 kVm5 dcm5 pmm5 ctm5 cdm5 ocm6 kVm6 dcm6 pmm6 ctm6 cdm6 ocm7 kVm7 dcm7 pmm7 ctm7 cdm7 : Value} {tkMOST_LENGTH tkLEAST_BARS tkMOST_BARS : Tok} 
    {nmeR nmeL nmeN nmeT qqeR qqeL qqeN qqeT : Str} {NeR NeL NeN NeT : Addr} {bseR bseL bseN bseT : List Value} {bmeR bmeL bmeN bmeT : List Value} {sneR sneL sneN sneT : List Str} {subeR subeL subeN subeT : List Value} {abeR abeL abeN abeT : Bool} {coleR coleL coleN coleT : Option Bool} {ddeR ddeL ddeN ddeT : Option Addr} {k0eR k1eR k2eR k3eR k5eR k0eL k1eL k2eL k3eL k5eL k0eN k1eN k2eN k3eN k5eN k0eT k1eT k2eT k3eT k5eT : Option Value}
    (aC : PySem.W.nsIn K mainGlobals "Ring" = some (some (.ref C)))
    (aeR : PySem.W.nsIn K mainGlobals "BadRing" = some (some (.ref eR)))
    (aeL : PySem.W.nsIn K mainGlobals "BadLot" = some (some (.ref eL)))
    (aeN : PySem.W.nsIn K mainGlobals "NoBar" = some (some (.ref eN)))
    (aeT : PySem.W.nsIn K mainGlobals "Twice" = some (some (.ref eT)))
    (a0 : PySem.W.nsIn K mainGlobals "is_integer" = some (some (.ref f0)))
    (l0 : K.lookup f0 = some ⟨oc0, od0, .func (PySem.W.fnOf "is_integer" "is_integer" (defArgs sIsInteger) (defBody sIsInteger) (defScope sIsInteger) .none kV0 dc0 pm0 an0 cd0 ct0), sl0⟩)
    (c0 : PySem.W.codeIn K cd0 "is_integer" = true)
    (k0 : PySem.W.keepIn K (.ref f0) = true)
    (a1 : PySem.W.nsIn K mainGlobals "is_within" = some (some (.ref f1)))
    (l1 : K.lookup f1 = some ⟨oc1, od1, .func (PySem.W.fnOf "is_within" "is_within" (defArgs sIsWithin) (defBody sIsWithin) (defScope sIsWithin) .none kV1 dc1 pm1 an1 cd1 ct1), sl1⟩)
    (c1 : PySem.W.codeIn K cd1 "is_within" = true)
    (k1 : PySem.W.keepIn K (.ref f1) = true)
    (a2 : PySem.W.nsIn K mainGlobals "is_list" = some (some (.ref f2)))
    (l2 : K.lookup f2 = some ⟨oc2, od2, .func (PySem.W.fnOf "is_list" "is_list" (defArgs sIsList) (defBody sIsList) (defScope sIsList) .none kV2 dc2 pm2 an2 cd2 ct2), sl2⟩)
    (c2 : PySem.W.codeIn K cd2 "is_list" = true)
    (k2 : PySem.W.keepIn K (.ref f2) = true)
    (a3 : PySem.W.nsIn K mainGlobals "is_numbers" = some (some (.ref f3)))
    (l3 : K.lookup f3 = some ⟨oc3, od3, .func (PySem.W.fnOf "is_numbers" "is_numbers" (defArgs sIsNumbers) (defBody sIsNumbers) (defScope sIsNumbers) .none kV3 dc3 pm3 an3 cd3 ct3), sl3⟩)
    (c3 : PySem.W.codeIn K cd3 "is_numbers" = true)
    (k3 : PySem.W.keepIn K (.ref f3) = true)
    (a4 : PySem.W.nsIn K mainGlobals "is_lot" = some (some (.ref f4)))
    (l4 : K.lookup f4 = some ⟨oc4, od4, .func (PySem.W.fnOf "is_lot" "is_lot" (defArgs sIsLot) (defBody sIsLot) (defScope sIsLot) .none kV4 dc4 pm4 an4 cd4 ct4), sl4⟩)
    (c4 : PySem.W.codeIn K cd4 "is_lot" = true)
    (k4 : PySem.W.keepIn K (.ref f4) = true)
    (a5 : PySem.W.nsIn K mainGlobals "fixed" = some (some (.ref f5)))
    (l5 : K.lookup f5 = some ⟨oc5, od5, .func (PySem.W.fnOf "fixed" "fixed" (defArgs sFixed) (defBody sFixed) (defScope sFixed) .none kV5 dc5 pm5 an5 cd5 ct5), sl5⟩)
    (c5 : PySem.W.codeIn K cd5 "fixed" = true)
    (k5 : PySem.W.keepIn K (.ref f5) = true)
    (a6 : PySem.W.nsIn K mainGlobals "first_twice" = some (some (.ref f6)))
    (l6 : K.lookup f6 = some ⟨oc6, od6, .func (PySem.W.fnOf "first_twice" "first_twice" (defArgs sFirstTwice) (defBody sFirstTwice) (defScope sFirstTwice) .none kV6 dc6 pm6 an6 cd6 ct6), sl6⟩)
    (c6 : PySem.W.codeIn K cd6 "first_twice" = true)
    (k6 : PySem.W.keepIn K (.ref f6) = true)
    (a7 : PySem.W.nsIn K mainGlobals "twice_at" = some (some (.ref f7)))
    (l7 : K.lookup f7 = some ⟨oc7, od7, .func (PySem.W.fnOf "twice_at" "twice_at" (defArgs sTwiceAt) (defBody sTwiceAt) (defScope sTwiceAt) .none kV7 dc7 pm7 an7 cd7 ct7), sl7⟩)
    (c7 : PySem.W.codeIn K cd7 "twice_at" = true)
    (k7 : PySem.W.keepIn K (.ref f7) = true)
    (a8 : PySem.W.nsIn K mainGlobals "want_number" = some (some (.ref f8)))
    (l8 : K.lookup f8 = some ⟨oc8, od8, .func (PySem.W.fnOf "want_number" "want_number" (defArgs sWantNumber) (defBody sWantNumber) (defScope sWantNumber) .none kV8 dc8 pm8 an8 cd8 ct8), sl8⟩)
    (c8 : PySem.W.codeIn K cd8 "want_number" = true)
    (k8 : PySem.W.keepIn K (.ref f8) = true)
    (a9 : PySem.W.nsIn K mainGlobals "want_bar" = some (some (.ref f9)))
    (l9 : K.lookup f9 = some ⟨oc9, od9, .func (PySem.W.fnOf "want_bar" "want_bar" (defArgs sWantBar) (defBody sWantBar) (defScope sWantBar) .none kV9 dc9 pm9 an9 cd9 ct9), sl9⟩)
    (c9 : PySem.W.codeIn K cd9 "want_bar" = true)
    (k9 : PySem.W.keepIn K (.ref f9) = true)
    (a10 : PySem.W.nsIn K mainGlobals "want_lot" = some (some (.ref f10)))
    (l10 : K.lookup f10 = some ⟨oc10, od10, .func (PySem.W.fnOf "want_lot" "want_lot" (defArgs sWantLot) (defBody sWantLot) (defScope sWantLot) .none kV10 dc10 pm10 an10 cd10 ct10), sl10⟩)
    (c10 : PySem.W.codeIn K cd10 "want_lot" = true)
    (k10 : PySem.W.keepIn K (.ref f10) = true)
    (a11 : PySem.W.nsIn K mainGlobals "sort_by" = some (some (.ref f11)))
    (l11 : K.lookup f11 = some ⟨oc11, od11, .func (PySem.W.fnOf "sort_by" "sort_by" (defArgs sSortBy) (defBody sSortBy) (defScope sSortBy) .none kV11 dc11 pm11 an11 cd11 ct11), sl11⟩)
    (c11 : PySem.W.codeIn K cd11 "sort_by" = true)
    (k11 : PySem.W.keepIn K (.ref f11) = true)
    (a12 : PySem.W.nsIn K mainGlobals "are_lengths" = some (some (.ref f12)))
    (l12 : K.lookup f12 = some ⟨oc12, od12, .func (PySem.W.fnOf "are_lengths" "are_lengths" (defArgs sAreLengths) (defBody sAreLengths) (defScope sAreLengths) .none kV12 dc12 pm12 an12 cd12 ct12), sl12⟩)
    (c12 : PySem.W.codeIn K cd12 "are_lengths" = true)
    (k12 : PySem.W.keepIn K (.ref f12) = true)
    (a13 : PySem.W.nsIn K mainGlobals "has_level" = some (some (.ref f13)))
    (l13 : K.lookup f13 = some ⟨oc13, od13, .func (PySem.W.fnOf "has_level" "has_level" (defArgs sHasLevel) (defBody sHasLevel) (defScope sHasLevel) .none kV13 dc13 pm13 an13 cd13 ct13), sl13⟩)
    (c13 : PySem.W.codeIn K cd13 "has_level" = true)
    (k13 : PySem.W.keepIn K (.ref f13) = true)
    (a14 : PySem.W.nsIn K mainGlobals "want_ring" = some (some (.ref f14)))
    (l14 : K.lookup f14 = some ⟨oc14, od14, .func (PySem.W.fnOf "want_ring" "want_ring" (defArgs sWantRing) (defBody sWantRing) (defScope sWantRing) .none kV14 dc14 pm14 an14 cd14 ct14), sl14⟩)
    (c14 : PySem.W.codeIn K cd14 "want_ring" = true)
    (k14 : PySem.W.keepIn K (.ref f14) = true)
    (a15 : PySem.W.nsIn K mainGlobals "too_long" = some (some (.ref f15)))
    (l15 : K.lookup f15 = some ⟨oc15, od15, .func (PySem.W.fnOf "too_long" "too_long" (defArgs sTooLong) (defBody sTooLong) (defScope sTooLong) .none kV15 dc15 pm15 an15 cd15 ct15), sl15⟩)
    (c15 : PySem.W.codeIn K cd15 "too_long" = true)
    (k15 : PySem.W.keepIn K (.ref f15) = true)
    (a16 : PySem.W.nsIn K mainGlobals "want_closed" = some (some (.ref f16)))
    (l16 : K.lookup f16 = some ⟨oc16, od16, .func (PySem.W.fnOf "want_closed" "want_closed" (defArgs sWantClosed) (defBody sWantClosed) (defScope sWantClosed) .none kV16 dc16 pm16 an16 cd16 ct16), sl16⟩)
    (c16 : PySem.W.codeIn K cd16 "want_closed" = true)
    (k16 : PySem.W.keepIn K (.ref f16) = true)
    (a17 : PySem.W.nsIn K mainGlobals "want_clear" = some (some (.ref f17)))
    (l17 : K.lookup f17 = some ⟨oc17, od17, .func (PySem.W.fnOf "want_clear" "want_clear" (defArgs sWantClear) (defBody sWantClear) (defScope sWantClear) .none kV17 dc17 pm17 an17 cd17 ct17), sl17⟩)
    (c17 : PySem.W.codeIn K cd17 "want_clear" = true)
    (k17 : PySem.W.keepIn K (.ref f17) = true)
    (a18 : PySem.W.nsIn K mainGlobals "want_no_level" = some (some (.ref f18)))
    (l18 : K.lookup f18 = some ⟨oc18, od18, .func (PySem.W.fnOf "want_no_level" "want_no_level" (defArgs sWantNoLevel) (defBody sWantNoLevel) (defScope sWantNoLevel) .none kV18 dc18 pm18 an18 cd18 ct18), sl18⟩)
    (c18 : PySem.W.codeIn K cd18 "want_no_level" = true)
    (k18 : PySem.W.keepIn K (.ref f18) = true)
    (a19 : PySem.W.nsIn K mainGlobals "makes_round" = some (some (.ref f19)))
    (l19 : K.lookup f19 = some ⟨oc19, od19, .func (PySem.W.fnOf "makes_round" "makes_round" (defArgs sMakesRound) (defBody sMakesRound) (defScope sMakesRound) .none kV19 dc19 pm19 an19 cd19 ct19), sl19⟩)
    (c19 : PySem.W.codeIn K cd19 "makes_round" = true)
    (k19 : PySem.W.keepIn K (.ref f19) = true)
    (a20 : PySem.W.nsIn K mainGlobals "want_round" = some (some (.ref f20)))
    (l20 : K.lookup f20 = some ⟨oc20, od20, .func (PySem.W.fnOf "want_round" "want_round" (defArgs sWantRound) (defBody sWantRound) (defScope sWantRound) .none kV20 dc20 pm20 an20 cd20 ct20), sl20⟩)
    (c20 : PySem.W.codeIn K cd20 "want_round" = true)
    (k20 : PySem.W.keepIn K (.ref f20) = true)
    (a21 : PySem.W.nsIn K mainGlobals "is_round" = some (some (.ref f21)))
    (l21 : K.lookup f21 = some ⟨oc21, od21, .func (PySem.W.fnOf "is_round" "is_round" (defArgs sIsRound) (defBody sIsRound) (defScope sIsRound) .none kV21 dc21 pm21 an21 cd21 ct21), sl21⟩)
    (c21 : PySem.W.codeIn K cd21 "is_round" = true)
    (k21 : PySem.W.keepIn K (.ref f21) = true)
    (a22 : PySem.W.nsIn K mainGlobals "exchanged_at" = some (some (.ref f22)))
    (l22 : K.lookup f22 = some ⟨oc22, od22, .func (PySem.W.fnOf "exchanged_at" "exchanged_at" (defArgs sExchangedAt) (defBody sExchangedAt) (defScope sExchangedAt) .none kV22 dc22 pm22 an22 cd22 ct22), sl22⟩)
    (c22 : PySem.W.codeIn K cd22 "exchanged_at" = true)
    (k22 : PySem.W.keepIn K (.ref f22) = true)
    (a23 : PySem.W.nsIn K mainGlobals "rounds_near" = some (some (.ref f23)))
    (l23 : K.lookup f23 = some ⟨oc23, od23, .func (PySem.W.fnOf "rounds_near" "rounds_near" (defArgs sRoundsNear) (defBody sRoundsNear) (defScope sRoundsNear) .none kV23 dc23 pm23 an23 cd23 ct23), sl23⟩)
    (c23 : PySem.W.codeIn K cd23 "rounds_near" = true)
    (k23 : PySem.W.keepIn K (.ref f23) = true)
    (a24 : PySem.W.nsIn K mainGlobals "exchanged" = some (some (.ref f24)))
    (l24 : K.lookup f24 = some ⟨oc24, od24, .func (PySem.W.fnOf "exchanged" "exchanged" (defArgs sExchanged) (defBody sExchanged) (defScope sExchanged) .none kV24 dc24 pm24 an24 cd24 ct24), sl24⟩)
    (c24 : PySem.W.codeIn K cd24 "exchanged" = true)
    (k24 : PySem.W.keepIn K (.ref f24) = true)
    (a25 : PySem.W.nsIn K mainGlobals "near_rounds" = some (some (.ref f25)))
    (l25 : K.lookup f25 = some ⟨oc25, od25, .func (PySem.W.fnOf "near_rounds" "near_rounds" (defArgs sNearRounds) (defBody sNearRounds) (defScope sNearRounds) .none kV25 dc25 pm25 an25 cd25 ct25), sl25⟩)
    (c25 : PySem.W.codeIn K cd25 "near_rounds" = true)
    (k25 : PySem.W.keepIn K (.ref f25) = true)
    (a26 : PySem.W.nsIn K mainGlobals "makes_cell" = some (some (.ref f26)))
    (l26 : K.lookup f26 = some ⟨oc26, od26, .func (PySem.W.fnOf "makes_cell" "makes_cell" (defArgs sMakesCell) (defBody sMakesCell) (defScope sMakesCell) .none kV26 dc26 pm26 an26 cd26 ct26), sl26⟩)
    (c26 : PySem.W.codeIn K cd26 "makes_cell" = true)
    (k26 : PySem.W.keepIn K (.ref f26) = true)
    (a27 : PySem.W.nsIn K mainGlobals "want_cell" = some (some (.ref f27)))
    (l27 : K.lookup f27 = some ⟨oc27, od27, .func (PySem.W.fnOf "want_cell" "want_cell" (defArgs sWantCell) (defBody sWantCell) (defScope sWantCell) .none kV27 dc27 pm27 an27 cd27 ct27), sl27⟩)
    (c27 : PySem.W.codeIn K cd27 "want_cell" = true)
    (k27 : PySem.W.keepIn K (.ref f27) = true)
    (a28 : PySem.W.nsIn K mainGlobals "with_both" = some (some (.ref f28)))
    (l28 : K.lookup f28 = some ⟨oc28, od28, .func (PySem.W.fnOf "with_both" "with_both" (defArgs sWithBoth) (defBody sWithBoth) (defScope sWithBoth) .none kV28 dc28 pm28 an28 cd28 ct28), sl28⟩)
    (c28 : PySem.W.codeIn K cd28 "with_both" = true)
    (k28 : PySem.W.keepIn K (.ref f28) = true)
    (a29 : PySem.W.nsIn K mainGlobals "rim_cells" = some (some (.ref f29)))
    (l29 : K.lookup f29 = some ⟨oc29, od29, .func (PySem.W.fnOf "rim_cells" "rim_cells" (defArgs sRimCells) (defBody sRimCells) (defScope sRimCells) .none kV29 dc29 pm29 an29 cd29 ct29), sl29⟩)
    (c29 : PySem.W.codeIn K cd29 "rim_cells" = true)
    (k29 : PySem.W.keepIn K (.ref f29) = true)
    (a30 : PySem.W.nsIn K mainGlobals "rim_of" = some (some (.ref f30)))
    (l30 : K.lookup f30 = some ⟨oc30, od30, .func (PySem.W.fnOf "rim_of" "rim_of" (defArgs sRimOf) (defBody sRimOf) (defScope sRimOf) .none kV30 dc30 pm30 an30 cd30 ct30), sl30⟩)
    (c30 : PySem.W.codeIn K cd30 "rim_of" = true)
    (k30 : PySem.W.keepIn K (.ref f30) = true)
    (a31 : PySem.W.nsIn K mainGlobals "_law_can" = some (some (.ref f31)))
    (l31 : K.lookup f31 = some ⟨oc31, od31, .func (PySem.W.fnOf "_law_can" "_law_can" (defArgs sLwCan) (defBody sLwCan) (defScope sLwCan) .none kV31 dc31 pm31 an31 cd31 ct31), sl31⟩)
    (c31 : PySem.W.codeIn K cd31 "_law_can" = true)
    (k31 : PySem.W.keepIn K (.ref f31) = true)
    (a32 : PySem.W.nsIn K mainGlobals "_law_dip" = some (some (.ref f32)))
    (l32 : K.lookup f32 = some ⟨oc32, od32, .func (PySem.W.fnOf "_law_dip" "_law_dip" (defArgs sLwDip) (defBody sLwDip) (defScope sLwDip) .none kV32 dc32 pm32 an32 cd32 ct32), sl32⟩)
    (c32 : PySem.W.codeIn K cd32 "_law_dip" = true)
    (k32 : PySem.W.keepIn K (.ref f32) = true)
    (a33 : PySem.W.nsIn K mainGlobals "_law_take" = some (some (.ref f33)))
    (l33 : K.lookup f33 = some ⟨oc33, od33, .func (PySem.W.fnOf "_law_take" "_law_take" (defArgs sLwTake) (defBody sLwTake) (defScope sLwTake) .none kV33 dc33 pm33 an33 cd33 ct33), sl33⟩)
    (c33 : PySem.W.codeIn K cd33 "_law_take" = true)
    (k33 : PySem.W.keepIn K (.ref f33) = true)
    (a34 : PySem.W.nsIn K mainGlobals "_law_is_clear" = some (some (.ref f34)))
    (l34 : K.lookup f34 = some ⟨oc34, od34, .func (PySem.W.fnOf "_law_is_clear" "_law_is_clear" (defArgs sLwIsClear) (defBody sLwIsClear) (defScope sLwIsClear) .none kV34 dc34 pm34 an34 cd34 ct34), sl34⟩)
    (c34 : PySem.W.codeIn K cd34 "_law_is_clear" = true)
    (k34 : PySem.W.keepIn K (.ref f34) = true)
    (a35 : PySem.W.nsIn K mainGlobals "_law_lengths" = some (some (.ref f35)))
    (l35 : K.lookup f35 = some ⟨oc35, od35, .func (PySem.W.fnOf "_law_lengths" "_law_lengths" (defArgs sLwLengths) (defBody sLwLengths) (defScope sLwLengths) .none kV35 dc35 pm35 an35 cd35 ct35), sl35⟩)
    (c35 : PySem.W.codeIn K cd35 "_law_lengths" = true)
    (k35 : PySem.W.keepIn K (.ref f35) = true)
    (a36 : PySem.W.nsIn K mainGlobals "_law_is_short" = some (some (.ref f36)))
    (l36 : K.lookup f36 = some ⟨oc36, od36, .func (PySem.W.fnOf "_law_is_short" "_law_is_short" (defArgs sLwIsShort) (defBody sLwIsShort) (defScope sLwIsShort) .none kV36 dc36 pm36 an36 cd36 ct36), sl36⟩)
    (c36 : PySem.W.codeIn K cd36 "_law_is_short" = true)
    (k36 : PySem.W.keepIn K (.ref f36) = true)
    (a37 : PySem.W.nsIn K mainGlobals "_law_are_bars" = some (some (.ref f37)))
    (l37 : K.lookup f37 = some ⟨oc37, od37, .func (PySem.W.fnOf "_law_are_bars" "_law_are_bars" (defArgs sLwAreBars) (defBody sLwAreBars) (defScope sLwAreBars) .none kV37 dc37 pm37 an37 cd37 ct37), sl37⟩)
    (c37 : PySem.W.codeIn K cd37 "_law_are_bars" = true)
    (k37 : PySem.W.keepIn K (.ref f37) = true)
    (a38 : PySem.W.nsIn K mainGlobals "_law_is_round" = some (some (.ref f38)))
    (l38 : K.lookup f38 = some ⟨oc38, od38, .func (PySem.W.fnOf "_law_is_round" "_law_is_round" (defArgs sLwIsRound) (defBody sLwIsRound) (defScope sLwIsRound) .none kV38 dc38 pm38 an38 cd38 ct38), sl38⟩)
    (c38 : PySem.W.codeIn K cd38 "_law_is_round" = true)
    (k38 : PySem.W.keepIn K (.ref f38) = true)
    (a39 : PySem.W.nsIn K mainGlobals "_law_drawn_round" = some (some (.ref f39)))
    (l39 : K.lookup f39 = some ⟨oc39, od39, .func (PySem.W.fnOf "_law_drawn_round" "_law_drawn_round" (defArgs sLwDrawnRound) (defBody sLwDrawnRound) (defScope sLwDrawnRound) .none kV39 dc39 pm39 an39 cd39 ct39), sl39⟩)
    (c39 : PySem.W.codeIn K cd39 "_law_drawn_round" = true)
    (k39 : PySem.W.keepIn K (.ref f39) = true)
    (a40 : PySem.W.nsIn K mainGlobals "_law_exchanged" = some (some (.ref f40)))
    (l40 : K.lookup f40 = some ⟨oc40, od40, .func (PySem.W.fnOf "_law_exchanged" "_law_exchanged" (defArgs sLwExchanged) (defBody sLwExchanged) (defScope sLwExchanged) .none kV40 dc40 pm40 an40 cd40 ct40), sl40⟩)
    (c40 : PySem.W.codeIn K cd40 "_law_exchanged" = true)
    (k40 : PySem.W.keepIn K (.ref f40) = true)
    (a41 : PySem.W.nsIn K mainGlobals "_law_near" = some (some (.ref f41)))
    (l41 : K.lookup f41 = some ⟨oc41, od41, .func (PySem.W.fnOf "_law_near" "_law_near" (defArgs sLwNear) (defBody sLwNear) (defScope sLwNear) .none kV41 dc41 pm41 an41 cd41 ct41), sl41⟩)
    (c41 : PySem.W.codeIn K cd41 "_law_near" = true)
    (k41 : PySem.W.keepIn K (.ref f41) = true)
    (a42 : PySem.W.nsIn K mainGlobals "_law_bent" = some (some (.ref f42)))
    (l42 : K.lookup f42 = some ⟨oc42, od42, .func (PySem.W.fnOf "_law_bent" "_law_bent" (defArgs sLwBent) (defBody sLwBent) (defScope sLwBent) .none kV42 dc42 pm42 an42 cd42 ct42), sl42⟩)
    (c42 : PySem.W.codeIn K cd42 "_law_bent" = true)
    (k42 : PySem.W.keepIn K (.ref f42) = true)
    (a43 : PySem.W.nsIn K mainGlobals "_law_common_right" = some (some (.ref f43)))
    (l43 : K.lookup f43 = some ⟨oc43, od43, .func (PySem.W.fnOf "_law_common_right" "_law_common_right" (defArgs sLwCommonRight) (defBody sLwCommonRight) (defScope sLwCommonRight) .none kV43 dc43 pm43 an43 cd43 ct43), sl43⟩)
    (c43 : PySem.W.codeIn K cd43 "_law_common_right" = true)
    (k43 : PySem.W.keepIn K (.ref f43) = true)
    (a44 : PySem.W.nsIn K mainGlobals "law" = some (some (.ref f44)))
    (l44 : K.lookup f44 = some ⟨oc44, od44, .func (PySem.W.fnOf "law" "law" (defArgs sLaw) (defBody sLaw) (defScope sLaw) .none kV44 dc44 pm44 an44 cd44 ct44), sl44⟩)
    (c44 : PySem.W.codeIn K cd44 "law" = true)
    (k44 : PySem.W.keepIn K (.ref f44) = true)
    (am0 : PySem.W.findIn K (.ref C) "__init__" = some (some (.ref fm0)))
    (im0 : PySem.W.isFn K (.ref fm0) = true)
    (lm0 : K.lookup fm0 = some ⟨ocm0, odm0, .func (PySem.W.fnOf "__init__" "Ring.__init__" (defArgs sRingInit) (defBody sRingInit) (defScope sRingInit) .none kVm0 dcm0 pmm0 anm0 cdm0 ctm0), slm0⟩)
    (cm0 : PySem.W.codeIn K cdm0 "Ring.__init__" = true)
    (km0 : PySem.W.keepIn K (.ref fm0) = true)
    (am1 : PySem.W.findIn K (.ref C) "__len__" = some (some (.ref fm1)))
    (im1 : PySem.W.isFn K (.ref fm1) = true)
    (lm1 : K.lookup fm1 = some ⟨ocm1, odm1, .func (PySem.W.fnOf "__len__" "Ring.__len__" (defArgs sRingLen) (defBody sRingLen) (defScope sRingLen) .none kVm1 dcm1 pmm1 anm1 cdm1 ctm1), slm1⟩)
    (cm1 : PySem.W.codeIn K cdm1 "Ring.__len__" = true)
    (km1 : PySem.W.keepIn K (.ref fm1) = true)
    (am2 : PySem.W.findIn K (.ref C) "length_of" = some (some (.ref fm2)))
    (im2 : PySem.W.isFn K (.ref fm2) = true)
    (lm2 : K.lookup fm2 = some ⟨ocm2, odm2, .func (PySem.W.fnOf "length_of" "Ring.length_of" (defArgs sRingLengthOf) (defBody sRingLengthOf) (defScope sRingLengthOf) .none kVm2 dcm2 pmm2 anm2 cdm2 ctm2), slm2⟩)
    (cm2 : PySem.W.codeIn K cdm2 "Ring.length_of" = true)
    (km2 : PySem.W.keepIn K (.ref fm2) = true)
    (am3 : PySem.W.findIn K (.ref C) "sort_of" = some (some (.ref fm3)))
    (im3 : PySem.W.isFn K (.ref fm3) = true)
    (lm3 : K.lookup fm3 = some ⟨ocm3, odm3, .func (PySem.W.fnOf "sort_of" "Ring.sort_of" (defArgs sRingSortOf) (defBody sRingSortOf) (defScope sRingSortOf) .none kVm3 dcm3 pmm3 anm3 cdm3 ctm3), slm3⟩)
    (cm3 : PySem.W.codeIn K cdm3 "Ring.sort_of" = true)
    (km3 : PySem.W.keepIn K (.ref fm3) = true)
    (am4 : PySem.W.findIn K (.ref eR) "__init__" = some (some (.ref fm4)))
    (im4 : PySem.W.isFn K (.ref fm4) = true)
    (lm4 : K.lookup fm4 = some ⟨ocm4, odm4, .func (PySem.W.fnOf "__init__" "BadRing.__init__" (defArgs sBadRingInit) (defBody sBadRingInit) (defScope sBadRingInit) .none kVm4 dcm4 pmm4 anm4 cdm4 ctm4), slm4⟩)
    (cm4 : PySem.W.codeIn K cdm4 "BadRing.__init__" = true)
    (km4 : PySem.W.keepIn K (.ref fm4) = true)
    (tim4 : PySem.W.typeIn K (.ref fm4) = some (.type "function"))
    (am5 : PySem.W.findIn K (.ref eL) "__init__" = some (some (.ref fm5)))
    (im5 : PySem.W.isFn K (.ref fm5) = true)
    (lm5 : K.lookup fm5 = some ⟨ocm5, odm5, .func (PySem.W.fnOf "__init__" "BadLot.__init__" (defArgs sBadLotInit) (defBody sBadLotInit) (defScope sBadLotInit) .none kVm5 dcm5 pmm5 anm5 cdm5 ctm5), slm5⟩)
    (cm5 : PySem.W.codeIn K cdm5 "BadLot.__init__" = true)
    (km5 : PySem.W.keepIn K (.ref fm5) = true)
    (tim5 : PySem.W.typeIn K (.ref fm5) = some (.type "function"))
    (am6 : PySem.W.findIn K (.ref eN) "__init__" = some (some (.ref fm6)))
    (im6 : PySem.W.isFn K (.ref fm6) = true)
    (lm6 : K.lookup fm6 = some ⟨ocm6, odm6, .func (PySem.W.fnOf "__init__" "Missing.__init__" (defArgs sMissingInit) (defBody sMissingInit) (defScope sMissingInit) .none kVm6 dcm6 pmm6 anm6 cdm6 ctm6), slm6⟩)
    (cm6 : PySem.W.codeIn K cdm6 "Missing.__init__" = true)
    (km6 : PySem.W.keepIn K (.ref fm6) = true)
    (tim6 : PySem.W.typeIn K (.ref fm6) = some (.type "function"))
    (am7 : PySem.W.findIn K (.ref eT) "__init__" = some (some (.ref fm7)))
    (im7 : PySem.W.isFn K (.ref fm7) = true)
    (lm7 : K.lookup fm7 = some ⟨ocm7, odm7, .func (PySem.W.fnOf "__init__" "Twice.__init__" (defArgs sTwiceInit) (defBody sTwiceInit) (defScope sTwiceInit) .none kVm7 dcm7 pmm7 anm7 cdm7 ctm7), slm7⟩)
    (cm7 : PySem.W.codeIn K cdm7 "Twice.__init__" = true)
    (km7 : PySem.W.keepIn K (.ref fm7) = true)
    (tim7 : PySem.W.typeIn K (.ref fm7) = some (.type "function"))
    (rC_pg : PySem.W.plainGet K C Str.empty = true)
    (rC_hd : PySem.W.hasDictIn K C = true)
    (rC_po : PySem.W.plainOver K C = true)
    (rC_sa : PySem.W.findIn K (.ref C) "__setattr__" = some (some (.builtin "object.__setattr__")))
    (rC_mk : PySem.W.makesIn K C = true)
    (rC_kc : PySem.W.keepIn K (.ref C) = true)
    (rC_ha : PySem.W.findIn K (.ref C) "__class__" = some (some (.builtin "object.__class__")))
    (rC_hm : PySem.W.mroIn K C (.type "object") = some true)
    (rC_n_lengths : PySem.W.findIn K (.ref C) "lengths" = some none)
    (rC_n_total : PySem.W.findIn K (.ref C) "total" = some none)
    (rC_n_closes : PySem.W.findIn K (.ref C) "closes" = some none)
    (rC_n_is_clear : PySem.W.findIn K (.ref C) "is_clear" = some none)
    (rhn : PySem.W.specialIn K (.builtin "object.__class__") "__get__" = some (some (.builtin "getset_descriptor.__get__")))
    (rht : PySem.W.takesIn K (.builtin "object.__class__") = some true)
    (z_int : PySem.W.nsIn K mainGlobals "int" = some none)
    (z_len : PySem.W.nsIn K mainGlobals "len" = some none)
    (z_abs : PySem.W.nsIn K mainGlobals "abs" = some none)
    (z_list : PySem.W.nsIn K mainGlobals "list" = some none)
    (z_tuple : PySem.W.nsIn K mainGlobals "tuple" = some none)
    (z_bool : PySem.W.nsIn K mainGlobals "bool" = some none)
    (z_range : PySem.W.nsIn K mainGlobals "range" = some none)
    (z_sum : PySem.W.nsIn K mainGlobals "sum" = some none)
    (z_max : PySem.W.nsIn K mainGlobals "max" = some none)
    (z_min : PySem.W.nsIn K mainGlobals "min" = some none)
    (z_repr : PySem.W.nsIn K mainGlobals "repr" = some none)
    (z_all : PySem.W.nsIn K mainGlobals "all" = some none)
    (z_any : PySem.W.nsIn K mainGlobals "any" = some none)
    (z_sorted : PySem.W.nsIn K mainGlobals "sorted" = some none)
    (z_enumerate : PySem.W.nsIn K mainGlobals "enumerate" = some none)
    (z_isinstance : PySem.W.nsIn K mainGlobals "isinstance" = some none)
    (g_MOST_LENGTH : PySem.W.nsIn K mainGlobals "MOST_LENGTH" = some (some (.int 1000000 tkMOST_LENGTH)))
    (g_LEAST_BARS : PySem.W.nsIn K mainGlobals "LEAST_BARS" = some (some (.int 3 tkLEAST_BARS)))
    (g_MOST_BARS : PySem.W.nsIn K mainGlobals "MOST_BARS" = some (some (.int 8 tkMOST_BARS)))
    (xeR : K.lookup eR = some (excClassObj nmeR qqeR eR NeR bseR bmeR true sneR subeR abeR coleR ddeR k0eR k1eR k2eR k3eR k5eR "ValueError.__new__"))
    (rveR : PySem.HandSPX.refsVE bmeR = true)
    (saeR : PySem.W.findIn K (.ref eR) "__setattr__" = some (some (.builtin "object.__setattr__")))
    (eCeR : PySem.W.subIn K (.ref eR) (.type "BaseException") = some true)
    (tCeR : PySem.W.typeIn K (.ref eR) = some (.type "type"))
    (kCeR : PySem.W.keepIn K (.ref eR) = true)
    (nfeRpart : PySem.W.findIn K (.ref eR) "part" = some none)
    (xeL : K.lookup eL = some (excClassObj nmeL qqeL eL NeL bseL bmeL true sneL subeL abeL coleL ddeL k0eL k1eL k2eL k3eL k5eL "ValueError.__new__"))
    (rveL : PySem.HandSPX.refsVE bmeL = true)
    (saeL : PySem.W.findIn K (.ref eL) "__setattr__" = some (some (.builtin "object.__setattr__")))
    (eCeL : PySem.W.subIn K (.ref eL) (.type "BaseException") = some true)
    (tCeL : PySem.W.typeIn K (.ref eL) = some (.type "type"))
    (kCeL : PySem.W.keepIn K (.ref eL) = true)
    (nfeLpart : PySem.W.findIn K (.ref eL) "part" = some none)
    (xeN : K.lookup eN = some (excClassObj nmeN qqeN eN NeN bseN bmeN true sneN subeN abeN coleN ddeN k0eN k1eN k2eN k3eN k5eN "ValueError.__new__"))
    (rveN : PySem.HandSPX.refsVE bmeN = true)
    (saeN : PySem.W.findIn K (.ref eN) "__setattr__" = some (some (.builtin "object.__setattr__")))
    (eCeN : PySem.W.subIn K (.ref eN) (.type "BaseException") = some true)
    (tCeN : PySem.W.typeIn K (.ref eN) = some (.type "type"))
    (kCeN : PySem.W.keepIn K (.ref eN) = true)
    (nfeNvalue : PySem.W.findIn K (.ref eN) "value" = some none)
    (xeT : K.lookup eT = some (excClassObj nmeT qqeT eT NeT bseT bmeT true sneT subeT abeT coleT ddeT k0eT k1eT k2eT k3eT k5eT "ValueError.__new__"))
    (rveT : PySem.HandSPX.refsVE bmeT = true)
    (saeT : PySem.W.findIn K (.ref eT) "__setattr__" = some (some (.builtin "object.__setattr__")))
    (eCeT : PySem.W.subIn K (.ref eT) (.type "BaseException") = some true)
    (tCeT : PySem.W.typeIn K (.ref eT) = some (.type "type"))
    (kCeT : PySem.W.keepIn K (.ref eT) = true)
    (nfeTvalue : PySem.W.findIn K (.ref eT) "value" = some none) :
    LawAtG l w K CX0 11 63 "_law_script" mg fa h := by
  have e := hfa.symm.trans (PySem.W.mg_of X G a44)
  cases e
  have gl : ∀ {x : Str} {v : Value}, PySem.W.nsIn K mainGlobals x = some (some v) → mg x = some v := fun q => PySem.W.mg_of X G q
  have T : Bi mg := ⟨PySem.W.mg_none_of X G z_int, PySem.W.mg_none_of X G z_len, PySem.W.mg_none_of X G z_abs, PySem.W.mg_none_of X G z_list, PySem.W.mg_none_of X G z_tuple, PySem.W.mg_none_of X G z_bool, PySem.W.mg_none_of X G z_range, PySem.W.mg_none_of X G z_sum, PySem.W.mg_none_of X G z_max, PySem.W.mg_none_of X G z_min, PySem.W.mg_none_of X G z_repr, PySem.W.mg_none_of X G z_all, PySem.W.mg_none_of X G z_any, PySem.W.mg_none_of X G z_sorted, PySem.W.mg_none_of X G z_enumerate, PySem.W.mg_none_of X G z_isinstance⟩
  have N : Nm mg := ⟨⟨_, gl g_MOST_LENGTH⟩, ⟨_, gl g_LEAST_BARS⟩, ⟨_, gl g_MOST_BARS⟩⟩
  have R : RingC K mg C := ⟨⟨rC_pg, rC_hd, rC_po, rC_sa⟩, rC_n_lengths, rC_n_total, rC_n_closes, rC_n_is_clear, gl aC, rC_ha, rhn, rht, rC_hm⟩
  have oeR : OexC K eR := ⟨⟨_, _, _, _, _, _, _, _, _, _, _, _, _, _, _, xeR, rveR⟩, saeR, eCeR, tCeR, kCeR⟩
  have oeL : OexC K eL := ⟨⟨_, _, _, _, _, _, _, _, _, _, _, _, _, _, _, xeL, rveL⟩, saeL, eCeL, tCeL, kCeL⟩
  have oeN : OexC K eN := ⟨⟨_, _, _, _, _, _, _, _, _, _, _, _, _, _, _, xeN, rveN⟩, saeN, eCeN, tCeN, kCeN⟩
  have oeT : OexC K eT := ⟨⟨_, _, _, _, _, _, _, _, _, _, _, _, _, _, _, xeT, rveT⟩, saeT, eCeT, tCeT, kCeT⟩
  have F0 := fun_mk (st := sIsInteger) l0 c0 k0
  have b0 := F0.binds (ps := ["value"]) fun _ _ _ _ _ _ us hl => match us, hl with | [_], _ => rfl
  have F1 := fun_mk (st := sIsWithin) l1 c1 k1
  have b1 := F1.binds (ps := ["value", "least", "most"]) fun _ _ _ _ _ _ us hl => match us, hl with | [_, _, _], _ => rfl
  have F2 := fun_mk (st := sIsList) l2 c2 k2
  have b2 := F2.binds (ps := ["value"]) fun _ _ _ _ _ _ us hl => match us, hl with | [_], _ => rfl
  have F3 := fun_mk (st := sIsNumbers) l3 c3 k3
  have b3 := F3.binds (ps := ["value"]) fun _ _ _ _ _ _ us hl => match us, hl with | [_], _ => rfl
  have F4 := fun_mk (st := sIsLot) l4 c4 k4
  have b4 := F4.binds (ps := ["value"]) fun _ _ _ _ _ _ us hl => match us, hl with | [_], _ => rfl
  have F5 := fun_mk (st := sFixed) l5 c5 k5
  have b5 := F5.binds (ps := ["value"]) fun _ _ _ _ _ _ us hl => match us, hl with | [_], _ => rfl
  have F6 := fun_mk (st := sFirstTwice) l6 c6 k6
  have b6 := F6.binds (ps := ["values"]) fun _ _ _ _ _ _ us hl => match us, hl with | [_], _ => rfl
  have F7 := fun_mk (st := sTwiceAt) l7 c7 k7
  have b7 := F7.binds (ps := ["values"]) fun _ _ _ _ _ _ us hl => match us, hl with | [_], _ => rfl
  have F8 := fun_mk (st := sWantNumber) l8 c8 k8
  have b8 := F8.binds (ps := ["value", "least", "most", "part"]) fun _ _ _ _ _ _ us hl => match us, hl with | [_, _, _, _], _ => rfl
  have F9 := fun_mk (st := sWantBar) l9 c9 k9
  have b9 := F9.binds (ps := ["value", "many"]) fun _ _ _ _ _ _ us hl => match us, hl with | [_, _], _ => rfl
  have F10 := fun_mk (st := sWantLot) l10 c10 k10
  have b10 := F10.binds (ps := ["value", "many", "part"]) fun _ _ _ _ _ _ us hl => match us, hl with | [_, _, _], _ => rfl
  have F11 := fun_mk (st := sSortBy) l11 c11 k11
  have b11 := F11.binds (ps := ["excess"]) fun _ _ _ _ _ _ us hl => match us, hl with | [_], _ => rfl
  have F12 := fun_mk (st := sAreLengths) l12 c12 k12
  have b12 := F12.binds (ps := ["value"]) fun _ _ _ _ _ _ us hl => match us, hl with | [_], _ => rfl
  have F13 := fun_mk (st := sHasLevel) l13 c13 k13
  have b13 := F13.binds (ps := ["lengths"]) fun _ _ _ _ _ _ us hl => match us, hl with | [_], _ => rfl
  have F14 := fun_mk (st := sWantRing) l14 c14 k14
  have b14 := F14.binds (ps := ["value", "part"]) fun _ _ _ _ _ _ us hl => match us, hl with | [_, _], _ => rfl
  have F15 := fun_mk (st := sTooLong) l15 c15 k15
  have b15 := F15.binds (ps := ["ring"]) fun _ _ _ _ _ _ us hl => match us, hl with | [_], _ => rfl
  have F16 := fun_mk (st := sWantClosed) l16 c16 k16
  have b16 := F16.binds (ps := ["ring"]) fun _ _ _ _ _ _ us hl => match us, hl with | [_], _ => rfl
  have F17 := fun_mk (st := sWantClear) l17 c17 k17
  have b17 := F17.binds (ps := ["ring"]) fun _ _ _ _ _ _ us hl => match us, hl with | [_], _ => rfl
  have F18 := fun_mk (st := sWantNoLevel) l18 c18 k18
  have b18 := F18.binds (ps := ["ring"]) fun _ _ _ _ _ _ us hl => match us, hl with | [_], _ => rfl
  have F19 := fun_mk (st := sMakesRound) l19 c19 k19
  have b19 := F19.binds (ps := ["ring", "value"]) fun _ _ _ _ _ _ us hl => match us, hl with | [_, _], _ => rfl
  have F20 := fun_mk (st := sWantRound) l20 c20 k20
  have b20 := F20.binds (ps := ["ring", "value", "part"]) fun _ _ _ _ _ _ us hl => match us, hl with | [_, _, _], _ => rfl
  have F21 := fun_mk (st := sIsRound) l21 c21 k21
  have b21 := F21.binds (ps := ["ring", "value"]) fun _ _ _ _ _ _ us hl => match us, hl with | [_, _], _ => rfl
  have F22 := fun_mk (st := sExchangedAt) l22 c22 k22
  have b22 := F22.binds (ps := ["ring", "one", "at"]) fun _ _ _ _ _ _ us hl => match us, hl with | [_, _, _], _ => rfl
  have F23 := fun_mk (st := sRoundsNear) l23 c23 k23
  have b23 := F23.binds (ps := ["ring", "one"]) fun _ _ _ _ _ _ us hl => match us, hl with | [_, _], _ => rfl
  have F24 := fun_mk (st := sExchanged) l24 c24 k24
  have b24 := F24.binds (ps := ["ring", "one", "at"]) fun _ _ _ _ _ _ us hl => match us, hl with | [_, _, _], _ => rfl
  have F25 := fun_mk (st := sNearRounds) l25 c25 k25
  have b25 := F25.binds (ps := ["ring", "one"]) fun _ _ _ _ _ _ us hl => match us, hl with | [_, _], _ => rfl
  have F26 := fun_mk (st := sMakesCell) l26 c26 k26
  have b26 := F26.binds (ps := ["ring", "value"]) fun _ _ _ _ _ _ us hl => match us, hl with | [_, _], _ => rfl
  have F27 := fun_mk (st := sWantCell) l27 c27 k27
  have b27 := F27.binds (ps := ["ring", "value"]) fun _ _ _ _ _ _ us hl => match us, hl with | [_, _], _ => rfl
  have F28 := fun_mk (st := sWithBoth) l28 c28 k28
  have b28 := F28.binds (ps := ["cell", "at", "both"]) fun _ _ _ _ _ _ us hl => match us, hl with | [_, _, _], _ => rfl
  have F29 := fun_mk (st := sRimCells) l29 c29 k29
  have b29 := F29.binds (ps := ["ring", "cell"]) fun _ _ _ _ _ _ us hl => match us, hl with | [_, _], _ => rfl
  have F30 := fun_mk (st := sRimOf) l30 c30 k30
  have b30 := F30.binds (ps := ["ring", "cell"]) fun _ _ _ _ _ _ us hl => match us, hl with | [_, _], _ => rfl
  have F31 := fun_mk (st := sLwCan) l31 c31 k31
  have b31 := F31.binds (ps := ["_law_script"]) fun _ _ _ _ _ _ us hl => match us, hl with | [_], _ => rfl
  have F32 := fun_mk (st := sLwDip) l32 c32 k32
  have b32 := F32.binds (ps := ["_law_can_here", "_law_many"]) fun _ _ _ _ _ _ us hl => match us, hl with | [_, _], _ => rfl
  have F33 := fun_mk (st := sLwTake) l33 c33 k33
  have b33 := F33.binds (ps := ["_law_can_here", "_law_some"]) fun _ _ _ _ _ _ us hl => match us, hl with | [_, _], _ => rfl
  have F34 := fun_mk (st := sLwIsClear) l34 c34 k34
  have b34 := F34.binds (ps := ["_law_lengths_here"]) fun _ _ _ _ _ _ us hl => match us, hl with | [_], _ => rfl
  have F35 := fun_mk (st := sLwLengths) l35 c35 k35
  have b35 := F35.binds (ps := ["_law_can_here", "_law_sizes"]) fun _ _ _ _ _ _ us hl => match us, hl with | [_, _], _ => rfl
  have F36 := fun_mk (st := sLwIsShort) l36 c36 k36
  have b36 := F36.binds (ps := ["_law_lengths_here", "_law_lot"]) fun _ _ _ _ _ _ us hl => match us, hl with | [_, _], _ => rfl
  have F37 := fun_mk (st := sLwAreBars) l37 c37 k37
  have b37 := F37.binds (ps := ["_law_value"]) fun _ _ _ _ _ _ us hl => match us, hl with | [_], _ => rfl
  have F38 := fun_mk (st := sLwIsRound) l38 c38 k38
  have b38 := F38.binds (ps := ["_law_lengths_here", "_law_value"]) fun _ _ _ _ _ _ us hl => match us, hl with | [_, _], _ => rfl
  have F39 := fun_mk (st := sLwDrawnRound) l39 c39 k39
  have b39 := F39.binds (ps := ["_law_can_here", "_law_many"]) fun _ _ _ _ _ _ us hl => match us, hl with | [_, _], _ => rfl
  have F40 := fun_mk (st := sLwExchanged) l40 c40 k40
  have b40 := F40.binds (ps := ["_law_lengths_here", "_law_one", "_law_at"]) fun _ _ _ _ _ _ us hl => match us, hl with | [_, _, _], _ => rfl
  have F41 := fun_mk (st := sLwNear) l41 c41 k41
  have b41 := F41.binds (ps := ["_law_lengths_here", "_law_one"]) fun _ _ _ _ _ _ us hl => match us, hl with | [_, _], _ => rfl
  have F42 := fun_mk (st := sLwBent) l42 c42 k42
  have b42 := F42.binds (ps := ["_law_can_here", "_law_one"]) fun _ _ _ _ _ _ us hl => match us, hl with | [_, _], _ => rfl
  have F43 := fun_mk (st := sLwCommonRight) l43 c43 k43
  have b43 := F43.binds (ps := ["_law_ring", "_law_one", "_law_at", "_law_other"]) fun _ _ _ _ _ _ us hl => match us, hl with | [_, _, _, _], _ => rfl
  have F44 := fun_mk (st := sLaw) l44 c44 k44
  have b44 := F44.binds (ps := ["_law_script"]) fun _ _ _ _ _ _ us hl => match us, hl with | [_], _ => rfl
  have Fm0 := fun_mk (st := sRingInit) lm0 cm0 km0
  have bm0 := Fm0.binds (ps := ["self", "lengths"]) fun _ _ _ _ _ _ us hl => match us, hl with | [_, _], _ => rfl
  have Fm1 := fun_mk (st := sRingLen) lm1 cm1 km1
  have bm1 := Fm1.binds (ps := ["self"]) fun _ _ _ _ _ _ us hl => match us, hl with | [_], _ => rfl
  have Fm2 := fun_mk (st := sRingLengthOf) lm2 cm2 km2
  have bm2 := Fm2.binds (ps := ["self", "lot"]) fun _ _ _ _ _ _ us hl => match us, hl with | [_, _], _ => rfl
  have Fm3 := fun_mk (st := sRingSortOf) lm3 cm3 km3
  have bm3 := Fm3.binds (ps := ["self", "lot"]) fun _ _ _ _ _ _ us hl => match us, hl with | [_, _], _ => rfl
  have Fm4 := fun_mk (st := sBadRingInit) lm4 cm4 km4
  have bm4 := Fm4.binds (ps := ["self", "part"]) fun _ _ _ _ _ _ us hl => match us, hl with | [_, _], _ => rfl
  have Fm5 := fun_mk (st := sBadLotInit) lm5 cm5 km5
  have bm5 := Fm5.binds (ps := ["self", "part"]) fun _ _ _ _ _ _ us hl => match us, hl with | [_, _], _ => rfl
  have Fm6 := fun_mk (st := sMissingInit) lm6 cm6 km6
  have bm6 := Fm6.binds (ps := ["self", "value"]) fun _ _ _ _ _ _ us hl => match us, hl with | [_, _], _ => rfl
  have Fm7 := fun_mk (st := sTwiceInit) lm7 cm7 km7
  have bm7 := Fm7.binds (ps := ["self", "value"]) fun _ _ _ _ _ _ us hl => match us, hl with | [_, _], _ => rfl
  refine ⟨PySem.W.fnOf "law" "law" (defArgs sLaw) (defBody sLaw) (defScope sLaw) .none kV44 dc44 pm44 an44 cd44 ct44, [], spLaw K, fun p hp => ?_, fun p hp => ?_, fun p hp => ?_, fun s v => .of_eq rfl, fun H a ns hl _ hT' hs => ?_, fun base KB GB TB => ?_⟩
  · cases hp
  · cases hp
  · cases hp
  · exact ⟨a, ns, rfl, hs, by omega, fun _ => rfl⟩
  · skip
    have dInt := (⟨ok_isInt F0 T, gl a0, k0, b0⟩ : DefAt l.prog w K mg base _ _ "is_integer" _ _ _ _)
    have dList := (⟨ok_isList F2 T, gl a2, k2, b2⟩ : DefAt l.prog w K mg base _ _ "is_list" _ _ _ _)
    have dWith := (⟨ok_within F1 dInt, gl a1, k1, b1⟩ : DefAt l.prog w K mg base _ _ "is_within" _ _ _ _)
    have dNO := (⟨ok_numsO F3 T dInt dList, gl a3, k3, b3⟩ : DefAt l.prog w K mg base _ _ "is_numbers" _ _ _ _)
    have dNL := (⟨ok_numsL F3 T dInt dList, gl a3, k3, b3⟩ : DefAt l.prog w K mg base _ _ "is_numbers" _ _ _ _)
    have dNT := (⟨ok_numsT F3 T dInt dList, gl a3, k3, b3⟩ : DefAt l.prog w K mg base _ _ "is_numbers" _ _ _ _)
    have eR' : ErrAt l.prog w K mg base "BadRing" "part" eR fm4 _ := ⟨oeR, am4, tim4, nfeRpart, gl aeR, bm4, ok_badRingI Fm4⟩
    have eL' : ErrAt l.prog w K mg base "BadLot" "part" eL fm5 _ := ⟨oeL, am5, tim5, nfeLpart, gl aeL, bm5, ok_badLotI Fm5⟩
    have eN' : ErrAt l.prog w K mg base "NoBar" "value" eN fm6 _ := ⟨oeN, am6, tim6, nfeNvalue, gl aeN, bm6, ok_missingI Fm6⟩
    have eT' : ErrAt l.prog w K mg base "Twice" "value" eT fm7 _ := ⟨oeT, am7, tim7, nfeTvalue, gl aeT, bm7, ok_twiceI Fm7⟩
    have dFx := (⟨ok_fixed F5 T, gl a5, k5, b5⟩ : DefAt l.prog w K mg base _ _ "fixed" _ _ _ _)
    have dFx1 := (⟨ok_fx1 F5 T dFx, gl a5, k5, b5⟩ : DefAt l.prog w K mg base _ _ "fixed" _ _ _ _)
    have dFx2 := (⟨ok_fx2 F5 T dFx1, gl a5, k5, b5⟩ : DefAt l.prog w K mg base _ _ "fixed" _ _ _ _)
    have dAtL := (⟨ok_taL F7 T dFx, gl a7, k7, b7⟩ : DefAt l.prog w K mg base _ _ "twice_at" _ _ _ _)
    have dAtT := (⟨ok_taT F7 T dFx, gl a7, k7, b7⟩ : DefAt l.prog w K mg base _ _ "twice_at" _ _ _ _)
    have dTwL := (⟨ok_twL F6 dFx dAtL, gl a6, k6, b6⟩ : DefAt l.prog w K mg base _ _ "first_twice" _ _ _ _)
    have dTwT := (⟨ok_twT F6 dFx dAtT, gl a6, k6, b6⟩ : DefAt l.prog w K mg base _ _ "first_twice" _ _ _ _)
    have dWB := (⟨ok_wantBar F9 dWith eN', gl a9, k9, b9⟩ : DefAt l.prog w K mg base _ _ "want_bar" _ _ _ _)
    have w1 := ok_wlO (c := ⟨eL, eN, eT⟩) F10 T dNO dWB dTwL eL' eT'
    have w2 := ok_wlL (c := ⟨eL, eN, eT⟩) F10 T dNL dWB dTwL eL' eT'
    have w3 := ok_wlT (c := ⟨eL, eN, eT⟩) F10 T dNT dWB dTwT eL' eT'
    have dWL := (⟨ok_wl w1 w2 w3, gl a10, k10, b10⟩ : DefAt l.prog w K mg base _ _ "want_lot" _ _ _ _)
    have dSB := (⟨ok_sortBy F11, gl a11, k11, b11⟩ : DefAt l.prog w K mg base _ _ "sort_by" _ _ _ _)
    have dAL := (⟨ok_areL F12 T N dWith dList, gl a12, k12, b12⟩ : DefAt l.prog w K mg base _ _ "are_lengths" _ _ _ _)
    have dHL := (⟨ok_hasL F13 T, gl a13, k13, b13⟩ : DefAt l.prog w K mg base _ _ "has_level" _ _ _ _)
    have Gp : RingP l.prog w K mg base C fm0 _ := ⟨⟨rC_mk, am0, im0, rC_kc⟩, ok_ri (P := l.prog) (w := w) (base := base) Fm0 T N R dAL dHL, bm0⟩
    have NL := ok_rlen (P := l.prog) (w := w) (base := base) Fm1 T R
    have NM : Meth K C "__len__" fm1 := ⟨am1, im1, km1⟩
    have gLO := ok_lenOf (P := l.prog) (w := w) (base := base) Fm2 T R dWL
    have gSO := ok_sortOf (P := l.prog) (w := w) (base := base) Fm3 R ⟨am2, im2, km2⟩ gLO bm2 dSB
    have MS : MethV l.prog w K mg base C "sort_of" _ _ fm3 _ := ⟨⟨am3, im3, km3⟩, ok_sortVal gSO, bm3⟩
    have MSL : MethV l.prog w K mg base C "sort_of" _ _ fm3 _ := ⟨⟨am3, im3, km3⟩, ok_sortLV gSO, bm3⟩
    have dNum := (⟨ok_numV F8 dWith, gl a8, k8, b8⟩ : DefAt l.prog w K mg base _ _ "want_number" _ _ _ _)
    have dWR := (⟨ok_wantR F14 T R eR', gl a14, k14, b14⟩ : DefAt l.prog w K mg base _ _ "want_ring" _ _ _ _)
    have dTV := (⟨ok_tooV (ok_tooL F15 T R dWR), gl a15, k15, b15⟩ : DefAt l.prog w K mg base _ _ "too_long" _ _ _ _)
    have dWC := (⟨ok_wc F16 dTV, gl a16, k16, b16⟩ : DefAt l.prog w K mg base _ _ "want_closed" _ _ _ _)
    have dWN := (⟨ok_wn F18 R, gl a18, k18, b18⟩ : DefAt l.prog w K mg base _ _ "want_no_level" _ _ _ _)
    have dCl := (⟨ok_wr F17 dWC dWN, gl a17, k17, b17⟩ : DefAt l.prog w K mg base _ _ "want_clear" _ _ _ _)
    have m1 := ok_mrO (P := l.prog) (w := w) (base := base) (C := C) F19 T dNO NL bm1
    have m2 := ok_mrL (P := l.prog) (w := w) (base := base) (C := C) F19 T dNL NM NL bm1
    have m3 := ok_mrT (P := l.prog) (w := w) (base := base) (C := C) F19 T dNT NM NL bm1
    have dMR := (⟨ok_mr m1 m2 m3, gl a19, k19, b19⟩ : DefAt l.prog w K mg base _ _ "makes_round" _ _ _ _)
    have dWO := (⟨ok_wo F20 dMR, gl a20, k20, b20⟩ : DefAt l.prog w K mg base _ _ "want_round" _ _ _ _)
    have dIR := (⟨ok_ir F21 dCl dMR, gl a21, k21, b21⟩ : DefAt l.prog w K mg base _ _ "is_round" _ _ _ _)
    have dXA := (⟨ok_xa F22 T R MS, gl a22, k22, b22⟩ : DefAt l.prog w K mg base _ _ "exchanged_at" _ _ _ _)
    have dRN := (⟨ok_rn F23 T dXA, gl a23, k23, b23⟩ : DefAt l.prog w K mg base _ _ "rounds_near" _ _ _ _)
    have dEX := (⟨ok_ex F24 T dCl dWO dNum dXA NM NL bm1, gl a24, k24, b24⟩ : DefAt l.prog w K mg base _ _ "exchanged" _ _ _ _)
    have dNR := (⟨ok_nr F25 T dCl dWO dRN, gl a25, k25, b25⟩ : DefAt l.prog w K mg base _ _ "near_rounds" _ _ _ _)
    have dLo := (⟨ok_il F4 T dNL, gl a4, k4, b4⟩ : DefAt l.prog w K mg base _ _ "is_lot" _ _ _ _)
    have dMC := (⟨ok_mc F26 T R dList dLo MSL NM NL bm1, gl a26, k26, b26⟩ : DefAt l.prog w K mg base _ _ "makes_cell" _ _ _ _)
    have dWE := (⟨ok_we F27 dMC, gl a27, k27, b27⟩ : DefAt l.prog w K mg base _ _ "want_cell" _ _ _ _)
    have dWt := (⟨ok_wb F28 T, gl a28, k28, b28⟩ : DefAt l.prog w K mg base _ _ "with_both" _ _ _ _)
    have dRK := (⟨ok_rk F29 T R MS dWt, gl a29, k29, b29⟩ : DefAt l.prog w K mg base _ _ "rim_cells" _ _ _ _)
    have dRO := (⟨ok_ro F30 dCl dWE dRK dFx2, gl a30, k30, b30⟩ : DefAt l.prog w K mg base _ _ "rim_of" _ _ _ _)
    have dDr : DrawAt l.prog w K mg base _ _ := ⟨ok_draw F32 T, gl a32, k32, b32⟩
    have dPn := (⟨ok_pen F31 T, gl a31, k31, b31⟩ : DefAt l.prog w K mg base _ _ "_law_can" _ _ _ _)
    have dPk := (⟨ok_pick F33 T dDr, gl a33, k33, b33⟩ : DefAt l.prog w K mg base _ _ "_law_take" _ _ _ _)
    have dLC := (⟨ok_lc F34 T, gl a34, k34, b34⟩ : DefAt l.prog w K mg base _ _ "_law_is_clear" _ _ _ _)
    have dLN := (⟨ok_ln F35 T dDr dPk dLC, gl a35, k35, b35⟩ : DefAt l.prog w K mg base _ _ "_law_lengths" _ _ _ _)
    have dLS := (⟨ok_ls F36 T, gl a36, k36, b36⟩ : DefAt l.prog w K mg base _ _ "_law_is_short" _ _ _ _)
    have dLX := (⟨ok_lx F40 T dLS, gl a40, k40, b40⟩ : DefAt l.prog w K mg base _ _ "_law_exchanged" _ _ _ _)
    have dLE := (⟨ok_le F41 T dLX, gl a41, k41, b41⟩ : DefAt l.prog w K mg base _ _ "_law_near" _ _ _ _)
    have dDR := (⟨ok_dr F39 T dDr, gl a39, k39, b39⟩ : DefAt l.prog w K mg base _ _ "_law_drawn_round" _ _ _ _)
    have dBO := (⟨ok_abO F37 T, gl a37, k37, b37⟩ : DefAt l.prog w K mg base _ _ "_law_are_bars" _ _ _ _)
    have dBL := (⟨ok_abL F37 T, gl a37, k37, b37⟩ : DefAt l.prog w K mg base _ _ "_law_are_bars" _ _ _ _)
    have dBT := (⟨ok_abT F37 T, gl a37, k37, b37⟩ : DefAt l.prog w K mg base _ _ "_law_are_bars" _ _ _ _)
    have r1 := ok_lrO (P := l.prog) (w := w) (base := base) F38 T dBO
    have r2 := ok_lrL (P := l.prog) (w := w) (base := base) F38 T dBL
    have r3 := ok_lrT (P := l.prog) (w := w) (base := base) F38 T dBT
    have dLR := (⟨ok_lr r1 r2 r3, gl a38, k38, b38⟩ : DefAt l.prog w K mg base _ _ "_law_is_round" _ _ _ _)
    have dBN := (⟨ok_bn F42 T dDr dPk, gl a42, k42, b42⟩ : DefAt l.prog w K mg base _ _ "_law_bent" _ _ _ _)
    have dCR := (⟨ok_cr F43 T dRO, gl a43, k43, b43⟩ : DefAt l.prog w K mg base _ _ "_law_common_right" _ _ _ _)
    have kb1 : KBinds K _ ["ring", "one", "at"] ["at", "one", "ring"] gEX gEX := kb_ex (fun a b c s => .of_eq rfl) (fd := PySem.W.fnOf "exchanged" "exchanged" (defArgs sExchanged) (defBody sExchanged) (defScope sExchanged) .none kV24 dc24 pm24 an24 cd24 ct24)
    have kb2 : KBinds K _ ["ring", "one"] ["one", "ring"] gK2 gK2 := kb_nr (fun a b s => .of_eq rfl) (fd := PySem.W.fnOf "near_rounds" "near_rounds" (defArgs sNearRounds) (defBody sNearRounds) (defScope sNearRounds) .none kV25 dc25 pm25 an25 cd25 ct25)
    have kb3 : KBinds K _ ["ring", "value"] ["value", "ring"] gK2 gK2 := kb_ir (fun a b s => .of_eq rfl) (fd := PySem.W.fnOf "is_round" "is_round" (defArgs sIsRound) (defBody sIsRound) (defScope sIsRound) .none kV21 dc21 pm21 an21 cd21 ct21)
    exact ok_law F44 T R Gp dPn dLN dDR dLX dLE dEX kb1 dNR kb2 dIR kb3 dPk dBN dLR dCR
end K
open PySem PySem.W PyProof.Rows in
set_option maxRecDepth 100000 in
set_option maxHeartbeats 0 in
theorem PySem.Challenge.cw_ringbars_k35_rounds_by_one_exchange_holds : PySem.Challenge.rw_ringbars_k35_rounds_by_one_exchange.Holds := by
  w_on; o_law; k_head; (case hw => w_witness2)
  k_fill
  refine LamX.walk_ofG (la := PySem.Challenge.rw_ringbars_k35_rounds_by_one_exchange) (mo := 63) (lev := 11) (xn := "_law_script") (Cx1 := fun _ => L2.CX0) rfl (by decide) rfl ⟨rfl, by decide, by decide⟩ (fun w h Y => PySem.W.km_in_of Y) ?F (fun _ _ _ _ _ z => z)
  case F =>
    intro w mg fa h Y KX G hmg
    refine' K.all_mk KX G hmg ?aC ?aeR ?aeL ?aeN ?aeT ?a0 ?l0 ?c0 ?k0 ?a1 ?l1 ?c1 ?k1 ?a2 ?l2 ?c2 ?k2 ?a3 ?l3 ?c3 ?k3 ?a4 ?l4 ?c4 ?k4 ?a5 ?l5 ?c5 ?k5 ?a6 ?l6 ?c6 ?k6 ?a7 ?l7 ?c7 ?k7 ?a8 ?l8 ?c8 ?k8 ?a9 ?l9 ?c9 ?k9 ?a10 ?l10 ?c10 ?k10 ?a11 ?l11 ?c11 ?k11 ?a12 ?l12 ?c12 ?k12 ?a13 ?l13 ?c13 ?k13 ?a14 ?l14 ?c14 ?k14 ?a15 ?l15 ?c15 ?k15 ?a16 ?l16 ?c16 ?k16 ?a17 ?l17 ?c17 ?k17 ?a18 ?l18 ?c18 ?k18 ?a19 ?l19 ?c19 ?k19 ?a20 ?l20 ?c20 ?k20 ?a21 ?l21 ?c21 ?k21 ?a22 ?l22 ?c22 ?k22 ?a23 ?l23 ?c23 ?k23 ?a24 ?l24 ?c24 ?k24 ?a25 ?l25 ?c25 ?k25 ?a26 ?l26 ?c26 ?k26 ?a27 ?l27 ?c27 ?k27 ?a28 ?l28 ?c28 ?k28 ?a29 ?l29 ?c29 ?k29 ?a30 ?l30 ?c30 ?k30 ?a31 ?l31 ?c31 ?k31 ?a32 ?l32 ?c32 ?k32 ?a33 ?l33 ?c33 ?k33 ?a34 ?l34 ?c34 ?k34 ?a35 ?l35 ?c35 ?k35 ?a36 ?l36 ?c36 ?k36 ?a37 ?l37 ?c37 ?k37 ?a38 ?l38 ?c38 ?k38 ?a39 ?l39 ?c39 ?k39 ?a40 ?l40 ?c40 ?k40 ?a41 ?l41 ?c41 ?k41 ?a42 ?l42 ?c42 ?k42 ?a43 ?l43 ?c43 ?k43 ?a44 ?l44 ?c44 ?k44 ?am0 ?im0 ?lm0 ?cm0 ?km0 ?am1 ?im1 ?lm1 ?cm1 ?km1 ?am2 ?im2 ?lm2 ?cm2 ?km2 ?am3 ?im3 ?lm3 ?cm3 ?km3 ?am4 ?im4 ?lm4 ?cm4 ?km4 ?tim4 ?am5 ?im5 ?lm5 ?cm5 ?km5 ?tim5 ?am6 ?im6 ?lm6 ?cm6 ?km6 ?tim6 ?am7 ?im7 ?lm7 ?cm7 ?km7 ?tim7 ?rC_pg ?rC_hd ?rC_po ?rC_sa ?rC_mk ?rC_kc ?rC_ha ?rC_hm ?rC_n_lengths ?rC_n_total ?rC_n_closes ?rC_n_is_clear ?rhn ?rht ?z_int ?z_len ?z_abs ?z_list ?z_tuple ?z_bool ?z_range ?z_sum ?z_max ?z_min ?z_repr ?z_all ?z_any ?z_sorted ?z_enumerate ?z_isinstance ?g_MOST_LENGTH ?g_LEAST_BARS ?g_MOST_BARS ?xeR ?rveR ?saeR ?eCeR ?tCeR ?kCeR ?nfeRpart ?xeL ?rveL ?saeL ?eCeL ?tCeL ?kCeL ?nfeLpart ?xeN ?rveN ?saeN ?eCeN ?tCeN ?kCeN ?nfeNvalue ?xeT ?rveT ?saeT ?eCeT ?tCeT ?kCeT ?nfeTvalue
    (case aC => k_is)
    (case aeR => k_is)
    (case aeL => k_is)
    (case aeN => k_is)
    (case aeT => k_is)
    (case a0 => k_is)
    (case l0 => k_is)
    (case c0 => k_is)
    (case k0 => k_is)
    (case a1 => k_is)
    (case l1 => k_is)
    (case c1 => k_is)
    (case k1 => k_is)
    (case a2 => k_is)
    (case l2 => k_is)
    (case c2 => k_is)
    (case k2 => k_is)
    (case a3 => k_is)
    (case l3 => k_is)
    (case c3 => k_is)
    (case k3 => k_is)
    (case a4 => k_is)
    (case l4 => k_is)
    (case c4 => k_is)
    (case k4 => k_is)
    (case a5 => k_is)
    (case l5 => k_is)
    (case c5 => k_is)
    (case k5 => k_is)
    (case a6 => k_is)
    (case l6 => k_is)
    (case c6 => k_is)
    (case k6 => k_is)
    (case a7 => k_is)
    (case l7 => k_is)
    (case c7 => k_is)
    (case k7 => k_is)
    (case a8 => k_is)
    (case l8 => k_is)
    (case c8 => k_is)
    (case k8 => k_is)
    (case a9 => k_is)
    (case l9 => k_is)
    (case c9 => k_is)
    (case k9 => k_is)
    (case a10 => k_is)
    (case l10 => k_is)
    (case c10 => k_is)
    (case k10 => k_is)
    (case a11 => k_is)
    (case l11 => k_is)
    (case c11 => k_is)
    (case k11 => k_is)
    (case a12 => k_is)
    (case l12 => k_is)
    (case c12 => k_is)
    (case k12 => k_is)
    (case a13 => k_is)
    (case l13 => k_is)
    (case c13 => k_is)
    (case k13 => k_is)
    (case a14 => k_is)
    (case l14 => k_is)
    (case c14 => k_is)
    (case k14 => k_is)
    (case a15 => k_is)
    (case l15 => k_is)
    (case c15 => k_is)
    (case k15 => k_is)
    (case a16 => k_is)
    (case l16 => k_is)
    (case c16 => k_is)
    (case k16 => k_is)
    (case a17 => k_is)
    (case l17 => k_is)
    (case c17 => k_is)
    (case k17 => k_is)
    (case a18 => k_is)
    (case l18 => k_is)
    (case c18 => k_is)
    (case k18 => k_is)
    (case a19 => k_is)
    (case l19 => k_is)
    (case c19 => k_is)
    (case k19 => k_is)
    (case a20 => k_is)
    (case l20 => k_is)
    (case c20 => k_is)
    (case k20 => k_is)
    (case a21 => k_is)
    (case l21 => k_is)
    (case c21 => k_is)
    (case k21 => k_is)
    (case a22 => k_is)
    (case l22 => k_is)
    (case c22 => k_is)
    (case k22 => k_is)
    (case a23 => k_is)
    (case l23 => k_is)
    (case c23 => k_is)
    (case k23 => k_is)
    (case a24 => k_is)
    (case l24 => k_is)
    (case c24 => k_is)
    (case k24 => k_is)
    (case a25 => k_is)
    (case l25 => k_is)
    (case c25 => k_is)
    (case k25 => k_is)
    (case a26 => k_is)
    (case l26 => k_is)
    (case c26 => k_is)
    (case k26 => k_is)
    (case a27 => k_is)
    (case l27 => k_is)
    (case c27 => k_is)
    (case k27 => k_is)
    (case a28 => k_is)
    (case l28 => k_is)
    (case c28 => k_is)
    (case k28 => k_is)
    (case a29 => k_is)
    (case l29 => k_is)
    (case c29 => k_is)
    (case k29 => k_is)
    (case a30 => k_is)
    (case l30 => k_is)
    (case c30 => k_is)
    (case k30 => k_is)
    (case a31 => k_is)
    (case l31 => k_is)
    (case c31 => k_is)
    (case k31 => k_is)
    (case a32 => k_is)
    (case l32 => k_is)
    (case c32 => k_is)
    (case k32 => k_is)
    (case a33 => k_is)
    (case l33 => k_is)
    (case c33 => k_is)
    (case k33 => k_is)
    (case a34 => k_is)
    (case l34 => k_is)
    (case c34 => k_is)
    (case k34 => k_is)
    (case a35 => k_is)
    (case l35 => k_is)
    (case c35 => k_is)
    (case k35 => k_is)
    (case a36 => k_is)
    (case l36 => k_is)
    (case c36 => k_is)
    (case k36 => k_is)
    (case a37 => k_is)
    (case l37 => k_is)
    (case c37 => k_is)
    (case k37 => k_is)
    (case a38 => k_is)
    (case l38 => k_is)
    (case c38 => k_is)
    (case k38 => k_is)
    (case a39 => k_is)
    (case l39 => k_is)
    (case c39 => k_is)
    (case k39 => k_is)
    (case a40 => k_is)
    (case l40 => k_is)
    (case c40 => k_is)
    (case k40 => k_is)
    (case a41 => k_is)
    (case l41 => k_is)
    (case c41 => k_is)
    (case k41 => k_is)
    (case a42 => k_is)
    (case l42 => k_is)
    (case c42 => k_is)
    (case k42 => k_is)
    (case a43 => k_is)
    (case l43 => k_is)
    (case c43 => k_is)
    (case k43 => k_is)
    (case a44 => k_is)
    (case l44 => k_is)
    (case c44 => k_is)
    (case k44 => k_is)
    (case am0 => k_is)
    (case im0 => k_is)
    (case lm0 => k_is)
    (case cm0 => k_is)
    (case km0 => k_is)
    (case am1 => k_is)
    (case im1 => k_is)
    (case lm1 => k_is)
    (case cm1 => k_is)
    (case km1 => k_is)
    (case am2 => k_is)
    (case im2 => k_is)
    (case lm2 => k_is)
    (case cm2 => k_is)
    (case km2 => k_is)
    (case am3 => k_is)
    (case im3 => k_is)
    (case lm3 => k_is)
    (case cm3 => k_is)
    (case km3 => k_is)
    (case am4 => k_is)
    (case im4 => k_is)
    (case lm4 => k_is)
    (case cm4 => k_is)
    (case km4 => k_is)
    (case tim4 => k_is)
    (case am5 => k_is)
    (case im5 => k_is)
    (case lm5 => k_is)
    (case cm5 => k_is)
    (case km5 => k_is)
    (case tim5 => k_is)
    (case am6 => k_is)
    (case im6 => k_is)
    (case lm6 => k_is)
    (case cm6 => k_is)
    (case km6 => k_is)
    (case tim6 => k_is)
    (case am7 => k_is)
    (case im7 => k_is)
    (case lm7 => k_is)
    (case cm7 => k_is)
    (case km7 => k_is)
    (case tim7 => k_is)
    (case rC_pg => k_is)
    (case rC_hd => k_is)
    (case rC_po => k_is)
    (case rC_sa => k_is)
    (case rC_mk => k_is)
    (case rC_kc => k_is)
    (case rC_ha => k_is)
    (case rC_hm => k_is)
    (case rC_n_lengths => k_is)
    (case rC_n_total => k_is)
    (case rC_n_closes => k_is)
    (case rC_n_is_clear => k_is)
    (case rhn => k_is)
    (case rht => k_is)
    (case z_int => k_is)
    (case z_len => k_is)
    (case z_abs => k_is)
    (case z_list => k_is)
    (case z_tuple => k_is)
    (case z_bool => k_is)
    (case z_range => k_is)
    (case z_sum => k_is)
    (case z_max => k_is)
    (case z_min => k_is)
    (case z_repr => k_is)
    (case z_all => k_is)
    (case z_any => k_is)
    (case z_sorted => k_is)
    (case z_enumerate => k_is)
    (case z_isinstance => k_is)
    (case g_MOST_LENGTH => k_is)
    (case g_LEAST_BARS => k_is)
    (case g_MOST_BARS => k_is)
    (case xeR => k_is)
    (case rveR => first | (with_reducible rfl) | decide +kernel | k_is)
    (case saeR => k_is)
    (case eCeR => k_is)
    (case tCeR => k_is)
    (case kCeR => k_is)
    (case nfeRpart => k_is)
    (case xeL => k_is)
    (case rveL => first | (with_reducible rfl) | decide +kernel | k_is)
    (case saeL => k_is)
    (case eCeL => k_is)
    (case tCeL => k_is)
    (case kCeL => k_is)
    (case nfeLpart => k_is)
    (case xeN => k_is)
    (case rveN => first | (with_reducible rfl) | decide +kernel | k_is)
    (case saeN => k_is)
    (case eCeN => k_is)
    (case tCeN => k_is)
    (case kCeN => k_is)
    (case nfeNvalue => k_is)
    (case xeT => k_is)
    (case rveT => first | (with_reducible rfl) | decide +kernel | k_is)
    (case saeT => k_is)
    (case eCeT => k_is)
    (case tCeT => k_is)
    (case kCeT => k_is)
    (case nfeTvalue => k_is)
