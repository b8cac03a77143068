import PyProof.Rows.All
import Wide.All
import OpenK.AllK
import Wide.FinOn
import HandS.ForMost
import HandS.IsInst
import HandS.Strs
import HandS.ExcInit
import HandS.ExcField
import HandS.ExcIs
import HandS.TryOnly
import HandS.Lambda
import HandS.EndTab
import HandS.Flow
import HandS.SortInts
import HandS.SortRule
import HandS.SortKw
import KE.KTupSum
import HandS.NamedTupSort
import PyProof.P3Eq
import HandS.ReCall
import HandS.OwnEq
import HandS.TupAny
import HandS.Deep
import PyProof.InstNe
import KE.SortKeyHeap
import HandS.Walk
import KE.GoesEnum
import PyProof.P3In
import KE.KDictPairs
import HandS.Dict
import KE.KExcIs
import HandS.DictComp
import KE.GoesZip
import KE.KDictZip
import HandS.Zip
import HandS.Codes
import HandS.Star
import KE.KTypeName
import KE.KSuper
import HandS.ClsMeth
import HandS.Nested
import HandS.Records
import HandS.Words
import HandS.Evl
import HandS.WordsExc
import HandS.Conv
import HandS.Style
import KE.SortData
import HandS.SetFor
import KE.KNestM
import PySem.Challenge.RW_ringbars_k61_how_far_a_length_may_change
set_option Elab.async false
set_option linter.all false
set_option maxRecDepth 100000
set_option maxHeartbeats 4000000
/-! ## rules of our own, for what the rings' program says and the layer has no rule for -/
namespace Rg
open PySem PySem.Spec PyProof.Rows L2

/-! ### f(k = v, ..), oj.m(k = v, ..) -/
section
variable {X : Cx} {CX : CXT} {k : Nat} {f C : Addr} {fd : FuncData} {ps ks : List Str} {sp : Sp} {E : XK} {x m : Str} {p pos apos : Pos} {oj : Expr} {kws : List Keyword} {ta : TE} {tkn : TA}
variable {g : List Value → List Value → List Value} {gV : List V → List V → List V}
theorem pe_callK0 (F : FnOk X.prog X.w X.K X.mg X.base CX k f fd ps sp) (hr : Room k X.A) (hg : Gl X x) (hmm : X.mg x = some (.ref f)) (hk : PySem.W.keepIn X.K (.ref f) = true) (hb : KBinds X.K fd ps ks g gV) (hx : Passes CX X E)
    (hkw : PK X kws tkn) (hall : (backToKw pos (keywordEach kws X.env)).all (·.1.isSome) = true := by rfl) (hks : (backToKw pos (keywordEach kws X.env)).filterMap (·.1) = ks := by rfl)
    (hdb : (x == ("__debug__" : Str)) = false := by decide)
    (hpl : ((backTo pos (starEach [] X.env)).any (·.1) || (backToKw pos (keywordEach kws X.env)).any (·.1.isNone)) = false := by rfl) :
    PE X (.Call (.Name x p) [] kws pos) (tCallK sp gV E tNil tkn) := by
  refine ⟨fun pns s σs Hh Qq Iv h => ?_⟩
  refine wpAny_Call_Name_kw (ld_glob Iv hg hmm ?_ hdb)
  refine PySem.W.callWith_KW0 (h₀ := X.base) Iv.ok.mod.kin hk hall ?_ hpl
  refine thn (hkw.run pos pns s σs Hh _ Iv h) fun kvs2 sh2 ⟨zvs, H2, I2, rlz, q2⟩ => ⟨I2.kIn, ?_⟩
  rw [hks]
  exact run_fnk (us := []) (vs := []) F hr hb hx I2 .nil rlz q2
/-- oj.m(k = v, ..) -/
def tMethK (C : Addr) (m : Str) (sp : Sp) (gV : List V → List V → List V) (E : XK) (ta : TE) (tkn : TA) : TE := fun σs Hh Qq => ta σs Hh fun x H1 => ∃ a dx fs, x = .ref a ∧ H1 a = some (.ins C dx fs) ∧ fs.lookup m = none ∧
  tkn σs H1 fun zvs H2 => sp (gV [.ref a] zvs) H2 Qq E
theorem pe_methK0 {pl : Sem Bool} (he : PE X oj ta) (c : Cls X.K C) (hmm : Meth X.K C m f) (F : FnOk X.prog X.w X.K X.mg X.base CX k f fd ps sp) (hr : Room k X.A) (hb : KBinds X.K fd ps ks g gV) (hx : Passes CX X E)
    (hkw : PK X kws tkn) (hall : (backToKw pos (keywordEach kws X.env)).all (·.1.isSome) = true := by rfl) (hks : (backToKw pos (keywordEach kws X.env)).filterMap (·.1) = ks := by rfl)
    (hpl : ((backTo pos (starEach [] X.env)).any (·.1) || (backToKw pos (keywordEach kws X.env)).any (·.1.isNone)) = false := by rfl)
    (ht : eval (.Call (.Attribute oj m apos) [] kws pos) X.env = (do
      let ov ← eval oj X.env
      standAt apos.atName
      let (f, first) ← holding [ov] (getMethod ov m pl)
      callWith pos f first (backTo pos (starEach [] X.env)) (backToKw pos (keywordEach kws X.env))) := by rfl) :
    PE X (.Call (.Attribute oj m apos) [] kws pos) (tMethK C m sp gV E ta tkn) := by
  refine ⟨fun pns s σs Hh Qq Iv h => ?_⟩
  refine PySem.W.methodCall_KW (pl := pl) (thn (he.run pns s σs Hh _ Iv h) fun u sh1 ⟨x, H1, I1, rlx, a, dx, fs, ex, eqa, l, qq⟩ => ?_) ht
  subst ex
  obtain rfl : u = Value.ref a := rlx
  refine getmeth_ok I1 eqa c hmm l ?_
  refine PySem.W.callWith_KW0 (first := [.ref a]) (h₀ := X.base) Iv.ok.mod.kin hmm.kp hall ?_ hpl
  refine thn (hkw.run pos pns sh1 σs H1 _ I1 qq) fun kvs2 sh2 ⟨zvs, H2, I2, rlz, q2⟩ => ⟨I2.kIn, ?_⟩
  rw [hks]
  exact run_fnk (us := [.ref a]) (vs := [.ref a]) F hr hb hx I2 (.cons rfl .nil) rlz q2
end

/-! ### len(oj), the instance's own __len__ -/
section
variable {X : Cx} {k : Nat} {f : Addr} {fd : FuncData} {sp : Sp}
def rLenO (K : PySem.W.Frag) (f : Addr) (sp : Sp) : List V → Hp → VK → Prop := fun vxs Hh Qq => ∃ a C dx fs, vxs = [.ref a] ∧ Hh a = some (.ins C dx fs) ∧ PySem.W.findIn K (.ref C) "__len__" = some (some (.ref f)) ∧ PySem.W.isFn K (.ref f) = true ∧
  sp [.ref a] Hh (fun v H' => ∃ n : Int, v = .int n ∧ 0 ≤ n ∧ n < 2 ^ 63 ∧ Qq (.int n) H') E0
theorem call_lenO (F : FnOk X.prog X.w X.K X.mg X.base CX0 k f fd ["self"] sp) (hr : Room (k + 1) X.A) (hb : Binds X.K fd ["self"] []) : CallR X (.builtin "len") (rLenO X.K f sp) := by
  intro pns s σs Hh vxs uvs Qq Iv r h
  obtain ⟨a, C, dx, fs, rfl, eqa, hs, hf, qq⟩ := h
  obtain ⟨u, rfl, rlu⟩ := vals1 r
  obtain rfl : u = Value.ref a := rlu
  obtain ⟨mA, O, _, _, _, _⟩ := ins_get Iv.hok eqa
  obtain ⟨m, fr⟩ := Iv.fr
  obtain ⟨od, hod⟩ : ∃ od, s.heap.get? dx = some od := let ⟨oj, _, _, e', _⟩ := O.ns; ⟨oj, e'⟩
  refine PySem.W.len_K fr Iv.ok.mod.kin (ox := PySem.W.instObj C dx) (C := C) (od := some od) ⟨O.obj, rfl, rfl, hod⟩ hs hf ?_
  have hlst : ([Value.ref a] ++ []).length = (["self"] : List Str).length := rfl
  refine wpAny_call (codeAny_mono (F.run X.A.in1 X.stack s Hh ⟨[.ref a], []⟩ [.ref a] [.ref a] _ E0 hr.in1 Iv.env0.in1 (hb s [.ref a] Iv.kIn hlst) (.cons rfl .nil) qq) fun r s' hsq => ?_)
  cases r with
  | error e => exact hsq.elim
  | ok fl =>
    cases fl with
    | ret u =>
      obtain ⟨v, H', I3, rlv, n, ev, h0, hh1, q3⟩ := Iv.after hsq
      subst ev
      obtain ⟨t, rfl⟩ := rlv
      exact ⟨⟨h0, hh1⟩, ⟨.int n, H', I3.tok _, ⟨_, rfl⟩, q3⟩⟩
    | next => exact False.elim hsq
    | brk => exact False.elim hsq
    | cont => exact False.elim hsq
end

/-! ### sum, max of a tuple of ints; vls index -/
section
variable {prog : Program} {w : World} {A : Around} {E : Value → Shared → Prop} {s : Shared} {l : Addr} {vls : List Value} {nms : List Int} {Qq : Value → Shared → Prop}
theorem isTuple_of {h : Heap} (x : IsTup h l vls.toArray) : h.IsTuple l vls.toArray := x
theorem sumT_raw (hcal : A.handled = none) (hlst : s.heap.IsTuple l vls.toArray) (hint : IntsAre vls nms)
    (h : ∀ h' tkn t', (∀ b oj, s.heap.get? b = some oj → h'.get? b = some oj) → Qq (.int nms.sum t') { s with heap := h', toks := tkn }) : wpAny (model prog w) A (call (.builtin "sum") [.ref l]) Qq E s := by
  obtain ⟨vxs, e⟩ := hint.allInts.items
  have hnn : numsOf (intItems vxs).toList = nms := by rw [← e]; exact hint.numsOf
  rw [nums_intItems] at hnn
  rw [e] at hlst
  refine PySem.W.ktm_sumG hcal hlst fun h' tkn t' hk => ?_
  have := h h' tkn t' hk
  rw [preSum_eq, List.take_of_length_le (by simp), hnn]; exact this
end
section
variable {X : Cx}
def rSumT (K : PySem.W.Frag) : List V → Hp → VK → Prop := fun vs Hh Qq => ∃ (a : Addr) (nms : List Int), vs = [V.ref a] ∧ SqT K Hh a (nms.map V.int) ∧ Qq (.int nms.sum) Hh
theorem cr_sumT (hc : X.calm = true) : CallR X (.builtin "sum") (rSumT X.K) := by
  intro pns s σs Hh vs uvs Qq Iv r h
  obtain ⟨a, nms, rfl, hs, qq⟩ := h
  obtain ⟨vls, rlv, hlst, _⟩ := Iv.tuple hs
  rw [Vals.ref1 r]
  exact sumT_raw (Iv.ok.hd hc) (isTuple_of hlst) rlv.ints fun h' tkn t' hk => ⟨.int _, Hh, Iv.kept hk, ⟨_, rfl⟩, qq⟩
end
end Rg
namespace Rg
open PySem PySem.Spec PyProof.Rows L2
/-! ### max of a tuple of ints, vls index, isinstance of a caught error with fields -/
section
variable {prog : Program} {w : World} {A : Around} {E : Value → Shared → Prop} {s : Shared} {l : Addr} {vls : List Value} {nms : List Int} {Qq : Value → Shared → Prop}
theorem max_intTup {vxs : Array (Int × Tok)} (hcal : A.handled = none) (ht : s.heap.IsTuple l (intItems vxs)) (hpos : 0 < vxs.size)
    (h : ∀ v h' tkn, (intItems vxs)[argBest (fun i j => decide (numAt vxs i > numAt vxs j)) (vxs.size - 1)]? = some v → (∀ b oj, s.heap.get? b = some oj → h'.get? b = some oj) → Qq v { s with heap := h', toks := tkn }) :
    wpAny (model prog w) A (call (.builtin "max") [.ref l]) Qq E s := by
  obtain ⟨oj, hob, hc, n, hd⟩ := id ht
  have hI : l ≠ s.heap.objs.size := Nat.ne_of_lt (Heap.lt_size hob)
  refine call_max_walk (wpAny_pyIter_tuple ht ?_)
  refine ⟨s.heap.objs.size, _, _, _, _, _, _, rfl, Walks.tuple (A := A.in1) hcal _ l hI (intItems vxs), ⟨⟨_, Heap.get?_push_size _ rfl, rfl, rfl⟩, ht.at fun oj e => Heap.get?_push_of_some _ e⟩, fun b hb => ?_, by simpa [intItems] using hpos, CmpOf.ints_gt (numAt vxs) (fun _ _ => intItems_at), fun v h' tkn hP hk => ?_⟩
  · rcases List.mem_cons.mp hb with rfl | hb
    · exact Heap.lt_size (Heap.get?_push_size _ rfl)
    · obtain rfl := List.mem_singleton.mp hb
      exact Heap.lt_size (Heap.get?_push_of_some _ hob)
  · refine h v h' tkn (by simpa [intItems] using hP) fun b oj e => ?_
    exact hk b oj (fun hb => absurd (Heap.lt_size e) ((List.mem_singleton.mp hb) ▸ Nat.lt_irrefl _)) (Heap.get?_push_of_some _ e)
theorem maxT_raw (hcal : A.handled = none) (hlst : s.heap.IsTuple l vls.toArray) (hint : IntsAre vls nms) (hpos : 0 < nms.length)
    (h : ∀ h' tkn M t', (∀ b oj, s.heap.get? b = some oj → h'.get? b = some oj) → M ∈ nms → (∀ a, a ∈ nms → a ≤ M) → Qq (.int M t') { s with heap := h', toks := tkn }) : wpAny (model prog w) A (call (.builtin "max") [.ref l]) Qq E s := by
  obtain ⟨vxs, e⟩ := hint.allInts.items
  have hnn : numsOf (intItems vxs).toList = nms := by rw [← e]; exact hint.numsOf
  rw [nums_intItems] at hnn
  subst hnn
  rw [e] at hlst
  have hsz : 0 < vxs.size := by simpa using hpos
  refine max_intTup hcal hlst hsz fun v h' tkn hval hk => ?_
  obtain ⟨t, rfl⟩ := intItems_at hval
  obtain ⟨hh1, hh2⟩ := argBest_gt (numAt vxs) (vxs.size - 1)
  refine h h' tkn _ t hk ?_ fun a ha => ?_
  · rw [numAt_eq]; exact PySem.getD_mem (by rw [List.length_map, Array.length_toList]; omega)
  · obtain ⟨j, hjj, rfl⟩ := mem_getD ha
    rw [List.length_map, Array.length_toList] at hjj
    rw [← numAt_eq]; exact hh2 j (by omega)
end
section
variable {X : Cx}
def rMaxT (K : PySem.W.Frag) : List V → Hp → VK → Prop := fun vs Hh Qq => ∃ (a : Addr) (nms : List Int), vs = [V.ref a] ∧ SqT K Hh a (nms.map V.int) ∧ 0 < nms.length ∧ ∀ m, m ∈ nms → (∀ y, y ∈ nms → y ≤ m) → Qq (.int m) Hh
theorem cr_maxT (hc : X.calm = true) : CallR X (.builtin "max") (rMaxT X.K) := by
  intro pns s σs Hh vs uvs Qq Iv r h
  obtain ⟨a, nms, rfl, hs, hpos, qq⟩ := h
  obtain ⟨vls, rlv, hlst, _⟩ := Iv.tuple hs
  rw [Vals.ref1 r]
  exact maxT_raw (Iv.ok.hd hc) (isTuple_of hlst) rlv.ints hpos fun h' tkn m t' hk hh1 hh2 => ⟨.int _, Hh, Iv.kept hk, ⟨_, rfl⟩, qq m hh1 hh2⟩
theorem flat_ints (yms : List Int) : (yms.map V.int).all flatV = true := by
  rw [List.all_map]
  exact List.all_eq_true.mpr fun _ _ => rfl
def rTIdx (K : PySem.W.Frag) : V → List V → Hp → VK → Prop := fun x vxs Hh Qq => ∃ (p : Addr) (yms : List Int) (z : Int) (j : Nat), x = .ref p ∧ vxs = [.int z] ∧ SqT K Hh p (yms.map V.int) ∧ yms[j]? = some z ∧ (∀ m, m < j → yms[m]? ≠ some z) ∧ Qq (.int (j : Nat)) Hh
theorem mt_tupIdx : MtR X "tuple.index" (rTIdx X.K) := by
  intro pns s σs Hh x vxs v uvs Qq Iv rlx rs h
  obtain ⟨p, yms, z, j, rfl, rfl, hsq, hatj, hnot, qq⟩ := h
  cases rlx
  obtain ⟨u, rfl, t, rfl⟩ := vals1 rs
  obtain ⟨vls, r, pl, hszz⟩ := Iv.tuple hsq
  obtain ⟨⟨cls, dct, dta, slt⟩, hob, hc, n, hd⟩ := pl
  simp only at hc hd
  subst hc
  subst hd
  have hlst : vls.toArray.size = yms.length := by rw [List.size_toArray, ← r.length, List.length_map]
  have hjj : j < vls.toArray.size := by rw [hlst]; exact (List.getElem?_eq_some_iff.mp hatj).1
  have at' : ∀ (m : Nat) (hmm : m < vls.toArray.size), ∃ y t', yms[m]? = some y ∧ vls.toArray[m] = Value.int y t' := fun m hmm => by
    have hm' : m < yms.length := by rw [← hlst]; exact hmm
    obtain ⟨w, hwv, t', hw'⟩ := r.get (i := m) (x := .int yms[m]) (by simp [hm'])
    refine ⟨yms[m], t', List.getElem?_eq_getElem hm', ?_⟩
    have e := (List.getElem?_eq_some_iff.mp hwv).2
    rw [← hw', ← e]
    simp
  refine call_meets PySem.F.slot_tuple_index ⟨_, hob, rfl⟩ PySem.F.entry_tuple_index (PySem.F.args_tuple_index_2 _ _) (TI.tuple_indexAt p vls.toArray n dct slt (.int z t) (eqU (.int z)) j hjj ?_ ?_)
    ⟨hob, fun w hwv => mem_eqAt (x := .int z) ⟨t, rfl⟩ rfl r (flat_ints yms) w (by simpa using hwv), ⟨.int (j : Nat), Hh, Iv.tok _, ⟨_, rfl⟩, qq⟩⟩
  · obtain ⟨y, t', hh1, hh2⟩ := at' j hjj
    rw [hatj] at hh1
    cases hh1
    rw [hh2]
    simp [eqU, eqV]
  · intro m hmm hlt
    obtain ⟨y, t', hh1, hh2⟩ := at' m hmm
    rw [hh2]
    have : y ≠ z := fun e => hnot m hlt (by rw [hh1, e])
    simp [eqU, eqV, this]
end
/-! isinstance(e, c), e the exception that the suite holds, with vls dict -/
def rIsED (K : PySem.W.Frag) (D a : Addr) : List V → Hp → VK → Prop := fun vxs Hh Qq => ∃ (c : V) (cv : Value) (b : Bool), vxs = [.ref a, c] ∧ (∀ u, RelV c u → u = cv) ∧ PySem.W.kitOne K (.ref D) cv = some b ∧ Qq (.bl b) Hh
end Rg
namespace Rg
open PySem PySem.Spec PyProof.Rows L2 SrtO
/-! ### sorted(t), t a tuple -/
section
variable {prog : Program} {w : World} {A : Around} {E : Value → Shared → Prop} {s : Shared} {l : Addr} {vs : List Value}
/-- the heap behind the collecting -/
abbrev colHeap (h : Heap) (vs : List Value) : Heap := (h.push (seqObj "list" #[] 0)).update h.objs.size (Obj.mapSeq (· ++ vs.toArray))
theorem col_tup {Qq : List Value → Shared → Prop} (hlst : s.heap.IsTuple l vs.toArray) (hszz : vs.length ≤ sizeLine) (h : Qq vs { s with heap := colHeap s.heap vs }) : wpAny (model prog w) A (collect (.ref l)) Qq E s := by
  obtain ⟨oj, hob, hc, n, hd⟩ := hlst
  have hnew : (s.heap.push (seqObj "list" #[] 0)).get? s.heap.objs.size = some (seqObj "list" #[] 0) := Heap.get?_push_size _ rfl
  have hold : (s.heap.push (seqObj "list" #[] 0)).get? l = some oj := Heap.get?_push_of_some _ hob
  have tt : (Value.type "tuple" == Value.type "tuple") = true := by rfl
  unfold collect
  refine wpAny_bind (wpAny_runValue (codeAny_builtin entry_proto_collect' ?_))
  show wpAny _ _ (do again (.builtin "list.__iadd__" ⟨[← newList [], .ref l], []⟩)) _ _ s
  refine wpAny_bind (wpAny_newList (wpAny_pure ⟨Code.quiet_builtin _ (by decide +kernel), codeAny_builtin entry_list_iadd' ?_⟩))
  show wpAny _ _ (Builtin.List.listExtendWith (.ref s.heap.objs.size) (.ref l) (.ref s.heap.objs.size)) _ _ { s with heap := s.heap.push (seqObj "list" #[] 0) }
  unfold Builtin.List.listExtendWith
  refine wpAny_bind (wpAny_typeOf (T := "tuple") ⟨oj, hold, hc⟩ ?_)
  rw [if_pos (by rw [tt]; simp)]
  refine wpAny_bind (listItems_at hold hd (wpAny_bind (listItems_at (xs := #[]) (n := 0) hnew rfl ?_)))
  rw [if_neg (by simp)]
  refine wpAny_bind (listUpdate_at (xs := #[]) (n := 0) hnew rfl (wpAny_pure ?_) (Nat.zero_le _) (by show (#[] ++ vs.toArray).size ≤ sizeLine + 1; simp only [Array.size_append, List.size_toArray, List.length_nil]; omega))
  show wpAny (model prog w) A (do
      let oj ← load s.heap.objs.size
      match oj.data with
      | .seq vxs _ => pure vxs.toList
      | _ => unsupported "internal:collect") Qq E { s with heap := colHeap s.heap vs }
  refine wpAny_bind (wpAny_load (get?_update_seq hnew _) ?_)
  show wpAny _ _ (pure ((#[] : Array Value) ++ vs.toArray).toList) Qq E _
  have e : ((#[] : Array Value) ++ vs.toArray).toList = vs := by simp
  rw [e]
  exact wpAny_pure h
theorem sorted_tup {ltv : Value → Value → Bool} {Qq : Value → Shared → Prop} (O : Swo ltv) (hlst : s.heap.IsTuple l vs.toArray) (hszz : vs.length ≤ sizeLine)
    (hS : 2 ≤ vs.length → ∀ (h₁ : Heap) (a : Addr), h₁.get? a = some (seqObj "list" vs.toArray 0) → (∀ b oj, s.heap.get? b = some oj → b ≠ a ∧ h₁.get? b = some oj) → SortableO prog w A.in1.in1 { s with heap := h₁ } a vs ltv)
    (h : ∀ out : List Value, Srtd ltv out → Stb ltv out vs → Qq (.ref (s.heap.objs.size + 1)) { s with heap := sortedAll s.heap vs out.toArray }) : wpAny (model prog w) A (call (.builtin "sorted") [.ref l]) Qq E s := by
  have size1 : (colHeap s.heap vs).objs.size = s.heap.objs.size + 1 := by rw [Heap.size_update, size_push']
  have at1 : ((colHeap s.heap vs).push (seqObj "list" vs.toArray 0)).get? (s.heap.objs.size + 1) = some (seqObj "list" vs.toArray 0) := size1 ▸ Heap.get?_push_size (colHeap s.heap vs) rfl
  have old : ∀ b oj, s.heap.get? b = some oj → b ≠ s.heap.objs.size + 1 ∧ ((colHeap s.heap vs).push (seqObj "list" vs.toArray 0)).get? b = some oj := fun b oj qq => by
    have lt : b < s.heap.objs.size := Heap.lt_size qq
    exact ⟨Nat.ne_of_lt (Nat.lt_succ_of_lt lt), Heap.get?_push_of_some _ ((Heap.get?_update_ne _ _ _ _ (Nat.ne_of_lt lt)).trans (Heap.get?_push_of_some _ qq))⟩
  refine Calls.call_function_entry kind_sorted plain_sorted entry_sorted (args_sorted1 _) ?_
  unfold Builtin.«sorted»
  refine wpAny_bind (m := checkCount "sorted" 1 1 _) (wpAny_pure (wpAny_bind (col_tup hlst hszz (wpAny_bind (wpAny_newList ?_ hszz)))))
  show wpAny _ _ _ _ _ { s with heap := (colHeap s.heap vs).push (seqObj "list" vs.toArray 0) }
  rw [size1]
  exact wpAny_bind (wpAny_holding (wpAny_call_entry slot_list_sort ⟨_, at1, rfl⟩ entry_list_sort (list_sort_ord O at1 hszz (fun hh2 => hS hh2 _ _ at1 old) fun out hs hb => ⟨_, rfl, wpAny_pure ⟨_, rfl, h out hs hb⟩⟩) (args_list_sort _)))
end
section
variable {X : Cx}
def rSortedT (K : PySem.W.Frag) : List V → Hp → VK → Prop := fun vs Hh Qq => ∃ (a : Addr) (nms : List Int), vs = [V.ref a] ∧ SqT K Hh a (nms.map V.int) ∧
  ∀ (ns' : List Int) (p : Addr), ns'.Perm nms → ns'.Pairwise (· ≤ ·) → Hh p = none → Qq (.ref p) (upd Hh p (.lst (ns'.map V.int)))
theorem cr_sortedT : CallR X (.builtin "sorted") (rSortedT X.K) := by
  intro pns s σs Hh vs uvs Qq Iv r h
  obtain ⟨a, nms, rfl, hs, qq⟩ := h
  obtain ⟨vls, rlv, hlst, hszz⟩ := Iv.tuple hs
  have hint := rlv.ints
  rw [List.length_map] at hszz
  rw [Vals.ref1 r]
  refine sorted_tup swo_int (isTuple_of hlst) (by rw [hint.length]; exact hszz) (fun hh2 h₁ a' _ _ => ints_sortable hint hh2) fun out hh1 hh2 => ?_
  obtain ⟨k1, k2, k3⟩ := ints_out hint hh1 hh2
  obtain ⟨ep, he'⟩ := PyProof.Rows.sortedAll_at s.heap vls out.toArray
  exact ⟨.ref _, upd Hh (s.heap.objs.size + 1) (.lst ((out.map iv).map V.int)), Iv.laid (t' := s.toks) (fun _ _ => PyProof.Rows.sortedAll_old) (Nat.le_succ _) ⟨by rw [List.length_map, k2.length_eq]; exact hszz, out, ep, vals_of_ints k1, he'⟩, rfl, qq _ _ k2 k3 (Iv.hok.fresh (Nat.le_succ _))⟩
end
end Rg
namespace Rg
open PySem PySem.Spec PyProof.Rows L2 SrtO
/-! ### sorted(vxs), vxs a list of pairs (k, t): k an int, t a tuple of ints -/
/-- at v a pair of x and a tuple of the ints nms -/
def Nest (h : Heap) (v : Value) (x : Int) (nms : List Int) : Prop := ∃ (a b : Addr) (oj : Obj) (t : Tok) (n : Nat) (vls : List Value), v = .ref a ∧ h.get? a = some oj ∧ oj.cls = .type "tuple" ∧ oj.data = .seq #[.int x t, .ref b] n ∧ IsTup h b vls.toArray ∧ IntsAre vls nms
theorem Nest.kept {h h' : Heap} {v : Value} {x : Int} {nms : List Int} (p : Nest h v x nms) (k : ∀ b oj, h.get? b = some oj → oj.cls = .type "tuple" → h'.get? b = some oj) : Nest h' v x nms := by
  obtain ⟨a, b, oj, t, n, vls, e, hob, hc, hd, ⟨ob, hb, hbc, hbd⟩, hint⟩ := p
  exact ⟨a, b, oj, t, n, vls, e, k _ _ hob hc, hc, hd, ⟨ob, k _ _ hb hbc, hbc, hbd⟩, hint⟩
theorem reads_ints {h : Heap} : ∀ {vs : List Value} {nms : List Int}, IntsAre vs nms → ∃ as, ReadsAll h vs (nms.map PyData.int) as
  | _, _, .nil => ⟨_, .nil⟩
  | _, _, .cons i t r => by
    obtain ⟨as, qq⟩ := reads_ints (h := h) r
    exact ⟨_, .cons (.int i t) qq⟩
theorem eqvA_ints : ∀ vxs yms : List Int, PyData.eqvAll (vxs.map PyData.int) (yms.map PyData.int) = decide (vxs = yms)
  | [], [] => by simp [PyData.eqvAll]
  | [], y :: yms => by simp [PyData.eqvAll]
  | x :: vxs, [] => by simp [PyData.eqvAll]
  | x :: vxs, y :: yms => by
    simp only [List.map_cons, PyData.eqvAll, eqvA_ints vxs yms, PyData.eqv]
    by_cases e : x = y <;> by_cases f : vxs = yms <;> simp [e, f]
theorem layA_ints : ∀ l : List Int, PyData.canLayAll0 (l.map PyData.int) = true
  | [] => by simp [PyData.canLayAll0]
  | i :: l => by simp [PyData.canLayAll0, PyData.canLay0, layA_ints l]
theorem depA_ints : ∀ l : List Int, PyData.depthAll (l.map PyData.int) = 0
  | [] => by simp [PyData.depthAll]
  | i :: l => by simp [PyData.depthAll, PyData.depth, depA_ints l]
theorem lex_self : ∀ l : List Int, HT.lexLt l l = false
  | [] => rfl
  | x :: l => by rw [HT.lexLt_cons, if_pos rfl]; exact lex_self l
section
variable {prog : Program} {w : World} {A : Around} {E : Value → Shared → Prop} {s : Shared}
theorem eq_tupInts {b c : Addr} {vls jts : List Value} {nms ms : List Int} (hb : IsTup s.heap b vls.toArray) (hc : IsTup s.heap c jts.toArray) (hint : IntsAre vls nms) (hjj : IntsAre jts ms) (hu : A.units + 1 < cLine) :
    SeqAt.EqAt A s (.ref b) (.ref c) (decide (nms = ms)) := by
  obtain ⟨o1, hh1, c1, n1, d1⟩ := hb
  obtain ⟨o2, hh2, c2, n2, d2⟩ := hc
  obtain ⟨as, r1⟩ := reads_ints (h := s.heap) hint
  obtain ⟨bs, r2⟩ := reads_ints (h := s.heap) hjj
  have qq := SeqAt.eqAt_reads (.tuple (nms.map PyData.int)) (.tuple (ms.map PyData.int)) A s (.ref b) (.ref c) _ _ (Reads.tuple hh1 c1 d1 r1) (Reads.tuple hh2 c2 d2 r2) (by simp only [PyData.canLay0]; exact layA_ints nms) (by simp only [PyData.canLay0]; exact layA_ints ms)
    (by simp only [PyData.depth, depA_ints]; omega)
  have e : PyData.eqv (.tuple (nms.map PyData.int)) (.tuple (ms.map PyData.int)) = decide (nms = ms) := by
    simp only [PyData.eqv]
    exact eqvA_ints nms ms
  rwa [e] at qq
theorem nest_cmp {vs : List Value} {k : Value → Int × List Int} (hp : ∀ v ∈ vs, Nest s.heap v (k v).1 (k v).2) (hu : A.units + 1 < cLine) :
    SrtO.Cmp prog w A s (tuples' true) (fun p => p.1 ∈ vs) (lt2 fun v u => HT.lexLt ((k v).1 :: (k v).2) ((k u).1 :: (k u).2)) := by
  intro p qq hmm hm'
  have hh1 := hp _ hmm
  have hh2 := hp _ hm'
  show wpAny (model prog w) A (keyLt' (tuples' true) p.1 qq.1) (fun r s' => s' = s ∧ r = HT.lexLt ((k p.1).1 :: (k p.1).2) ((k qq.1).1 :: (k qq.1).2)) (fun _ _ => False) s
  generalize (k p.1).1 = x at hh1 ⊢
  generalize (k p.1).2 = nms at hh1 ⊢
  generalize (k qq.1).1 = y at hh2 ⊢
  generalize (k qq.1).2 = ms at hh2 ⊢
  obtain ⟨a, b, oj, t, n, vls, e, hob, hc, hd, hb, hint⟩ := hh1
  obtain ⟨a', b', o', t', n', its', e', ho', hc', hd', hb', hi'⟩ := hh2
  rw [e, e', HT.lexLt_cons]
  refine PySem.W.kat_lt hob hd ho' hd' ?_
  show PySem.W.KatLex prog w A true (decide (2 < 2)) _ [(.int x t, .int y t'), (.ref b, .ref b')] 0 s
  refine PySem.W.kat_cons (SeqAt.EqAt.int_int x t y t' prog w _ _ (PySem.W.kat_go (fun e1 => PySem.W.kat_yes (PySem.W.kat_cons (eq_tupInts hb hb' hint hi' hu prog w _ _ (PySem.W.kat_go (fun ee2 => ?_) (fun ee2 => ?_))))) (fun e1 => ?_)))
  · have ex : x = y := by simpa using e1
    have ey : nms = ms := of_decide_eq_true ee2
    refine PySem.W.kat_yes (PySem.W.kat_nil ⟨rfl, ?_⟩)
    rw [if_pos ex, ey, lex_self]
    rfl
  · have ex : x = y := by simpa using e1
    rw [if_pos ex]
    exact PySem.W.kat_no (PySem.W.kat_one _ _ (HT.lt_tupInts hb hb' hint hi' (by omega) ⟨rfl, rfl⟩))
  · have ex : ¬ x = y := by simpa using e1
    rw [if_neg ex]
    exact PySem.W.kat_no (oneLt_int ⟨rfl, rfl⟩)
theorem nest_firsts {h : Heap} {k : Value → Int × List Int} : ∀ {vs : List Value}, (∀ v ∈ vs, Nest h v (k v).1 (k v).2) → ∃ fs : List Value, PySem.W.KatTups h vs fs ∧ fs.length = vs.length ∧ ∀ f ∈ fs, ∃ x t, f = Value.int x t
  | [], _ => ⟨[], PySem.W.KatTups.nil, rfl, fun _ z => nomatch z⟩
  | v :: vs, hp => by
    obtain ⟨fs, q1, q2, q3⟩ := nest_firsts fun v' z => hp v' (List.mem_cons_of_mem _ z)
    obtain ⟨a, b, oj, t, n, vls, e, hob, hc, hd, _⟩ := hp v (List.mem_cons_self ..)
    rw [e]
    refine ⟨.int _ t :: fs, PySem.W.KatTups.cons hob hc hd rfl q1, congrArg (· + 1) q2, fun f z => ?_⟩
    rcases List.mem_cons.mp z with z | z
    · exact ⟨_, t, z⟩
    · exact q3 f z
theorem nest_sortable {a : Addr} {vs : List Value} {k : Value → Int × List Int} (h0 : 0 < vs.length) (hu : A.units + 1 < cLine) (hp : ∀ v ∈ vs, Nest s.heap v (k v).1 (k v).2) (ha : ∀ oj, s.heap.get? a = some oj → oj.cls ≠ .type "tuple") :
    SortableO prog w A s a vs fun v u => HT.lexLt ((k v).1 :: (k v).2) ((k u).1 :: (k u).2) := by
  intro h' keep
  have hp' : ∀ v ∈ vs, Nest h' v (k v).1 (k v).2 := fun v z => (hp v z).kept fun b oj e c => keep b oj (fun z => ha oj (z ▸ e) c) e
  obtain ⟨fs, q1, q2, q3⟩ := nest_firsts hp'
  refine ⟨tuples' true, fun Qq E hsq => PySem.W.kat_kind (T := .type "int") q1 (by omega) (fun f z => ?_) (by rfl) ?_, nest_cmp hp' hu⟩
  · obtain ⟨x, t, e⟩ := q3 f z
    rw [e]
    exact PySem.W.Looks.now
  · rw [show (Value.type "int" != Value.type "tuple") = true by decide +kernel]
    exact hsq
end
section
variable {X : Cx}
/-- k says what stands at each item -/
def rSortedN (K : PySem.W.Frag) : List V → Hp → VK → Prop := fun vs Hh Qq => ∃ (a : Addr) (vxs : List V) (k : V → Int × List Int), vs = [V.ref a] ∧ SqL K Hh a vxs ∧ (∀ x ∈ vxs, ∃ t b, x = V.ref t ∧ Hh t = some (.tup [.int (k x).1, .ref b]) ∧ Hh b = some (.tup ((k x).2.map V.int))) ∧
  ∀ yms p, Srtd (fun v u => HT.lexLt ((k v).1 :: (k v).2) ((k u).1 :: (k u).2)) yms → yms.Perm vxs → Hh p = none → Qq (.ref p) (upd Hh p (.lst yms))
theorem cr_sortedN (hu : X.A.units + 64 < cLine) : CallR X (.builtin "sorted") (rSortedN X.K) := by
  intro pns s σs Hh vs uvs Qq Iv r h
  obtain ⟨a, vxs, k, rfl, hs, hx, qq⟩ := h
  obtain ⟨vls, rlv, hlst, hszz⟩ := Iv.list hs
  rw [Vals.ref1 r]
  obtain ⟨e1, ee2⟩ := refs_back rlv fun x m => let ⟨t, _, e, _⟩ := hx x m; ⟨t, e⟩
  have nst : ∀ v ∈ vls, Nest s.heap v (k (backV v)).1 (k (backV v)).2 := fun v hval => by
    obtain ⟨t, rfl⟩ := ee2 v hval
    obtain ⟨t', b, et, hh1, hh2⟩ := hx (V.ref t) (by rw [e1]; exact List.mem_map.mpr ⟨_, hval, rfl⟩)
    cases et
    obtain ⟨_, jts, r2, oj, hob, hc, n, hd⟩ := Iv.hok _ _ hh1
    obtain ⟨u1, u2, rfl, ⟨t1, rfl⟩, r3⟩ := vals2 r2
    obtain rfl : u2 = Value.ref b := r3
    obtain ⟨_, kts, r4, p4⟩ := Iv.hok _ _ hh2
    exact ⟨t, b, oj, t1, n, kts, rfl, hob, hc, hd, p4, r4.ints⟩
  refine sorted_ord (NtL.swo_lexL fun u : Value => (k (backV u)).1 :: (k (backV u)).2) hlst.isList (by rw [← rlv.length]; exact hszz) (fun hh2 h₁ a' ha kk => ?_) fun out hh1 hh2 => ?_
  · refine nest_sortable (s := { s with heap := h₁ }) (k := fun u => k (backV u)) (by omega) (show X.A.units + 1 + 1 + 1 < cLine by omega) (fun v hval => (nst v hval).kept fun b oj e _ => (kk b oj e).2) fun oj e c => ?_
    cases e.symm.trans ha
    exact absurd (Value.type.inj c) (by decide)
  · have h3 : ∀ u ∈ out, ∃ a, u = Value.ref a := fun u hu => ee2 u (hh2.perm.mem_iff.mp hu)
    have hp : (out.map backV).Perm vxs := by rw [e1]; exact hh2.perm.map backV
    obtain ⟨n, hnn⟩ := PyProof.Rows.sortedAll_at s.heap vls out.toArray
    exact ⟨.ref _, upd Hh (s.heap.objs.size + 1) (.lst (out.map backV)), Iv.laid (t' := s.toks) (fun _ _ => PyProof.Rows.sortedAll_old) (Nat.le_succ _) ⟨by rw [hp.length_eq]; exact hszz, out, n, vals_back h3, hnn⟩, rfl,
      qq _ _ (List.pairwise_map.mpr hh1) hp (Iv.hok.fresh (Nat.le_succ _))⟩
end
end Rg
namespace Rg
open PySem PySem.Spec PyProof.Rows L2
/-! tuple(list), whose object is known to have no dict: so that vls methods can be called -/
section
variable {X : Cx}
def rTupF (K : PySem.W.Frag) : List V → Hp → VK → Prop := fun vxs Hh Qq => ∃ p yms, vxs = [V.ref p] ∧ SqL K Hh p yms ∧ ∀ l oj, Hh l = none → oj.dict = none → Qq (.ref l) (upd Hh l (.frz oj (.tup yms)))
theorem cr_tupF : CallR X (.type "tuple") (rTupF X.K) := by
  intro pns s σs Hh vxs uvs Qq Iv r ⟨p, yms, e, hsq, qq⟩
  subst e
  obtain ⟨u, rfl, rlx⟩ := vals1 r
  cases rlx
  obtain ⟨vls, rlv, pl, sz⟩ := Iv.list hsq
  have hnn := rlv.length
  refine call_tuple_list pl.isList (fun hh1 kp => ?_) (by rw [List.size_toArray]; omega)
  have J : Inv X pns σs Hh { s with heap := hh1 } := Iv.kept (t' := s.toks) kp
  have J2 : Inv X pns σs (upd Hh hh1.objs.size (.frz { cls := .type "tuple", data := .seq vls.toArray } (.tup yms))) { s with heap := hh1.push { cls := .type "tuple", data := .seq vls.toArray } } :=
    J.laid (t' := s.toks) (fun b oj e => Heap.get?_push_of_some _ e) (Nat.le_refl _)
      (show ObjOk X.prog X.w _ _ _ (.frz _ (.tup yms)) from ⟨Heap.get?_push_size _ rfl, sz, vls, rlv, IsTup.new _ _⟩)
  exact ⟨.ref hh1.objs.size, _, J2, rfl, qq _ _ (J.hok.fresh (Nat.le_refl _)) rfl⟩
def tyTF (x : V) (Hh : Hp) : Prop := ∃ a oj yms, x = .ref a ∧ Hh a = some (.frz oj (.tup yms)) ∧ oj.dict = none
theorem ty_tf : TyOk X "tuple" tyTF := by
  intro pns σs Hh s x v Iv r ⟨a, oj, yms, e, h, hd⟩
  subst e
  cases r
  obtain ⟨e, _, vls, _, o2, ee2, hc, _⟩ := (show ObjOk X.prog X.w Hh s.heap a (.frz oj (.tup yms)) from Iv.hok a _ h)
  refine ⟨⟨_, ee2, hc⟩, fun b qq => ?_⟩
  cases qq
  exact ⟨oj, e, hd⟩
end
end Rg
namespace Rg
open PySem PySem.Spec PyProof.Rows L2
/-! ### x != y, x == y of instances whose class has an own == and no own != -/
section
variable {prog : Program} {w : World} {A : Around} {E : Value → Shared → Prop} {s : Shared} {K : PySem.W.Frag} {x C L f : Addr} {h₀ : Heap} {m : Str → Option Value} {ox : Obj} {od : Option Obj} {b tb : Value}
theorem boundNe {M : Model} {args : List Value} {Q : Option Value → Shared → Prop} (Xk : K.In s.heap) (Ia : PySem.W.InstAt s.heap x ox C od) (hs : PySem.W.findIn K (.ref C) "__ne__" = some (some (.builtin "object.__ne__")))
    (h : wpAny M A (call (.builtin "object.__ne__") (.ref x :: args)) (fun v => Q (some v)) E s) : wpAny M A (callSpecialIfBound? (.ref x) "__ne__" args) Q E s := by
  simp only [callSpecialIfBound?, bindSpecialIfBound?]
  refine wpAny_holding (wpAny_bind (wpAny_bind (wpAny_bind (Ia.type.here ((PySem.W.looks_findIn Xk hs).here ?_)))))
  dsimp only
  simp only [F.cmp_object.ne.bind]
  refine wpAny_bind (wpAny_askSetting (wpAny_ite ?_))
  have fin : wpAny M A (call (.builtin "object.__ne__") ([.ref x] ++ args) >>= fun v => pure (some v)) Q E s := wpAny_bind (wpAny_mono h (fun v s' h' => wpAny_pure h') fun _ _ h' => h')
  split
  · exact wpAny_bind (wpAny_pure (wpAny_pure fin))
  · exact wpAny_tryCatch (wpAny_bind (wpAny_pure (wpAny_pure fin)))
theorem checkNe {M : Model} {Q : Unit → Shared → Prop} (Xk : K.In s.heap) (Ia : PySem.W.InstAt s.heap x ox C od) (ho : PySem.W.subIn K (.ref C) (.type "object") = some true) (hq : Q () s) : wpAny M A (checkBuiltinCall "object.__ne__" ⟨[.ref x, b], []⟩) Q E s := by
  simp only [checkBuiltinCall, F.cmpKind_ne, F.cmpSplit_ne]
  refine wpAny_bind ?_
  unfold isInstance
  refine wpAny_bind (Ia.type.here ((PySem.W.looks_subIn Xk ho).here ?_))
  simp only [Bool.not_true, Bool.false_eq_true, if_false]
  have ha := F.cmpArgs_ne (.ref x) b
  cases hsig : Manifest.signature? "object.__ne__" with
  | none => exact wpAny_pure hq
  | some sig =>
    simp only [argsOk, hsig] at ha
    have h2 : Bind.checkArgs "object.__ne__" sig ⟨[.ref x, b], []⟩ = pure () := ha
    show wpAny M A (Bind.checkArgs "object.__ne__" sig ⟨[.ref x, b], []⟩) Q E _
    rw [h2]; exact wpAny_pure hq
theorem objNeK {Q : Fin → Shared → Prop} (Xk : K.In s.heap) (Ia : PySem.W.InstAt s.heap x ox C od) (hs : PySem.W.findIn K (.ref C) "__eq__" = some (some (.ref f))) (hf : PySem.W.isFn K (.ref f) = true) (hu : A.units < cLine)
    (h : wpAny (model prog w) A (call (.ref f) [.ref x, b]) (fun v s' => ∃ r, v = .bool r ∧ Q (.done (.ret (.bool (!r)))) s') E s) :
    wpAny (model prog w) A (Builtin.«object.__ne__» ⟨[.ref x, b], []⟩) Q E s := by
  unfold Builtin.«object.__ne__»
  repeat (first
    | with_reducible refine wpAny_cRoomFor hu ?_
    | (refine wpAny_bind (m := callSpecialIfBound? (.ref x) (Str.ofString "__eq__") [b])
        (PySem.W.ifBound_K Xk Ia hs hf (wpAny_mono h (fun r s' hr => by
          obtain ⟨b, rfl, hq⟩ := hr
          repeat (first | exact hq | exact wpAny_pure hq | exact wpAny_truthy_bool hq | (refine wpAny_bind (m := truthy (.bool _)) (wpAny_truthy_bool ?_)) | wp_step)) fun _ _ e => e)))
    | wp_step)
theorem neK {Q : Value → Shared → Prop} (hu : A.units + 1 < cLine) (Fr0 : Fr h₀ L s.heap m) (X₀ : K.In h₀) (Ia : PySem.W.InstAt s.heap x ox C od) (hb : PySem.W.Looks (model prog w) s.heap (typeOf b) tb) (hn : PySem.W.notFirst K C tb = true)
    (hne : PySem.W.findIn K (.ref C) "__ne__" = some (some (.builtin "object.__ne__"))) (ho : PySem.W.subIn K (.ref C) (.type "object") = some true) (hs : PySem.W.findIn K (.ref C) "__eq__" = some (some (.ref f))) (hf : PySem.W.isFn K (.ref f) = true)
    (h : wpAny (model prog w) A.in1 (call (.ref f) [.ref x, b]) (fun v s' => ∃ r, v = .bool r ∧ Q (.bool (!r)) s') E s) : wpAny (model prog w) A (richCompare .NotEq (.ref x) b) Q E s := by
  have Xk := X₀.keeps Fr0.keep
  have one : wpAny (model prog w) A (tryCompare (.ref x) "__ne__" b) (fun r s' => ∃ v, r = some v ∧ Q v s') E s := by
    unfold tryCompare
    refine wpAny_bind (boundNe Xk Ia hne (wpAny_call (codeAny_call_builtin F.cmp_object.ne.plain F.cmpEntry_ne (checkNe Xk Ia ho (objNeK (A := A.in1) Xk Ia hs hf hu (wpAny_mono h (fun v s' hv => ?_) fun _ _ e => e))))))
    obtain ⟨r, rfl, hq⟩ := hv
    exact ⟨r, rfl, wpAny_pure ⟨_, rfl, hq⟩⟩
  unfold richCompare
  simp only [oneThing_ref]
  refine wpAny_holding (wpAny_bind (wpAny_cRoomFor (Nat.lt_of_succ_lt hu) ?_))
  refine wpAny_bind (Ia.type.here (wpAny_bind (hb.here ?_)))
  split
  · rename_i q
    have e : PySem.W.subIn K tb (.ref C) = some false := by
      rcases Bool.or_eq_true_iff.mp hn with e | e
      · rw [beq_iff_eq.mp e] at q; simp at q
      · exact beq_iff_eq.mp e
    refine wpAny_bind ((PySem.W.looks_subIn Xk e).here ?_)
    simp only [Bool.false_eq_true, if_false]
    refine wpAny_bind (wpAny_mono one (fun r s' z => ?_) fun _ _ e => e)
    obtain ⟨v, rfl, hq⟩ := z
    exact wpAny_pure hq
  · refine wpAny_bind (wpAny_pure ?_)
    simp only [Bool.false_eq_true, if_false]
    refine wpAny_bind (wpAny_mono one (fun r s' z => ?_) fun _ _ e => e)
    obtain ⟨v, rfl, hq⟩ := z
    exact wpAny_pure hq
end
section
variable {X : Cx} {n : Nat} {C f : Addr} {fd : FuncData} {ps : List Str} {sp : Sp}
/-- both are instances of C; what the own == says of them, as a bool -/
def rInsEq (C : Addr) (sp : Sp) : R2 := fun x y H Q => ∃ a b dx dy fs gs, x = .ref a ∧ y = .ref b ∧ H a = some (.ins C dx fs) ∧ H b = some (.ins C dy gs) ∧ sp [.ref a, .ref b] H (fun v H' => ∃ r, v = .bl r ∧ Q (.bl r) H') E0
def rInsNe (C : Addr) (sp : Sp) : R2 := fun x y H Q => ∃ a b dx dy fs gs, x = .ref a ∧ y = .ref b ∧ H a = some (.ins C dx fs) ∧ H b = some (.ins C dy gs) ∧ sp [.ref a, .ref b] H (fun v H' => ∃ r, v = .bl r ∧ Q (.bl (!r)) H') E0
theorem op_insNe (F : FnOk X.prog X.w X.K X.mg X.base CX0 n f fd ps sp) (hne : PySem.W.findIn X.K (.ref C) "__ne__" = some (some (.builtin "object.__ne__"))) (ho : PySem.W.subIn X.K (.ref C) (.type "object") = some true)
    (hs : PySem.W.findIn X.K (.ref C) "__eq__" = some (some (.ref f))) (hf : PySem.W.isFn X.K (.ref f) = true) (hb : Binds X.K fd ps []) (hr : Room (n + 1) X.A) : OpR X (compareOp .NotEq) (rInsNe C sp) := by
  intro pins s σ H x y u v Q I rx ry ⟨a, b, dx, dy, fs, gs, ex, ey, ha, hb', hsp⟩
  subst ex ey
  cases rx
  cases ry
  obtain ⟨mA, J, _⟩ := ins_get I.hok ha
  obtain ⟨mB, J', _⟩ := ins_get I.hok hb'
  obtain ⟨od, J, _⟩ := J.look
  obtain ⟨od', J', _⟩ := J'.look
  obtain ⟨m, hF⟩ := I.fr
  show wpAny (model X.prog X.w) X.A (richCompare .NotEq (.ref a) (.ref b)) (EP X pins σ Q) X.xe s
  refine neK (tb := .ref C) (by have := hr.un; omega) hF I.ok.mod.kin J J'.type (by simp [PySem.W.notFirst]) hne ho hs hf ?_
  have hl := F.len _ _ _ _ hsp
  have r2 : Vals [V.ref a, V.ref b] [Value.ref a, Value.ref b] := .cons rfl (.cons rfl .nil)
  refine wpAny_call (codeAny_mono (F.run X.A.in1 X.stack s H ⟨[.ref a, .ref b], []⟩ [.ref a, .ref b] [.ref a, .ref b] _ E0 hr.in1 I.env0.in1 (by
    have := hb s [.ref a, .ref b] I.kIn (by simpa using hl)
    simpa using this) r2 hsp) fun r s' hq => ?_)
  cases r with
  | error e => exact hq.elim
  | ok fl =>
    cases fl with
    | ret w =>
      obtain ⟨z, H', I', rz, r0, ez, q⟩ := I.after hq
      subst ez
      cases rz
      exact ⟨r0, rfl, .bl (!r0), H', I', rfl, q⟩
    | next => exact False.elim hq
    | brk => exact False.elim hq
    | cont => exact False.elim hq
theorem op_insEq (F : FnOk X.prog X.w X.K X.mg X.base CX0 n f fd ps sp)
    (hs : PySem.W.findIn X.K (.ref C) "__eq__" = some (some (.ref f))) (hf : PySem.W.isFn X.K (.ref f) = true) (hb : Binds X.K fd ps []) (hr : Room n X.A) : OpR X (compareOp .Eq) (rInsEq C sp) := by
  intro pins s σ H x y u v Q I rx ry ⟨a, b, dx, dy, fs, gs, ex, ey, ha, hb', hsp⟩
  subst ex ey
  cases rx
  cases ry
  obtain ⟨mA, J, _⟩ := ins_get I.hok ha
  obtain ⟨mB, J', _⟩ := ins_get I.hok hb'
  obtain ⟨od, J, _⟩ := J.look
  obtain ⟨od', J', _⟩ := J'.look
  obtain ⟨m, hF⟩ := I.fr
  show wpAny (model X.prog X.w) X.A (richCompare .Eq (.ref a) (.ref b)) (EP X pins σ Q) X.xe s
  refine PySem.W.cmp_K (op := .Eq) (tb := .ref C) hr.units0 hF I.ok.mod.kin J J'.type (by simp [PySem.W.notFirst]) hs hf ?_
  have hl := F.len _ _ _ _ hsp
  have r2 : Vals [V.ref a, V.ref b] [Value.ref a, Value.ref b] := .cons rfl (.cons rfl .nil)
  refine wpAny_call (codeAny_mono (F.run X.A X.stack s H ⟨[.ref a, .ref b], []⟩ [.ref a, .ref b] [.ref a, .ref b] _ E0 hr I.env0 (by
    have := hb s [.ref a, .ref b] I.kIn (by simpa using hl)
    simpa using this) r2 hsp) fun r s' hq => ?_)
  cases r with
  | error e => exact hq.elim
  | ok fl =>
    cases fl with
    | ret w =>
      obtain ⟨z, H', I', rz, r0, ez, q⟩ := I.after hq
      subst ez
      cases rz
      exact ⟨.bl r0, H', I', rfl, q⟩
    | next => exact False.elim hq
    | brk => exact False.elim hq
    | cont => exact False.elim hq
end
end Rg
namespace Rg
open PySem PySem.Spec PyProof.Rows L2 HT
/-! ### t[:0:-1] of a tuple -/
theorem adjust_back {n : Nat} (hn : 1 ≤ n) : Builtin.Slice.sliceAdjust none (some 0) (-1) (n : Int) = (((n - 1 : Nat) : Int), 0) := by
  unfold Builtin.Slice.sliceAdjust
  have h1 : ((-1 : Int) < 0) := by omega
  have h2 : ¬ ((0 : Int) < 0) := by omega
  simp only [h1, h2, if_true, if_false]
  refine Prod.ext ?_ ?_
  · show (n : Int) - 1 = _
    omega
  · show min (0 : Int) ((n : Int) - 1) = 0
    omega
theorem places_back (n : Nat) : Builtin.Slice.slicePlaces (n : Int) 0 (-1) = n := by
  unfold Builtin.Slice.slicePlaces
  have h1 : ¬ ((-1 : Int) > 0) := by omega
  simp only [h1, if_false, Int.neg_neg, Int.ediv_one]
  split <;> omega
theorem pick_back0 {α : Type} (l : List α) (h : 1 ≤ l.length) : (List.range (l.length - 1)).filterMap (fun m => l[l.length - 1 - m]?) = (l.drop 1).reverse := by
  have e : ∀ k, k ≤ l.length - 1 → (List.range k).filterMap (fun m => l[l.length - 1 - m]?) = (l.drop (l.length - k)).reverse := by
    intro k
    induction k with
    | zero => intro _; simp
    | succ k ih =>
      intro hk
      rw [List.range_succ, List.filterMap_append, ih (by omega)]
      have hlt : l.length - (k + 1) < l.length := by omega
      rw [List.drop_eq_getElem_cons hlt, List.reverse_cons, show l.length - (k + 1) + 1 = l.length - k by omega]
      congr 1
      have e2 : l[l.length - 1 - k]? = some l[l.length - (k + 1)] := by
        rw [show l.length - 1 - k = l.length - (k + 1) by omega]
        exact List.getElem?_eq_getElem hlt
      simp [e2]
  have := e (l.length - 1) (Nat.le_refl _)
  rw [show l.length - (l.length - 1) = 1 by omega] at this
  exact this
theorem fmap_congr {α β : Type} {f g : α → Option β} : ∀ {l : List α}, (∀ x ∈ l, f x = g x) → l.filterMap f = l.filterMap g
  | [], _ => rfl
  | x :: l, h => by
    rw [List.filterMap_cons, List.filterMap_cons, h x (List.mem_cons_self ..), fmap_congr fun y hy => h y (List.mem_cons_of_mem _ hy)]
theorem pick_back (xs : Array Value) (h : 1 ≤ xs.size) : ((List.range (xs.size - 1)).filterMap fun (m : Nat) => xs[((((xs.size - 1 : Nat) : Int)) + (m : Int) * (-1)).toNat]?).toArray = (xs.toList.drop 1).reverse.toArray := by
  have h2 := pick_back0 xs.toList (by simpa using h)
  rw [Array.length_toList] at h2
  rw [← h2]
  congr 1
  refine fmap_congr fun m hm => ?_
  have hm' := List.mem_range.mp hm
  rw [show ((((xs.size - 1 : Nat) : Int)) + (m : Int) * (-1)).toNat = xs.size - 1 - m by omega]
  simp
section
variable {prog : Program} {w : World} {A : Around} {E : Value → Shared → Prop} {s : Shared}
theorem applied_back {sl : Addr} {vu vs : Value} {n : Nat} {Q : Int × Int × Nat → Shared → Prop} (hs : s.heap.IsSliceOf sl .none vu vs) (pu : IsPart vu (some 0)) (ps : IsPart vs (some (-1))) (hn : 1 ≤ n)
    (h : Q (((n - 1 : Nat) : Int), -1, n - 1) s) : wpAny (model prog w) A (Builtin.Slice.sliceApplied (.ref sl) (pure (n : Int))) Q E s := by
  obtain ⟨os, hos, hcs, hds⟩ := id hs
  unfold Builtin.Slice.sliceApplied Builtin.Slice.sliceFields
  refine wpAny_bind (wpAny_bind (wpAny_field hos hds (x := .none) rfl (wpAny_bind (wpAny_field hos hds (x := vu) rfl (wpAny_bind (wpAny_field hos hds (x := vs) rfl (wpAny_pure ?_)))))))
  refine wpAny_bind (slicePart_ ps ?_)
  show wpAny _ _ (if ((-1 : Int) == 0) = true then _ else _) _ _ s
  rw [if_neg (by decide)]
  refine wpAny_bind (slicePart_none (wpAny_bind (slicePart_ pu (wpAny_bind (wpAny_pure ?_)))))
  show wpAny _ _ (match Builtin.Slice.sliceAdjust none (some 0) (-1) (n : Int) with | (lo, hi) => pure (lo, (-1 : Int), Builtin.Slice.slicePlaces lo hi (-1))) _ _ s
  rw [adjust_back hn]
  show wpAny _ _ (pure (((n - 1 : Nat) : Int), (-1 : Int), Builtin.Slice.slicePlaces ((n - 1 : Nat) : Int) 0 (-1))) _ _ s
  rw [places_back]
  exact wpAny_pure h
theorem getItem_back {t sl : Addr} {items : Array Value} {vu vs : Value} {Q : Value → Shared → Prop} (ht : IsTup s.heap t items) (hs : s.heap.IsSliceOf sl .none vu vs) (pu : IsPart vu (some 0)) (ps : IsPart vs (some (-1))) (hn : 1 ≤ items.size)
    (h : Q (.ref s.heap.objs.size) { s with heap := s.heap.push { cls := .type "tuple", data := .seq (items.toList.drop 1).reverse.toArray } })
    (hsz : items.size ≤ sizeLine) : wpAny (model prog w) A (getItem (.ref t) (.ref sl)) Q E s := by
  have htake : sizeOk (.seq (items.toList.drop 1).reverse.toArray) := by
    show (items.toList.drop 1).reverse.toArray.size ≤ sizeLine
    rw [List.size_toArray, List.length_reverse, List.length_drop, Array.length_toList]
    omega
  obtain ⟨os, hos, hcs, hds⟩ := id hs
  have hTs : s.TypeIs (.ref sl) "slice" := ⟨os, hos, hcs⟩
  unfold getItem
  try with_reducible refine wpAny_holding ?_
  first | refine wpAny_bind (wpAny_pure ?_) | skip
  refine wpAny_bind (wpAny_sequenceKey ht.typeIs (by decide) ?_)
  refine wpAny_bind (wpAny_callSpecial?_slot (name := Str.ofString "__getitem__") ht.typeIs PyProof.Rows.slot_tuple_getitem
    (wpAny_call_entry PyProof.Rows.slot_tuple_getitem ht.typeIs entry_tuple_getitem ?_ (args_tuple_getitem _ _)))
  show wpAny _ _ (Builtin.Tuple.tupleItemsOf (.ref t) >>= _) _ _ s
  refine wpAny_bind (tupleItemsOf_ ht ?_)
  refine wpAny_bind (wpAny_typeOf hTs ?_)
  rw [if_pos (by decide)]
  refine wpAny_bind (applied_back hs pu ps hn ?_)
  have hno : ¬ ((((items.size - 1 : Nat) : Int) == 0 && (-1 : Int) == 1 && (items.size - 1) == items.size) = true) := by
    intro q
    rw [Bool.and_eq_true, Bool.and_eq_true] at q
    exact absurd q.1.2 (by decide)
  show wpAny _ _ (if (((items.size - 1 : Nat) : Int) == 0 && (-1 : Int) == 1 && (items.size - 1) == items.size) = true then _ else _) _ _ s
  rw [if_neg hno, pick_back items hn]
  first
    | exact wpAny_bind (m := Builtin.Tuple.tupleExact _) (wpAny_newObj_type (wpAny_pure ⟨_, rfl, wpAny_pure h⟩) htake)
    | exact wpAny_bind (m := Builtin.Tuple.tupleExact _) (wpAny_newObj_type (wpAny_bind (wpAny_pure (wpAny_pure ⟨_, rfl, wpAny_pure h⟩))) htake)
    | exact wpAny_bind (wpAny_bind (m := Builtin.Tuple.tupleExact _) (wpAny_newObj_type (wpAny_pure (wpAny_pure ⟨_, rfl, wpAny_pure h⟩)) htake))
    | exact wpAny_bind (wpAny_bind (m := Builtin.Tuple.tupleExact _) (wpAny_newObj_type (wpAny_pure ⟨_, rfl, wpAny_pure h⟩) htake))
end
section
variable {X : Cx}
def tBackT (K : PySem.W.Frag) (te : TE) : TE := fun σ H Q => te σ H fun x H1 => ∃ a xs, x = .ref a ∧ SqT K H1 a xs ∧ 1 ≤ xs.length ∧ ∀ p, H1 p = none → Q (.ref p) (upd H1 p (.tup (xs.drop 1).reverse))
theorem pe_backT {e : Expr} {te : TE} {k k0 : Nat} {p0 p1 p2 p3 pos : Pos} (he : PE X e te) : PE X (.Subscript e (.Slice none (some (.Constant (.int 0) k0 p0)) (some (.UnaryOp .USub (.Constant (.int 1) k p1) p2)) p3) pos) (tBackT X.K te) := by
  refine ⟨fun pins s σ H Q I h => ?_⟩
  refine Subscript_ (thn (he.run pins s σ H _ I h) fun v s1 ⟨x, H1, I1, r1, q1⟩ => ?_)
  obtain ⟨a, xs, ex, hx, hn, q⟩ := q1
  subst ex
  cases r1
  have hst : PO X (some (.UnaryOp .USub (.Constant (.int 1) k p1) p2)) (tPart (tUn (rU fun i => .int (-i)) (tC (.int 1)))) := po_some (pe_un un_neg pe_int)
  have hz0 : PO X (some (.Constant (.int 0) k0 p0)) (tPart (tC (.int 0))) := po_some pe_int
  refine wpAny_Slice (thn (po_none.run pins s1 σ H1 (fun o H2 => o = none ∧ H2 = H1) I1 ⟨rfl, rfl⟩) fun vl s2 ⟨l, H2, I2, pl, el, e2⟩ => ?_)
  subst el e2
  refine thn (hz0.run pins s2 σ H2 (fun o H3 => o = some 0 ∧ H3 = H2) I2 ⟨0, rfl, rfl, rfl⟩) fun vu s3 ⟨u, H3, I3, pu, eu, e3⟩ => ?_
  subst eu e3
  refine thn (hst.run pins s3 σ H3 (fun o H4 => o = some (-1) ∧ H4 = H3) I3 ⟨1, rfl, -1, rfl, rfl, rfl⟩) fun vs s4 ⟨o, H4, I4, ps, eo, e4⟩ => ?_
  subst eo e4
  cases pl
  have I5 : Inv X pins σ H4 { s4 with heap := s4.heap.push { cls := .type "slice", data := .fields #[.none, vu, vs] } } := I4.kept (t' := s4.toks) fun b ob q => Heap.get?_push_of_some _ q
  obtain ⟨its, r, ht, hz⟩ := I5.tuple hx
  have hlen := r.length
  show wpAny (model X.prog X.w) X.A (subscriptTail e (.Slice none (some (.Constant (.int 0) k0 p0)) (some (.UnaryOp .USub (.Constant (.int 1) k p1) p2)) p3) (.ref a) (.ref s4.heap.objs.size)) (EP X pins σ Q) X.xe { s4 with heap := s4.heap.push { cls := .type "slice", data := .fields #[.none, vu, vs] } }
  refine tail_any (T := "tuple") (ops := [.ref a, .ref s4.heap.objs.size]) ht.typeIs (PyProof.Rows.slot_tuple_getitem.lookup) ?_ (by with_unfolding_all rfl)
  refine getItem_back ht (Heap.IsSliceOf.new _ .none vu vs) pu ps (by rw [List.size_toArray]; omega) ?_ (by rw [List.size_toArray]; omega)
  refine ⟨.ref _, _, I5.laid (t' := s4.toks) (o := .tup (xs.drop 1).reverse) (fun b ob q => Heap.get?_push_of_some _ q) (Nat.le_refl _) ?_, rfl, q _ (I5.hok.fresh (Nat.le_refl _))⟩
  exact ⟨by rw [List.length_reverse, List.length_drop]; omega, _, (r.drop 1).reverse, IsTup.new _ _⟩
end
end Rg
namespace Rg
open PySem PySem.Spec PyProof.Rows L2 LamX
/-! ### sorted(lots, key=lambda lot: (len(lot), lot)), lots tuples of ints -/
theorem reads_intsN {h : Heap} : ∀ {vs : List Value} {nms : List Int}, IntsAre vs nms → ReadsAll h vs (nms.map PyData.int) []
  | _, _, .nil => .nil
  | _, _, .cons i t r => .cons (.int i t) (reads_intsN r)
def lotKey (l : List Int) : PyData := .tuple [.int (l.length : Nat), .tuple (l.map PyData.int)]
theorem alike_lotKey (a b : List Int) : PySem.W.alike (lotKey a) (lotKey b) = true := by
  simp [lotKey, PySem.W.alike, PySem.W.alikeAll, PySem.W.alike_ints]
theorem depth_lotKey (a : List Int) : (lotKey a).depth ≤ 4 := by
  simp [lotKey, PyData.depth, PyData.depthAll, PySem.W.depth_ints]
theorem eqvA_ints8 : ∀ vxs yms : List Int, PyData.eqvAll (vxs.map PyData.int) (yms.map PyData.int) = decide (vxs = yms)
  | [], [] => by simp [PyData.eqvAll]
  | [], y :: yms => by simp [PyData.eqvAll]
  | x :: vxs, [] => by simp [PyData.eqvAll]
  | x :: vxs, y :: yms => by
    simp only [List.map_cons, PyData.eqvAll, eqvA_ints8 vxs yms, PyData.eqv]
    by_cases e : x = y <;> by_cases f : vxs = yms <;> simp [e, f]
/-- fewer bars first, then as tuples -/
def lotLe (a b : List Int) : Bool := !PySem.W.dataLt (lotKey b) (lotKey a)
section
variable {prog : Program} {w : World} {A : Around} {s : Shared} {h : Heap}
theorem lotkey_turn {tk : Nat} {f c' t : Addr} {q y : Str} {params : Arguments} {scope : Scope} {pm ctv : Value} {p1 p2 p3 p4 p5 : Pos} {x1 : Nat} {mg mb : Str → Option Value} {ns : List Int} {its : List Value}
    (hroom : A.depth < recursionLimit)
    (hf : h.get? f = some (PySem.W.kla_obj "<lambda>" q params (.Tuple [.Call (.Name "len" p1) [.Name y p2] [] p3, .Name y p4] x1 p5) scope [] pm c' ctv))
    (hco : scope.isCoroutine = false) (hgen : scope.isGenerator = false) (hk : scope.kind = .function)
    (hcell : ∀ x ∈ scope.names, x.2 ≠ .cell) (hy : scope.names.lookup y = some .local) (hlen : scope.names.lookup ("len" : Str) = some .globalImplicit)
    (hbind : ∀ v : Value, bindArgs (PySem.W.kla_fn "<lambda>" q params (.Tuple [.Call (.Name "len" p1) [.Name y p2] [] p3, .Name y p4] x1 p5) scope [] pm (.ref c') ctv) ⟨[v], []⟩ = pure [(y, v)])
    (hcd : h.CodeRec (.ref c') q) (hg : h.Ns mainGlobals mg) (hm : mg ("len" : Str) = none) (hb : h.Ns builtinsNs mb) (hmb : mb ("len" : Str) = some (.builtin "len")) (hnl : h.NoLimit)
    (ht : IsTup h t its.toArray) (hi : IntsAre its ns) (hz : its.length ≤ sizeLine) (hyd : (y == ("__debug__" : Str)) = false) :
    wpAny (model prog w) A (call (.ref f) [.ref t]) (PySem.W.KeyPure (lotKey ns) { s with heap := h, toks := tk }) (fun _ _ => False) { s with heap := h, toks := tk } := by
  refine wpAny_call (PySem.W.kla_callFunE hroom hf rfl hco hgen rfl hcd ?_)
  rw [hbind]
  refine wpAny_pure (wpAny_newFunctionEnv hcell (fun z hz => by rw [List.mem_singleton.mp hz]; exact hy) (fun h₁ hns hsb => ⟨hnl.fresh _ hsb, ?_⟩) hk)
  have kp : ∀ b o, h.get? b = some o → h₁.get? b = some o := fun b o e => hsb.extBut b o (Nat.ne_of_lt (Heap.lt_size e)) (Heap.get?_push_of_some _ e)
  show codeAny _ _ (.expr _ (PySem.W.envX q scope h.objs.size f (.ref c') [])) _ _
  refine PySem.W.kla_codeExpr ?_
  refine wpAny_Tuple_spliced ?_
  have rd : ∀ (A' : Around) (tk' : Nat) (pos : Pos) (Q : Value → Shared → Prop) (E : Value → Shared → Prop), Q (.ref t) { s with heap := h₁, toks := tk' } → wpAny (model prog w) A' (eval (.Name y pos) (PySem.W.envX q scope h.objs.size f (.ref c') [])) Q E { s with heap := h₁, toks := tk' } := fun A' tk' pos Q E hQ =>
    wpAny_Name (wpAny_loadName_local hk hy hns (by show ([(y, Value.ref t)].reverse).lookup y = _; simp) hQ) hyd
  refine Calls.spliced_cons (wpAny_Call_Name_kw (Calls.Name_function_global hk hlen (Calls.loadGlobal_builtin (hg.keeps kp) hm (hb.keeps kp) hmb ?_)))
  refine PyProof.Rows.callWith_builtin1 (Calls.spliced_cons (rd _ _ _ _ _ (Calls.spliced_nil ?_))) rfl rfl
  refine len_tuple (ht.keeps kp) ?_ ?_
  · have := line63
    simp only [List.size_toArray]
    omega
  refine Calls.spliced_cons (rd _ _ _ _ _ (Calls.spliced_nil ⟨by show 2 ≤ sizeLine; decide, ?_⟩))
  refine ⟨_, _, rfl, fun b o e => Heap.get?_push_of_some _ (kp b o e), ?_⟩
  obtain ⟨o, ho, hc, n, hd⟩ := ht.keeps kp
  refine Reads.tuple (Heap.get?_push_size _ rfl) rfl rfl ?_
  show ReadsAll _ [.int (its.toArray.size : Nat) _, .ref t] [.int (ns.length : Nat), .tuple (ns.map .int)] []
  have e1 : its.toArray.size = ns.length := by rw [List.size_toArray, hi.length]
  rw [e1]
  exact ReadsAll.cons (.int _ _) (ReadsAll.cons (Reads.tuple (Heap.get?_push_of_some _ ho) hc hd (reads_intsN hi)) .nil)
end
theorem each_vals : ∀ {out : List Value} {ys : List V}, PySem.W.EachIs (fun u x => RelV x u) out ys → Vals ys out
  | _, _, .nil => .nil
  | _, _, .cons r t => .cons r (each_vals t)
theorem vals_each : ∀ {ys : List V} {out : List Value}, Vals ys out → PySem.W.EachIs (fun u x => RelV x u) out ys
  | _, _, .nil => .nil
  | _, _, .cons r t => .cons r (vals_each t)
section
variable {X : Cx}
/-- sorted(e, key=the lambda) -/
def tSortLots (K : PySem.W.Frag) (T : List (Addr × Str)) (te : TE) : TE := fun σ H Q => te σ H fun v H1 => ∃ (a : Addr) (xs : List V) (k : V → List Int), v = .ref a ∧ SqL K H1 a xs ∧ (∀ x ∈ xs, ∃ t, x = V.ref t ∧ H1 t = some (.tup ((k x).map V.int))) ∧ Tabs T H1 ∧
  ∀ (H2 : Hp) (p : Addr) (ys : List V), ExtN H1 H2 → Tabs T H2 → ys.Perm xs → (ys.Pairwise fun u v => lotLe (k u) (k v) = true) → H2 p = none → Q (.ref p) (upd H2 p (.lst ys))
theorem pe_sortLots {T : List (Addr × Str)} {c P : Addr} {y : Str} {params : Arguments} {scope : Scope} {p p1 p2 p3 p4 p5 lpos kpos pos : Pos} {x1 : Nat} {e : Expr} {te : TE}
    (hdp : X.A.depth < recursionLimit) (hu : X.A.units + 64 < cLine) (hgS : Gl X ("sorted" : Str)) (hmS : X.mg ("sorted" : Str) = none) (hmL : X.mg ("len" : Str) = none) (he : PE X e te)
    (TB : TabB X.base X.mg c P) (hcode : X.env.code = .ref c) (hmT : (P, X.env.qual ++ "<lambda>") ∈ T) (huT : ∀ p ∈ T, p.1 = P → p.2 = X.env.qual ++ "<lambda>")
    (hdef : defaultsOf params X.env = ([], [])) (hco : scope.isCoroutine = false) (hgen : scope.isGenerator = false) (hk : scope.kind = .function)
    (hcell : ∀ x ∈ scope.names, x.2 ≠ .cell ∧ x.2 ≠ .free) (hy : scope.names.lookup y = some .local) (hlen : scope.names.lookup ("len" : Str) = some .globalImplicit) (hclo : cloFrom X.env.cells scope.names [] = [])
    (hbind : ∀ (q : Str) (pm cv ctv v : Value), bindArgs (PySem.W.kla_fn "<lambda>" q params (.Tuple [.Call (.Name "len" p1) [.Name y p2] [] p3, .Name y p4] x1 p5) scope [] pm cv ctv) ⟨[v], []⟩ = pure [(y, v)])
    (hyd : (y == ("__debug__" : Str)) = false := by decide)
    (hes : backTo pos (starEach [e] X.env) = [(false, eval e X.env)] := by rfl) :
    PE X (.Call (.Name "sorted" p) [e] [⟨some "key", .Lambda params (.Tuple [.Call (.Name "len" p1) [.Name y p2] [] p3, .Name y p4] x1 p5) scope lpos, kpos⟩] pos) (tSortLots X.K T te) := by
  refine ⟨fun pins s σ H Q I h => ?_⟩
  refine wpAny_Call_Name_kw (ld_blt I hgS hmS (u := .builtin "sorted") (by decide +kernel) ?_ (by decide) (by decide))
  refine PyProof.Rows.callWith_kw ?_ hes (by rw [hes]; rfl) rfl rfl
  rw [hes]
  refine Calls.spliced_cons (thn (he.run pins s σ H _ I h) fun u s1 ⟨v, H1, I1, r1, q1⟩ => Calls.spliced_nil ?_)
  obtain ⟨a, xs, k, rfl, hs, hx, hT, q⟩ := q1
  obtain rfl : u = Value.ref a := r1
  show wpAny _ _ (evalAll [do let v ← eval (.Lambda params (.Tuple [.Call (.Name "len" p1) [.Name y p2] [] p3, .Name y p4] x1 p5) scope lpos) X.env; standAt pos; pure v]) _ _ _
  refine wpAny_evalAll_cons (wpAny_bind ?_)
  refine lam_make2 I1 TB hcode hmT huT hT hdef (fun z hz ef => absurd ef (hcell z hz).2) fun f c' pm ctv H2 s2 I2 eN T2 hf hfn hfr hco2 => ?_
  rw [hclo] at hf
  refine wpAny_bind (wpAny_standAt (wpAny_pure ?_))
  refine wpAny_evalAll_nil ?_
  show wpAny _ _ (call (.builtin "sorted") [.ref a] [(Str.ofString "key", .ref f)]) _ _ s2
  have hs2 : SqL X.K H2 a xs := by
    rcases hs with (hs | ⟨o, hs⟩) | hs
    · exact .inl (.inl (eN _ _ hs (fun _ z => nomatch z)))
    · exact .inl (.inr ⟨o, eN _ _ hs (fun _ z => nomatch z)⟩)
    · exact .inr hs
  obtain ⟨its, rv, hl, hsz⟩ := I2.list hs2
  have hx2 : ∀ x ∈ xs, ∃ t, x = V.ref t ∧ H2 t = some (.tup ((k x).map V.int)) := fun x m => let ⟨t, e1, e2⟩ := hx x m; ⟨t, e1, eN _ _ e2 (fun _ z => nomatch z)⟩
  obtain ⟨⟨oc, cvs, ct, hoc, hdc, hvc⟩, _, _⟩ := I2.hok c' _ hco2
  obtain ⟨mb, hb1, hb2⟩ := I2.mod.blt
  refine PySem.W.sorted_key_data (β := V) (R := fun u x => RelV x u) (fun x => lotKey (k x)) hl.isList (vals_each rv) (PySem.W.AllAlike.of fun b b' => alike_lotKey _ _) (PySem.W.Sortable.tuples fun b => ⟨_, _, rfl⟩) hsz
    (fun x _ => by have := depth_lotKey (k x); omega) (PyProof.Rows.ksk_s1 _ _) (fun _ => PyProof.Rows.ksk_l1 _ _) (fun x => PyProof.Rows.ksk_t1 f x) ?_ ?_
  · intro v x hR hxm h' tk' hk'
    obtain ⟨t, rfl, ht⟩ := hx2 x hxm
    obtain rfl : v = Value.ref t := hR
    obtain ⟨hz, jts, rj, tj⟩ := I2.hok t _ ht
    refine lotkey_turn (hroom := hdp) (hk' _ _ hf) hco hgen hk (fun z hz => (hcell z hz).1) hy hlen (fun v => hbind _ _ _ _ v) ⟨c', oc, cvs, ct, rfl, hk' _ _ hoc, hdc, hvc⟩
      ((I2.mod.glob.keeps I2.bk).keeps hk') hmL ((hb1.keeps I2.bk).keeps hk') ((hb2 _ (by decide)).trans PySem.boot_len) (I2.nolimit.keeps hk') (tj.keeps hk') rj.ints (by rw [← rj.length]; exact hz) hyd
  · intro out cc h' tk' hk' hfr' hnew hol heach
    have hpm : (xs.mergeSort (PySem.W.dataLe false fun x => lotKey (k x))).Perm xs := List.mergeSort_perm ..
    refine ⟨.ref (s2.heap.objs.size + 1), upd H2 (s2.heap.objs.size + 1) (.lst (xs.mergeSort (PySem.W.dataLe false fun x => lotKey (k x)))), I2.laid (t' := tk') hk' (Nat.le_succ _) ?_, rfl, ?_⟩
    · exact ⟨by rw [hpm.length_eq]; exact hsz, out, cc, each_vals heach, hnew⟩
    · have nf : H2 (s2.heap.objs.size + 1) = none := I2.hok.fresh (Nat.le_succ _)
      refine q _ _ _ eN T2 hpm ?_ nf
      have z := PySem.W.sortLe_total (listOrd itemOrd) false (fun x : V => PySem.W.keyToks (lotKey (k x)))
      exact List.pairwise_mergeSort (le := PySem.W.dataLe false fun x => lotKey (k x)) (fun a b c => z.trans a b c) (fun a b => Bool.or_eq_true _ _ |>.mpr (z.total a b)) xs
end
end Rg
namespace Rg
open PySem PySem.Spec PyProof.Rows L2
/-! ### enumerate(t), t a tuple -/
theorem meets_enum1 {v : Value} {ob : Obj} {Hz : Heap → Prop} (B : Begins v ob Hz) :
    Meets (Builtin.«enumerate.__new__» ⟨[.type "enumerate", v], []⟩) (fun _ R s => Hz s.heap ∧
      R (.ok (.ret (.ref (s.heap.push ob).objs.size))) { s with heap := (s.heap.push ob).push { cls := .type "enumerate", data := .fields #[.none, .bool false, .ref s.heap.objs.size, rawInt 0, .none, .none] } }) :=
  .of_wp fun prog w A R s h => by
    obtain ⟨hp, gg, dd, tk, os⟩ := s
    obtain ⟨hz, h⟩ := h
    have hsub := sub_enumerate
    have go : ∀ {A' : Around} {E' : Value → Shared → Prop} {Q' : Value → Shared → Prop}, Q' (.ref hp.objs.size) ⟨hp.push ob, gg, dd, tk, os⟩ → wpAny (model prog w) A' (pyIter v) Q' E' ⟨hp, gg, dd, tk, os⟩ :=
      fun q => B.iter prog w _ _ ⟨hp, gg, dd, tk, os⟩ _ hz q
    wp_walk using go
    refine wpAny_stack_any fun st => wpAny_pure ?_
    split
    · rename_i c _ _ _ _ _
      cases (c == Value.type "enumerate")
      · wp_walk using go
        exact ⟨_, rfl, h⟩
      · wp_walk using go
        exact ⟨_, rfl, h⟩
    · wp_walk using go
      exact ⟨_, rfl, h⟩
section
variable {prog : Program} {w : World} {A : Around} {E : Value → Shared → Prop} {s : Shared}
theorem call_enum1 {v : Value} {ob : Obj} {Hz : Heap → Prop} {Q : Value → Shared → Prop} (B : Begins v ob Hz) (hz : Hz s.heap)
    (k : ∀ g, IsEnum g (s.heap.objs.size + 1) s.heap.objs.size 0 .none → g.get? s.heap.objs.size = some ob → (∀ c u, s.heap.get? c = some u → g.get? c = some u) → Q (.ref (s.heap.objs.size + 1)) { s with heap := g }) :
    wpAny (model prog w) A (call (.type "enumerate") [v]) Q E s := by
  refine callType_new F.called_enumerate (by decide) (F.typeCall_enumerate_1 _) (F.newCall_enumerate_1 _) (fun obj => F.args_object_init_2 obj _) F.entry_enumerate_new (meets_enum1 B) ⟨hz, ?_⟩
  have sz : (s.heap.push ob).objs.size = s.heap.objs.size + 1 := Heap.size_push ..
  show _ ∧ _
  rw [sz]
  have ie : IsEnum ((s.heap.push ob).push { cls := .type "enumerate", data := .fields #[.none, .bool false, .ref s.heap.objs.size, rawInt 0, .none, .none] }) (s.heap.objs.size + 1) s.heap.objs.size 0 .none := by
    have z := Heap.get?_push_size (s.heap.push ob) (o := { cls := .type "enumerate", data := .fields #[.none, .bool false, .ref s.heap.objs.size, rawInt 0, .none, .none] }) rfl
    rw [sz] at z
    exact z
  exact ⟨⟨_, ie, rfl⟩, k _ ie (Heap.get?_push_of_some _ (Heap.get?_push_size _ B.free)) fun c u x => Heap.get?_push_of_some _ (Heap.get?_push_of_some _ x)⟩
end
/-- the tuple at a as it stands at each turn, each item in a new pair -/
def IteT (K : PySem.W.Frag) (a : Addr) : It :=
  ⟨fun i H => ∃ (xs : List V) (x : V), SqT K H a xs ∧ xs[i]? = some x, fun i H v H' => ∃ T x, v = .ref T ∧ H T = none ∧ H' = upd H T (.tup [.int (i : Nat), x]) ∧ ∀ xs, SqT K H a xs → xs[i]? = some x, fun i H => ∃ xs : List V, SqT K H a xs ∧ xs.length ≤ i⟩
theorem turn_enumT {P : Program} {w : World} {K : PySem.W.Frag} {elts : List Expr} {kk : Nat} {tpos : Pos} (a e it : Addr) :
    Turn P w K (.Tuple elts kk tpos) (IteT K a) [e, it] e (fun i h => (∃ old, IsEnum h e it ((i : Nat) : Int) old) ∧ h.IsTupleIter it a i ∧ e ≠ it) where
  mem := List.mem_cons_self ..
  obj := by
    rintro i h ⟨⟨old, he⟩, ⟨o, ho, hc, hd⟩, _⟩ b hb
    rcases List.mem_cons.mp hb with z | z
    · rw [z]; exact ⟨_, he, fun v q => nomatch q⟩
    · rw [List.mem_singleton.mp z]; exact ⟨o, ho, fun v q => by rw [hd] at q; cases q⟩
  keep := by
    rintro i h h' ⟨⟨old, he⟩, hi, hne⟩ k
    exact ⟨⟨old, k e (by simp) _ he⟩, hi.at fun o q => k it (by simp) o q, hne⟩
  item := by
    intro X hP hw hK hc i pins s σ H E I hf st hg
    subst hP hw hK
    obtain ⟨⟨old, he⟩, hit, hne⟩ := st
    obtain ⟨xs, x, hq, hx⟩ := hg
    obtain ⟨its, rv, tp, hz⟩ := I.tuple hq
    obtain ⟨u, hu, ru⟩ := rv.get hx
    have hel : e < s.heap.objs.size := Heap.lt_size he
    have hil : it < s.heap.objs.size := by obtain ⟨_, q, _⟩ := hit; exact Heap.lt_size q
    obtain ⟨ot, hot, hct, nt, hdt⟩ := tp
    have nai : a ≠ it := fun z => by
      obtain ⟨oi, hoi, hci, _⟩ := hit
      rw [← z, hot] at hoi
      cases hoi
      rw [hct] at hci
      exact absurd (Value.type.inj hci) (by decide)
    have nae : a ≠ e := fun z => by
      have he' := he
      rw [IsEnum, ← z, hot] at he'
      cases he'
      exact absurd (Value.type.inj hct) (by decide)
    have hlt : i < its.toArray.size := by
      rw [List.size_toArray]
      exact (List.getElem?_eq_some_iff.mp hu).1
    refine wpAny_pyNext_enum_itemD (Draws.tuple (A := X.A.in1) (I.ok.hd hc) it a nai its.toArray) he ⟨hit, ⟨ot, hot, hct, nt, hdt⟩⟩ hlt hne (by simp [hne, Ne.symm nae]) fun u' g tk hP ho hst' hT hsz hk => ?_
    have eu : u' = u := by
      have h1 : its.toArray[i]? = some u' := hP
      rw [List.getElem?_toArray, hu] at h1
      exact (Option.some.inj h1).symm
    subst eu
    refine ⟨_, rfl, wpAny_letOwnedTupleGo_enum (s := { s with heap := g, toks := tk + 1 }) ho fun g2 he' sb => ?_⟩
    have hT2 : g2.get? s.heap.objs.size = some { cls := .type "tuple", data := .seq #[.int i tk, u'] } := (sb.2 _ (Nat.ne_of_gt hel)).trans hT
    have I1 : Inv X pins σ (upd H s.heap.objs.size (.tup [.int (i : Nat), x])) { s with heap := g2, toks := tk + 1 } :=
      I.turnedNew (ch := [e, it]) (fun b ob hb q => (sb.2 b (fun z => hb (by simp [z]))).trans (hk b ob (fun z => hb (by simp [z])) (fun z => hb (by simp [z])) q)) hf (Nat.le_refl _)
        ⟨by show 2 ≤ sizeLine; decide, [.int i tk, u'], .cons ⟨_, rfl⟩ (.cons ru .nil), ⟨_, hT2, rfl, _, rfl⟩⟩
    refine ⟨.ref s.heap.objs.size, _, I1, rfl, ⟨_, x, rfl, I.hok.fresh (Nat.le_refl _), rfl, fun ys hy => by rw [I.tuple_inj hy hq]; exact hx⟩, ⟨⟨u', ?_⟩, hst'.1.at fun o q => (sb.2 it (Ne.symm hne)).trans q, hne⟩, fun b hb => ?_⟩
    · have e1 : ((i + 1 : Nat) : Int) = (i : Int) + 1 := by omega
      rw [e1]
      exact he'
    · have hb' : b < s.heap.objs.size := by
        rcases List.mem_cons.mp hb with z | z
        · rw [z]; exact hel
        · rw [List.mem_singleton.mp z]; exact hil
      rw [upd_ne (Nat.ne_of_lt hb')]
      exact (hf b hb).1
  done := by
    intro X hP hw hK hc i pins s σ H E I hf st hg
    subst hP hw hK
    obtain ⟨⟨old, he⟩, hit, hne⟩ := st
    obtain ⟨xs, hq, hx⟩ := hg
    obtain ⟨its, rv, tp, hz⟩ := I.tuple hq
    obtain ⟨f0, f1, f2, f3, f4, f5⟩ := hf it (by simp)
    have hl := rv.length
    have hT : s.TypeIs (.ref e) "enumerate" := ⟨_, he, rfl⟩
    unfold pyNext
    refine wpAny_bind (wpAny_attempt (wpAny_callSpecial?_slot (name := Str.ofString "__next__") hT F.slot_enumerate_next
      (wpAny_call_entry F.slot_enumerate_next hT F.entry_enumerate_next ?_ (F.args_enumerate_next_1 _))))
    show wpAny _ _ (field (.ref e) 2 >>= _) _ _ _
    refine wpAny_bind (wpAny_field he rfl (x := .ref it) rfl ?_)
    refine wpAny_bind (wpAny_nextOf_tuple_end (I.ok.hd hc) hit tp (by simp; omega) fun g x eb hx' => ?_)
    obtain ⟨o, ho, hcl⟩ := hx'
    refine wpAny_bind (wpAny_isInstance (T := "StopIteration") (b := true) ⟨o, ho, hcl⟩ isSubtype_stop ?_)
    exact wpAny_pure ⟨rfl, I.turned (t' := s.toks) (fun b o hb q => eb b o hb q) f0 f1 f3 f4 f5⟩
  self := fun A i s Q E st h => let ⟨⟨_, he⟩, _⟩ := st; wpAny_pyIter_enum he h
def iEnumT (K : PySem.W.Frag) (ta : TA) : TI := fun σ H R => ta σ H fun vs H1 => ∃ a xs, vs = [.ref a] ∧ SqT K H1 a xs ∧ R (IteT K a) H1
theorem pi_enumT {X : Cx} {e : Expr} {ta : TA} {p pos tpos : Pos} {elts : List Expr} {kk : Nat} (hg : Gl X "enumerate") (hm : X.mg "enumerate" = none) (ha : PA X [e] ta) (hs : starEach [e] X.env = [(false, eval e X.env)] := by rfl) :
    PI X (.Tuple elts kk tpos) (.Call (.Name "enumerate" p) [e] [] pos) (iEnumT X.K ta) := by
  refine ⟨fun pins s σ H R I h => ?_⟩
  refine Call_ (ld_blt I hg hm boot_enumerate (PyProof.Rows.callWith_type1 (thn (ha.run pos pins s σ H _ I h) fun us s1 ⟨vs, H1, I1, r1, q1⟩ => ?_) hs rfl))
  obtain ⟨a, xs, rfl, hq, q⟩ := q1
  rw [Vals.ref1 r1]
  obtain ⟨its, rv, tp, hz⟩ := I1.tuple hq
  refine call_enum1 (begins_tuple a its.toArray) tp fun g he hit hk => wpAny_pyIter_enum he ?_
  have I2 : Inv X pins σ H1 { s1 with heap := g } := I1.kept (t' := s1.toks) hk
  refine ⟨s1.heap.objs.size + 1, [s1.heap.objs.size + 1, s1.heap.objs.size], _, _, H1, rfl, I2, turn_enumT a (s1.heap.objs.size + 1) s1.heap.objs.size, ⟨⟨.none, he⟩, ⟨_, hit, rfl, rfl⟩, Nat.succ_ne_self _⟩, fun b hb => ?_, q⟩
  have hle : s1.heap.objs.size ≤ b := by
    rcases List.mem_cons.mp hb with z | z
    · rw [z]; exact Nat.le_succ _
    · rw [List.mem_singleton.mp z]; exact Nat.le_refl _
  exact I1.fpOk hle (I1.hok.fresh hle)
theorem walk_enumT {K : PySem.W.Frag} {a : Addr} {xs : List V} : Walk (IteT K a) xs.length (fun H => SqT K H a xs) (YPair (fun i => some (.int (i : Nat))) (fun i => xs[i]?)) := by
  refine ⟨fun i _ hi q => ⟨xs, xs[i], q, List.getElem?_eq_getElem hi⟩, fun _ q => ⟨xs, q, Nat.le_refl _⟩, fun i H v H' _ q y => ?_⟩
  obtain ⟨T, x, y1, y2, y3, y4⟩ := y
  exact ⟨T, .int (i : Nat), x, y1, y2, y3, rfl, y4 xs q⟩
end Rg
namespace Rg
open PySem PySem.Spec PyProof.Rows L2
/-! ### x in a tuple of data -/
section
variable {X : Cx}
def rInDT (K : PySem.W.Frag) : R2 := fun x y Hh Qq => ∃ dx dxs, Dp K Hh x dx ∧ Dp K Hh y (.tuple dxs) ∧ SeqAt.shaped dx = true ∧ SeqAt.shaped (.tuple dxs) = true ∧ Qq (.bl (dxs.any fun z => PyData.eqv z dx)) Hh
theorem op_inDT (hu : X.A.units + 65 < cLine) : OpR X (compareOp .In) (rInDT X.K) := by
  intro pns s σs Hh x y v u Qq Iv rlx rly h
  obtain ⟨dx, dxs, hdx, hdy, sx, sy, qq⟩ := h
  obtain ⟨as, rd1⟩ := Dp.reads Iv dx x v hdx rlx
  obtain ⟨bs, rd2⟩ := Dp.reads Iv (.tuple dxs) y u hdy rly
  exact SeqAt.in_tuple_reads rd2 rd1 (SeqAt.canLay_of_shaped sy) (SeqAt.canLay_of_shaped sx) (room_in_shaped sx hu) ⟨.bl _, Hh, Iv, rfl, qq⟩
end
end Rg
namespace Rg
open PySem PySem.Spec PyProof.Rows L2
/-! ### dict(xs) of a list of pairs whose keys are tuples -/
section
variable {X : Cx}
def PrT (Hh : Hp) (p : Addr × Addr) (kv : List Key × V) : Prop := Hh p.1 = some (.tup [.ref p.2, kv.2]) ∧ Hh p.2 = some (.tup (kv.1.map kV))
def rDictT (K : PySem.W.Frag) : List V → Hp → VK → Prop := fun vxs Hh Qq => ∃ (a : Addr) (pps : List (Addr × Addr)) (kvs : List (List Key × V)), vxs = [.ref a] ∧ SqL K Hh a ((pps.map (·.1)).map V.ref) ∧
  Paired (PrT Hh) pps kvs ∧ (kvs.map (·.1)).Nodup ∧ ∀ d, Hh d = none → Qq (.ref d) (upd Hh d (.dT kvs))
theorem stored_fresh : ∀ (prs acc : List (List Key × Addr × Value)), ((acc ++ prs).map (·.1)).Nodup → storedAllH acc prs = acc ++ prs
  | [], acc, _ => by rw [List.append_nil]; rfl
  | p :: prs, acc, nd => by
    have e : atKey acc p.1 = none := by
      refine atKey_none_of_get fun j q hj => ?_
      rw [List.map_append, List.nodup_append] at nd
      exact nd.2.2 p.1 (List.mem_map.mpr ⟨_, List.mem_of_getElem? hj, rfl⟩) p.1 (List.mem_cons_self ..) rfl
    show storedAllH (storedH acc p.1 p.2.1 p.2.2) prs = _
    rw [storedH_new e, stored_fresh prs (acc ++ [(p.1, p.2.1, p.2.2)]) (by rw [List.append_assoc]; exact nd), List.append_assoc]
    rfl
theorem prs_of {pns : List (Addr × Obj)} {σs : L2.St} {Hh : Hp} {s : Shared} (Iv : Inv X pns σs Hh s) : ∀ {pps : List (Addr × Addr)} {kvs : List (List Key × V)}, Paired (PrT Hh) pps kvs →
    ∃ prs : List (List Key × Addr × Value), KT Hh kvs prs ∧ prs.length = pps.length ∧ ∀ (j : Nat) (q : List Key × Addr × Value), prs[j]? = some q → ∃ p, pps[j]? = some p ∧ p.2 = q.2.1 ∧ IsTup s.heap p.1 #[.ref q.2.1, q.2.2]
  | _, _, .nil => ⟨[], .nil, rfl, fun j q e => by simp at e⟩
  | _, _, .cons (a := p) (b := kv) h t => by
    obtain ⟨prs, r, hl, hp⟩ := prs_of Iv t
    obtain ⟨its, rv, ht, _⟩ := Iv.tuple (.inl (.inl h.1))
    obtain ⟨u, y, ei, ru, ry⟩ := vals2 rv
    subst ei
    cases ru
    refine ⟨(kv.1, p.2, y) :: prs, .cons ⟨rfl, h.2, ry⟩ r, by rw [List.length_cons, List.length_cons, hl], fun j q e => ?_⟩
    cases j with
    | zero =>
      have e' : (kv.1, p.2, y) = q := Option.some.inj e
      subst e'
      exact ⟨p, rfl, rfl, ht⟩
    | succ j =>
      obtain ⟨b, e1, e2, e3⟩ := hp j q (by simpa using e)
      exact ⟨b, by simpa using e1, e2, e3⟩
theorem kt_new {Hh : Hp} {d : Addr} {u : HO} (hd : Hh d = none) : ∀ {kvs : List (List Key × V)} {prs : List (List Key × Addr × Value)}, KT Hh kvs prs → KT (upd Hh d u) kvs prs
  | _, _, .nil => .nil
  | _, _, .cons ⟨h1, h2, h3⟩ t => .cons ⟨h1, by rw [upd_ne (ne_of_none h2 hd)]; exact h2, h3⟩ (kt_new hd t)
theorem kt_keys {Hh : Hp} : ∀ {kvs : List (List Key × V)} {prs : List (List Key × Addr × Value)}, KT Hh kvs prs → prs.map (·.1) = kvs.map (·.1)
  | _, _, .nil => rfl
  | _, _, .cons ⟨h1, _, _⟩ t => by rw [List.map_cons, List.map_cons, kt_keys t, h1]
theorem kt_get {Hh : Hp} : ∀ {kvs : List (List Key × V)} {prs : List (List Key × Addr × Value)}, KT Hh kvs prs → ∀ q ∈ prs, Hh q.2.1 = some (.tup (q.1.map kV))
  | _, _, .nil => fun q h => nomatch h
  | _, _, .cons ⟨h1, h2, _⟩ t => fun q h => by
    rcases List.mem_cons.mp h with e | e
    · subst e
      rw [← h1]
      exact h2
    · exact kt_get t q e
theorem call_dictT (hcalm : X.calm = true) (hu : X.A.units + 2 < cLine) : CallR X (.type "dict") (rDictT X.K) := by
  intro pns s σs Hh vxs uvs Qq Iv r q
  obtain ⟨a, pps, kvs, rfl, hq, hp, nd, q⟩ := q
  obtain ⟨u, rfl, rx⟩ := vals1 r
  cases rx
  obtain ⟨its, rv, pl, hz⟩ := Iv.list hq
  have ei := refs_at rv
  subst ei
  rw [List.length_map, List.length_map] at hz
  obtain ⟨prs, rel, hl, hpr⟩ := prs_of Iv hp
  obtain ⟨o, n, ho, hc, hd, hdat⟩ := pl
  have hk := kt_get rel
  have P := PairArg.list (prog := X.prog) (w := X.w) a ((pps.map (·.1)).map Value.ref).toArray (fun j => ((pps[j]?).map (·.1)).getD 0) (prs.map fun q => (Value.ref q.2.1, q.2.2))
  refine call_dict_pairsH (knd := tupleKind (mixKind X.prog X.w)) (ps := prs) P (Iv.ok.hd hcalm) hu ⟨⟨o, n, ho, hc, hd, hdat⟩, ?_, fun j k v hj => ?_⟩ ⟨by rw [List.length_map], fun i key v hi => ?_⟩ (fun h' hs x hx => ?_) (by rw [List.length_map, hl]; exact hz) fun h' tk hd' ks => ?_
  · simp [hl]
  · rw [List.getElem?_map] at hj
    obtain ⟨qq, hq2, e⟩ := Option.map_eq_some_iff.mp hj
    obtain ⟨p, e1, e2, e3⟩ := hpr j qq hq2
    injection e with ek ev
    subst ek ev
    refine ⟨?_, ?_⟩
    · simp [e1]
    · show PairAt s.heap (((pps[j]?).map (·.1)).getD 0) _ _
      rw [e1]
      exact .inl e3
  · rw [show PairRel (prs.map fun q => (Value.ref q.2.1, q.2.2)) i key v = ((prs.map fun q => (Value.ref q.2.1, q.2.2))[i]? = some (key, v)) from rfl, List.getElem?_map] at hi
    obtain ⟨qq, hq2, e⟩ := Option.map_eq_some_iff.mp hi
    injection e with ek ev
    subst ek ev
    exact ⟨qq.1, qq.2.1, hq2, rfl⟩
  · obtain ⟨o', items, m, h1, h2, h3, h4⟩ := key_of Iv.hok (hk x hx)
    exact ⟨o', items, m, hs _ _ (Nat.ne_of_lt (Heap.lt_size h1)) (by simp) h1, h2, h3, h4⟩
  · rw [stored_fresh prs [] (by rw [List.nil_append, kt_keys rel]; exact nd), List.nil_append] at hd'
    have hm : (s.heap.objs.size == sysModules) = false := beq_eq_false_iff_ne.mpr (Nat.ne_of_gt Iv.big)
    have hfr := Iv.hok.fresh (Nat.le_refl s.heap.objs.size)
    obtain ⟨o2, es, ep, g1, g2, g3, g4, g5, g6⟩ := hd'
    have hlen : kvs.length ≤ sizeLine := by
      have := congrArg List.length (kt_keys rel)
      rw [List.length_map, List.length_map] at this
      omega
    exact ⟨.ref s.heap.objs.size, upd Hh s.heap.objs.size (.dT kvs), Iv.laid (t' := tk) (fun b u e => ks b u (by simp) e) (Nat.le_refl _) (show ObjOk X.prog X.w _ _ _ (.dT kvs) from ⟨hlen, hm, prs, kt_new hfr rel, o2, es, ep, g1, g2, g3, g4, g6⟩), rfl, q _ hfr⟩
end
end Rg
namespace Rg
open PySem PySem.Spec PyProof.Rows L2
/-! ### an error that is kept behind its clause -/
/-- an error object of the class at C, its dict at dd -/
def errO (e C : Addr) (dd : Option Addr) : HO := .ext fun hp => ∃ (ob : Obj) (vs : Array Value), hp.get? e = some ob ∧ ob.cls = .ref C ∧ ob.dict = dd ∧ ob.data = .fields vs
theorem errO_at {P : Program} {w : World} {H : Hp} {hp : Heap} {e C : Addr} {dd : Option Addr} (hok : HOk P w H hp) (he : H e = some (errO e C dd)) : ∃ (ob : Obj) (vs : Array Value), hp.get? e = some ob ∧ ob.cls = .ref C ∧ ob.dict = dd ∧ ob.data = .fields vs := (hok e _ he).1
theorem errO_ok {P : Program} {w : World} {H : Hp} {hp : Heap} {e C : Addr} {dd : Option Addr} {ob : Obj} {vs : Array Value} (he : hp.get? e = some ob) (h1 : ob.cls = .ref C) (h2 : ob.dict = dd) (h3 : ob.data = .fields vs) : ObjOk P w H hp e (errO e C dd) :=
  ⟨⟨ob, vs, he, h1, h2, h3⟩, ⟨ob, he⟩, fun _ _ ⟨ob', vs', a, b, c, d⟩ st => ⟨ob', vs', st _ a, b, c, d⟩⟩
/-- a thing that was not tracked is tracked from now on -/
theorem inv_know {X : Cx} {pns : List (Addr × Obj)} {σs : L2.St} {Hh : Hp} {sh : Shared} {e : Addr} {u : HO} (Iv : Inv X pns σs Hh sh) (ne : Hh e = none) (old : e ∉ X.ex → ∀ ob, X.s_0.heap.get? e = some ob → False) (nl : e ≠ X.env.locals)
    (nc : ∀ y c, X.env.cells.lookup y = some c → c ≠ e) (np : ∀ p ∈ X.pn ++ pns, p.1 ≠ e) (ob : ObjOk X.prog X.w (upd Hh e u) sh.heap e u) : Inv X pns σs (upd Hh e u) sh := by
  have oth : ∀ b, b ≠ e → upd Hh e u b = Hh b := fun b hb => upd_ne hb
  have keepS : ∀ {b : Addr} {o : HO}, Hh b = some o → upd Hh e u b = some o := fun {b o} q => by rw [oth b (ne_of_none q ne)]; exact q
  refine ⟨Iv.ok, Iv.os, Iv.bare, ⟨Iv.base.keep, Iv.base.slot, fun b o a n x => ?_, Iv.base.there, fun b xs q => keepS (Iv.base.tups b xs q), fun b o z q => keepS (Iv.base.frzs b o z q), fun b ps q => ?_⟩, Iv.loc, Iv.cell, ?_, fun y c q => ?_, fun p hp => ?_, fun b o q => ?_, Iv.len⟩
  · by_cases hb : b = e
    · subst hb
      exact (old x o a).elim
    · rw [oth b hb]
      exact Iv.base.free b o a n x
  · obtain ⟨more, q'⟩ := Iv.base.tbls b ps q
    exact ⟨more, keepS q'⟩
  · rw [oth _ (Ne.symm nl)]
    exact Iv.free
  · rw [oth _ (nc y c q)]
    exact Iv.freeC y c q
  · obtain ⟨a1, a2, a3⟩ := Iv.pin p hp
    exact ⟨a1, by rw [oth _ (np p hp)]; exact a2, a3⟩
  · by_cases hb : b = e
    · subst hb
      rw [upd_same] at q
      cases q
      exact ob
    · rw [oth b hb] at q
      exact (Iv.hok b o q).stay (fun _ _ _ z => z) (fun c z => keepS z) fun c xs z => keepS z
end Rg
namespace Rg
open PySem PySem.Spec PyProof.Rows L2
/-- what the clause asks: the error is one of the class cv; it is tracked while the suite runs and from then on -/
def wKeep (K : PySem.W.Frag) (cv : Value) (ix : Nat) (tsu : TS) (De : Ends) : WX := fun cls dd σs Hh =>
  PySem.W.exmOne K cls cv = some true ∧ ∃ C : Addr, cls = .ref C ∧ ∀ e, Hh e = none → tsu { nx := fun τ J => De.nx (τ.set ix none) J, rt := De.rt, bk := fun τ J => De.bk (τ.set ix none) J, ct := fun τ J => De.ct (τ.set ix none) J } (σs.set ix (some (.ref e))) (upd Hh e (errO e C dd))
section
variable {X : Cx} {pns : List (Addr × Obj)} {σs : L2.St} {Hh : Hp} {sh : Shared}
theorem inv_in (Iv : Inv X pns σs Hh sh) (e : Addr) : Inv (X.suite e (X.pn ++ pns)) [] σs Hh sh :=
  ⟨Iv.ok.suite _ _, Iv.os, Iv.bare, Iv.base, Iv.loc, Iv.cell, Iv.free, Iv.freeC, fun p hp => Iv.pin p (by simpa using hp), Iv.hok, Iv.len⟩
theorem inv_out {e : Addr} (Iv : Inv (X.suite e (X.pn ++ pns)) [] σs Hh sh) (ok : X.Ok) : Inv X pns σs Hh sh :=
  ⟨ok, Iv.os, Iv.bare, Iv.base, Iv.loc, Iv.cell, Iv.free, Iv.freeC, fun p hp => Iv.pin p (by simpa using hp), Iv.hok, Iv.len⟩
end
section
variable {X : Cx} {y n : Str} {cv : Value} {ix : Nat} {bd su : List Stmt} {st0 : Stmt} {np po po' : Pos} {tbd : WX → TS} {tsu : TS}
theorem ps_try_keep (hstk : X.stack = X.env :: X.outer) (hfr0 : X.env.frame = some X.env.locals) (hnd : X.N.Nodup) (hix : X.N[ix]? = some n) (hnl : X.env.kindOf n = some .local) (hcl : Names X y cv)
    (hbd : ∀ (W : WX) (pn : List (Addr × Obj)) (xe : Value → Shared → Prop), Takes (X.tr pn xe) W → PassesOwn (model X.prog X.w) X.A X.env xe → PSs (X.tr pn xe) bd (tbd W))
    (hsu : ∀ (e : Addr) (pn : List (Addr × Obj)), PSs (X.suite e pn) (st0 :: su) tsu) :
    PS X (.Try bd [.ExceptHandler (some (.Name y np)) (some n) (st0 :: su) po'] [] [] po) (fun De σs Hh => tbd (wKeep X.K cv ix tsu De) De σs Hh) := by
  refine ⟨fun pns sh σs Hh De Iv hh => ?_⟩
  have ok := Iv.ok
  have hfr : X.A.frames = some (X.env :: X.outer) := by rw [ok.frames, hstk]
  have hbody := (hbd (wKeep X.K cv ix tsu De) (X.pn ++ pns) (fun e s1 => wpAny (model X.prog X.w) X.A (noteFrame e X.env) (fun _ s2 => wpAny (model X.prog X.w) X.A (setFlight e none) (fun _ s3 =>
    wpAny (model X.prog X.w) X.A (handleBy e X.env [.ExceptHandler (some (.Name y np)) (some n) (st0 :: su) po']) (SP X pns De) X.xe s3) X.xe s2) X.xe s1) (fun u sx xx => ?_) PassesOwn.looking).run [] sh σs Hh De (Iv.toTry _) hh
  · refine wpAny_Try_except (wpAny_mono hbody (fun fl s1 q => ?_) fun _ _ q => q)
    cases fl with
    | next =>
      obtain ⟨τ, J, Jv, q⟩ := q
      exact wpAny_execs_nil ⟨τ, J, Jv.ofTry ok, q⟩
    | brk => exact let ⟨τ, J, Jv, q⟩ := q; ⟨τ, J, Jv.ofTry ok, q⟩
    | cont => exact let ⟨τ, J, Jv, q⟩ := q; ⟨τ, J, Jv.ofTry ok, q⟩
    | ret u => exact let ⟨v, τ, J, Jv, r, q⟩ := q; ⟨v, τ, J, Jv.ofTry ok, r, q⟩
  -- the error is at e
  obtain ⟨e, B, sI, _, τ, J, cls, dd, rfl, Jv0, nb, up, sky, ne, os, ag, hb, C, rfl, hyes⟩ := xx
  have Jv : Inv X pns τ J sI := Jv0.ofTry ok
  rw [hstk] at sky
  refine Sky.land Zc.steady hfr hfr0 sky fun h3 fl3 up3 => ?_
  have K3 : Inv X pns τ J { sx with heap := h3 } := Jv.landed nb fl3.1 (up.trans up3) os ag
  obtain ⟨o3, v3, g3, z3, d3⟩ := fl3.there
  have enf : e ∉ frs X.stack := fun hm => by
    rw [hstk] at hm
    obtain ⟨_, o', e', hnf⟩ := fl3.2.2.1.mem hm
    rw [g3] at e'
    cases e'
    exact hnf _ d3
  have enl : e ≠ X.env.locals := fun z => enf (by rw [hstk]; exact List.mem_filterMap.mpr ⟨X.env, List.mem_cons_self, by rw [hfr0, z]⟩)
  have enF : e ∉ X.fs := fun hm => enf (by
    rw [hstk]
    obtain ⟨ev, he, q⟩ := List.mem_filterMap.mp hm
    exact List.mem_filterMap.mpr ⟨ev, List.mem_cons_of_mem _ he, q⟩)
  have gone : ∀ ob, sI.heap.get? e = some ob → False := fun ob q => by
    have a := nb e ob q enf
    rw [fl3.2.1] at a
    cases a
  -- tracked
  have know : ∀ {h4 : Heap} {o4 : Obj} {v4 : Array Value}, Inv X pns τ J { sx with heap := h4 } → h4.get? e = some o4 → Zc (.ref C) dd o4 → o4.data = .fields v4 → Inv X pns τ (upd J e (errO e C dd)) { sx with heap := h4 } := fun {h4 o4 v4} K4 g4 z4 d4 => by
    refine inv_know K4 ne (fun hx ob q => ?_) enl (fun x c q z => ?_) (fun p hp z => ?_) (errO_ok g4 z4.1 z4.2 d4)
    · obtain ⟨o', q'⟩ := Jv.base.there e ob q hx
      exact gone o' q'
    · obtain ⟨v, o', q', _⟩ := Jv.cell x c q
      rw [z] at q'
      exact gone _ q'
    · obtain ⟨q', _⟩ := Jv.pin p hp
      rw [z] at q'
      exact gone _ q'
  have test : ∀ {Q E : Value → Shared → Prop}, Q cv { sx with heap := h3 } → wpAny (model X.prog X.w) (X.A.mark (some (.ref e))) (eval (.Name y np) X.env) Q E { sx with heap := h3 } := fun {Q E} q => by
    have S3 := inv_in K3 e
    obtain ⟨hg, hdb, hm | ⟨hm, hv, hn⟩⟩ := hcl
    · exact ld_glob S3 hg hm q hdb
    · exact ld_blt S3 hg hm hv q hn hdb
  refine wpAny_handleBy_cons (codeAny_handlers_test (test ((PySem.W.exm_one (M := model X.prog X.w) K3.kIn (fun _ _ _ _ k q => wpAny_typeOf_ref (k _ _ g3) (by rw [z3.1]; exact q)) hb).here (codeAny_handlers_suite_as (HandSPX.lands_againZ fl3 fun h4 fl4 up4 => ?_))))) (by intro q; cases q)
  obtain ⟨o4, v4, g4, z4, d4⟩ := fl4.there
  have K4 := know (Jv.landed nb fl4.1 ((up.trans up3).trans up4) os ag) g4 z4 d4
  refine store_ok (X := X.suite e (X.pn ++ pns)) (v := .ref e) (inv_in K4 e) hnd hix (.inl hnl) rfl (fun s5 S5 => ?_) (.inr hnl)
  refine wpAny_mono ((hsu e _).run [] s5 _ _ _ S5 (hyes e ne)) (fun fl s6 q => ?_) fun _ _ z => z.elim
  have fin : ∀ {ρ : L2.St} {L : Hp} {Q : Shared → Prop}, Inv (X.suite e (X.pn ++ pns)) [] ρ L s6 → (∀ s7, Inv X pns (ρ.set ix none) L s7 → Q s7) → wpAny (model X.prog X.w) X.A (do bindName X.env n .none; unbindBehindTheSuite X.env n po') (fun _ s7 => Q s7) X.xe s6 :=
    fun {ρ L Q} S6 hq => gone_ok (inv_out S6 ok) hnd hix hnl hq
  cases fl with
  | next => exact let ⟨ρ, L, S6, q⟩ := q; fin S6 fun s7 I7 => ⟨_, _, I7, q⟩
  | brk => exact let ⟨ρ, L, S6, q⟩ := q; fin S6 fun s7 I7 => ⟨_, _, I7, q⟩
  | cont => exact let ⟨ρ, L, S6, q⟩ := q; fin S6 fun s7 I7 => ⟨_, _, I7, q⟩
  | ret u => exact let ⟨v, ρ, L, S6, r, q⟩ := q; fin S6 fun s7 I7 => ⟨_, _, _, I7, r, q⟩
end
end Rg
namespace Rg
open PySem PySem.Spec PyProof.Rows L2
theorem call_or {X : Cx} {fv : Value} {r1 r2 : List V → Hp → VK → Prop} (h1 : CallR X fv r1) (h2 : CallR X fv r2) : CallR X fv (fun xs Hh Qq => r1 xs Hh Qq ∨ r2 xs Hh Qq) := fun pns s σs Hh xs us Qq Iv rr h => h.elim (h1 pns s σs Hh xs us Qq Iv rr) (h2 pns s σs Hh xs us Qq Iv rr)
/-- an error that is kept: its object, its dict -/
def ErrV (Hh : Hp) (x : V) (C : Addr) (fs : List (Str × V)) : Prop := ∃ (e dd : Addr), x = .ref e ∧ Hh e = some (errO e C (some dd)) ∧ Hh dd = some (.xd fs)
theorem err_inst {P : Program} {w : World} {Hh : Hp} {hp : Heap} {e C dd : Addr} {fs : List (Str × V)} (hok : HOk P w Hh hp) (he : Hh e = some (errO e C (some dd))) (hd : Hh dd = some (.xd fs)) :
    ∃ (ob od : Obj) (mA : Str → Option Value), PySem.W.InstAt hp e ob C (some od) ∧ (∀ f, PySem.W.lookIn f od = some (mA f)) ∧ ∀ f, RelO (fs.lookup f) (mA f) := by
  obtain ⟨ob, vs, g, c1, c2, c3⟩ := errO_at hok he
  obtain ⟨mA, hns, hr⟩ := (show ObjOk P w Hh hp dd (.xd fs) from hok dd _ hd)
  obtain ⟨od, ho, hl⟩ := lookIn_ns hns
  exact ⟨ob, od, mA, ⟨g, c1, by unfold PySem.W.notCls; rw [c3] <;> rfl, by rw [c2]; exact ho⟩, hl, hr⟩
/-- isinstance(e, c), e an error that is kept -/
def rIsE (K : PySem.W.Frag) : List V → Hp → VK → Prop := fun xs Hh Qq => ∃ (x c : V) (cv : Value) (C : Addr) (fs : List (Str × V)) (b : Bool), xs = [x, c] ∧ (∀ u, RelV c u → u = cv) ∧ ExcC K C ∧ ErrV Hh x C fs ∧ PySem.W.kitOne K (.ref C) cv = some b ∧ Qq (.bl b) Hh
theorem cr_isE {X : Cx} : CallR X (.builtin "isinstance") (rIsE X.K) := by
  intro pns s σs Hh xs us Qq Iv rr ⟨x, c, cv, C, fs, b, ex, hcv, G, ⟨e, dd, ez, he, hd⟩, kit, q⟩
  subst ex ez
  obtain ⟨u1, u2, rfl, r1, r2⟩ := vals2 rr
  obtain rfl : u1 = Value.ref e := r1
  obtain rfl := hcv _ r2
  obtain ⟨ob, od, mA, J, _, _⟩ := err_inst Iv.hok he hd
  have hcl : (PySem.W.clsIn X.K C).isSome = true := by
    obtain ⟨cd, hc, _⟩ := PySem.W.any_some G.hd
    rw [hc]
    rfl
  exact PySem.W.kia_one (PySem.W.kitx_exc hcl G.hg G.hk G.hs G.ha G.hn G.ht G.hm) Iv.kIn J kit (fun z => nomatch z) fun tk => ⟨.bl b, Hh, Iv.kept (t' := tk) fun _ _ z => z, rfl, q⟩
/-- e.f, e an error that is kept -/
def tFldE (K : PySem.W.Frag) (te : TE) (f : Str) : TE := fun σs Hh Qq => te σs Hh fun x J => ∃ (C : Addr) (fs : List (Str × V)) (v : V), ErrV J x C fs ∧ XfC K C ∧ PySem.W.findIn K (.ref C) f = some none ∧ fs.lookup f = some v ∧ Qq v J
theorem pe_fldE {X : Cx} {ex : Expr} {te : TE} {po : Pos} {n : Str} (he : PE X ex te) (hb : attributeBase ex n X.env (eval ex X.env) = eval ex X.env := by rfl) : PE X (.Attribute ex n po) (tFldE X.K te n) := by
  refine ⟨fun pns s σs Hh Qq Iv h => attr_of hb (thn (he.run pns s σs Hh _ Iv h) fun u s1 hh => ?_)⟩
  obtain ⟨x, J, I1, rx, C, fs, v, ⟨e, dd, ez, g1, g2⟩, T, hno, l, q⟩ := hh
  subst ez
  obtain rfl : u = Value.ref e := rx
  obtain ⟨ob, od, mA, K1, hl, hr⟩ := err_inst I1.hok g1 g2
  obtain ⟨z, hz, rz⟩ := RelO.some_of (v := v) (o := mA n) (by rw [← l]; exact hr n)
  exact HandSPX.exc_get I1.kIn K1 T.ga T.gg T.exC (PySem.W.findObj_own T.hdC hno rfl (by rw [hl, hz])) (handed_of rz) ⟨v, J, I1.tok _, rz, q⟩
end Rg
namespace Rg
open PySem PySem.Spec PyProof.Rows L2
/-- name = {k: v for ..}, a plain local name -/
theorem sw_dc {kx vx : Expr} {gs : List Comprehension} {sc : Scope} {po py : Pos} {y : Str} {ln : Nat} {ev : Env} (hk : ev.scope.kind = .function) (hy : ev.scope.names.lookup y = some .local) (hl : (py.line == po.line) = true)
    (ha : (sc.names.any fun (n, k) => n == y && (k == .local || k == .cell)) = false) : swapsWith (.DictComp kx vx gs sc po) (some (.Name y py)) ln ev = pure true := by
  have k1 : ev.kindOf y = some .local := hy
  have k2 : ev.blockKind = .function := by unfold Env.blockKind; rw [hk]; rfl
  unfold swapsWith
  simp only [k2, k1, ha, Expr.pos, hl]
  rfl
section
variable {X : Cx}
theorem ps_setDc {ix : Nat} {y : Str} {py : Pos} {kx vx tg itx : Expr} {ifs : List Expr} {sc : Scope} {own : List (Str × Nat)} {po spo : Pos} {wi : TI} {g : TG} {tt : TT} {tk tv : TE} (hc : X.calm = true) (hN : X.N.Nodup) (hy : X.N[ix]? = some y) (hyl : X.env.scope.names.lookup y = some .local)
    (hsw : swapsWith (.DictComp kx vx [⟨tg, itx, ifs, 0⟩] sc po) (some (.Name y py)) spo.line X.env = pure true) (hi : PI X tg itx wi) (ok : BlkOk X.N X.env.scope sc own)
    (hg : ∀ (s : Shared) (H : Hp) (C : Addr) (cl : List (Str × Addr)) (fp : List Addr), PG (X.blk s H sc (compEnvC sc cl C X.env) fp) tg g) (ht : ∀ (s : Shared) (H : Hp) (C : Addr) (cl : List (Str × Addr)) (fp : List Addr), PTs (X.blk s H sc (compEnvC sc cl C X.env) fp) ifs tt)
    (hk : ∀ (s : Shared) (H : Hp) (C : Addr) (cl : List (Str × Addr)) (fp : List Addr), PE (X.blk s H sc (compEnvC sc cl C X.env) fp) kx tk) (he : ∀ (s : Shared) (H : Hp) (C : Addr) (cl : List (Str × Addr)) (fp : List Addr), PE (X.blk s H sc (compEnvC sc cl C X.env) fp) vx tv)
    (hs : ∀ x, foldedSetIterable itx X.env x = pure x := by intro _; rfl) : PS X (.Assign [.Name y py] (.DictComp kx vx [⟨tg, itx, ifs, 0⟩] sc po) spo) (tAsg (tDc wi g tt tk tv (own.map (·.2))) (gName ix)) := by
  refine ⟨fun pns sh σs Hh De Iv h => ?_⟩
  rw [exec_Assign_Name_used _ _ _ _ hsw]
  refine wpAny_bind (wpAny_standAt (wpAny_bind ?_))
  show wpAny _ X.A (do let _ ← comprehension (.DictComp kx vx [⟨tg, itx, ifs, 0⟩] sc po) sc X.env (firstIterPos [⟨tg, itx, ifs, 0⟩] po) newDict false (eval itx X.env) (some (assign (.Name y py) X.env))) _ _ sh
  have h2 : tDc wi g tt tk tv (own.map (·.2)) σs Hh (fun x J => gName ix x σs J De.nx) := h
  refine wpAny_bind (thn (dc_core (Qf := fun _ s' => SP X pns De .next s') hc hN Iv hi ok hg ht hk he hs h2 fun D C s' m J I' q hn f => ?_) fun _ s' hq => wpAny_pure (wpAny_pure hq))
  show wpAny _ _ (assign (.Name y py) X.env (.ref D)) _ _ _
  refine wpAny_assign_Name (store_ok2 (v := V.ref D) I' hN hy (.inl hyl) rfl (fun s2 I2 ⟨a, sb, ha⟩ => ?_) (.inr hyl))
  obtain ⟨f0, f1, f2, f3, f4, f5⟩ := f
  have ne : C ≠ a := ha.elim (fun z => by rw [z]; exact f1) fun z e => f4 y a z e.symm
  exact ⟨m, hn.sameBut sb ne, fun h3 sb3 => ⟨_, J, I2.turned (t' := s2.toks) (fun b o hb e => (sb3.2 b hb).trans e) f0 f1 f3 f4 f5, q⟩⟩
end
end Rg
namespace Rg
open PySem PySem.Spec PyProof.Rows L2
/-! ### the tuples of a zip that are kept -/
theorem tup_at {h h' : Heap} {a : Addr} {its : Array Value} (x : h.IsTuple a its) (e : ∀ o, h.get? a = some o → h'.get? a = some o) : h'.IsTuple a its := let ⟨o, ho, r⟩ := x; ⟨o, e _ ho, r⟩
theorem draws_tup {prog : Program} {w : World} {A : Around} (clear : A.handled = none) (it l : Addr) (apart : l ≠ it) (its : Array Value) : Draws prog w A it [it, l] its.size (fun j v => its[j]? = some v) (fun j h => h.IsTupleIter it l j ∧ h.IsTuple l its) where
  live := fun _ _ stand => let ⟨o, ho, _⟩ := stand.1; ⟨o, ho⟩
  frame := fun _ _ _ stand kept => ⟨stand.1.at fun o e => kept it (by simp) o e, tup_at stand.2 fun o e => kept l (by simp) o e⟩
  item := fun j s Q E hj stand hQ => by
    refine RZ.nextOf_tuple_item stand.1 stand.2 (x := its[j]) (by simp [hj]) fun h' it' same => ?_
    exact hQ _ h' s.toks (by simp [hj]) ⟨it', stand.2.extBut same.extBut apart⟩ same
  done := fun s Q E stand hE => RZ.nextOf_tuple_end clear stand.1 stand.2 (by simp) hE
section
variable {prog : Program} {w : World} {A : Around} {E : Value → Shared → Prop} {s : Shared} {z TI TO T L i1 i2 : Addr} {fp1 fp2 : List Addr} {n1 n2 j : Nat} {P1 P2 : Nat → Value → Prop} {St1 St2 : Nat → Heap → Prop} {b : Bool} {oT : Obj}
theorem zh_next {Q : Value → Shared → Prop} (S : ZipSep2 z TI TO i1 i2 fp1 fp2) (D1 : Draws prog w A i1 fp1 n1 P1 St1) (D2 : Draws prog w A i2 fp2 n2 P2 St2) (hz : IsZipHeld s.heap z TI TO T b) (hT : s.heap.get? T = some oT) (hTI : IsTupOf2 s.heap TI (.ref i1) (.ref i2)) (t1 : St1 j s.heap) (t2 : St2 j s.heap) (l1 : j < n1) (l2 : j < n2)
    (hQ : ∀ u v h' tk, P1 j u → P2 j v → IsZipHeld h' z TI TO T true → St1 (j + 1) h' → St2 (j + 1) h' → IsTupOf2 h' s.heap.objs.size u v → h'.objs.size = s.heap.objs.size + 1 → (∀ c o, c ≠ z → c ≠ i1 → c ≠ i2 → s.heap.get? c = some o → h'.get? c = some o) → Q (.ref s.heap.objs.size) { s with heap := h', toks := tk }) :
    wpAny (model prog w) A (Builtin.«zip.__next__» ⟨[.ref z], []⟩) (fun fin s' => ∃ v, fin = .done (.ret v) ∧ Q v s') E s := by
  obtain ⟨hp, g, d, tk0, os⟩ := s
  show wpAny _ _ (field (.ref z) 2 >>= _) _ _ _
  refine wpAny_bind (wpAny_field hz rfl (x := .bool false) rfl ?_)
  show wpAny _ _ (field (.ref z) 3 >>= _) _ _ _
  refine wpAny_bind (wpAny_field hz rfl (x := .ref TI) rfl ?_)
  refine wpAny_bind (wpAny_seqItems hTI rfl ?_)
  show wpAny _ _ (Builtin.SmallTypes.ownedTupleIsFree (.ref z) >>= _) _ _ _
  refine wpAny_bind (wpAny_tupleHeld_zip (s := ⟨hp, g, d, tk0, os⟩) hz hT fun k1 z1 c1 => ?_)
  replace c1 : Heap.SameBut z hp k1 := c1
  simp only [Bool.false_eq_true, if_false]
  refine wpAny_bind ?_
  rw [← Array.forIn_toList]
  simp only [List.forIn_cons, List.forIn_nil]
  refine wpAny_bind (wpAny_bind (wpAny_holding ?_))
  show wpAny _ _ (Builtin.SmallTypes.nextOf (.ref i1) >>= _) _ _ ⟨k1, g, d, tk0, os⟩
  refine wpAny_bind (D1.item j _ _ _ l1 (D1.over t1 c1 S.zf1) fun u k2 tk1 pu t1' c2 => wpAny_pure ?_)
  replace c2 : Heap.SameBut i1 k1 k2 := c2
  refine wpAny_pure ?_
  refine wpAny_bind (wpAny_bind (wpAny_holding ?_))
  show wpAny _ _ (Builtin.SmallTypes.nextOf (.ref i2) >>= _) _ _ ⟨k2, g, d, tk1, os⟩
  refine wpAny_bind (D2.item j _ _ _ l2 (D2.over (D2.over t2 c1 S.zf2) c2 S.sep1_2) fun v k3 tk2 pv t2' c3 => wpAny_pure ?_)
  replace c3 : Heap.SameBut i2 k2 k3 := c3
  refine wpAny_pure (wpAny_pure ?_)
  show wpAny _ _ (newTuple [u, v] >>= _) _ _ ⟨k3, g, d, tk2, os⟩
  refine wpAny_bind (wpAny_newTuple ?_)
  have size3 : k3.objs.size = hp.objs.size := by rw [c3.1, c2.1, c1.1]
  have z3 : IsZipHeld k3 z TI TO T true := c3.extBut _ _ S.zi2 (c2.extBut _ _ S.zi1 z1)
  have stay : ∀ c o, c ≠ z → c ≠ i1 → c ≠ i2 → hp.get? c = some o → k3.get? c = some o := fun c o a1 a2 a3 e => c3.extBut _ _ a3 (c2.extBut _ _ a2 (c1.extBut _ _ a1 e))
  refine wpAny_pure ⟨_, rfl, ?_⟩
  show Q (.ref k3.objs.size) _
  have at3 : IsTupOf2 (k3.push { cls := .type "tuple", data := .seq #[u, v] }) k3.objs.size u v := Heap.get?_push_size _ rfl
  have size4 : (k3.push { cls := .type "tuple", data := .seq #[u, v] }).objs.size = k3.objs.size + 1 := Heap.size_push ..
  rw [size3] at at3 size4 ⊢
  exact hQ u v _ tk2 pu pv (Heap.get?_push_of_some _ z3) (D1.frame _ _ _ (D1.over t1' c3 S.sep2_1) fun c _ o e => Heap.get?_push_of_some _ e) (D2.frame _ _ _ t2' fun c _ o e => Heap.get?_push_of_some _ e) at3 size4 fun c o a1 a2 a3 e => Heap.get?_push_of_some _ (stay c o a1 a2 a3 e)
theorem zh_stop {Q : Fin → Shared → Prop} (S : ZipSep2 z TI TO i1 i2 fp1 fp2) (D1 : Draws prog w A i1 fp1 n1 P1 St1) (D2 : Draws prog w A i2 fp2 n2 P2 St2) (hz : IsZipHeld s.heap z TI TO T b) (hT : s.heap.get? T = some oT) (hTI : IsTupOf2 s.heap TI (.ref i1) (.ref i2)) (t1 : St1 j s.heap) (t2 : St2 j s.heap) (l1 : j ≤ n1) (l2 : j ≤ n2) (over : j = n1 ∨ j = n2)
    (hE : ∀ h' tk e, (∀ c o, c ≠ z → c ≠ i1 → c ≠ i2 → s.heap.get? c = some o → h'.get? c = some o) → (∃ o, h'.get? e = some o ∧ o.cls = .type "StopIteration") → E (.ref e) { s with heap := h', toks := tk }) :
    wpAny (model prog w) A (Builtin.«zip.__next__» ⟨[.ref z], []⟩) Q E s := by
  obtain ⟨hp, g, d, tk0, os⟩ := s
  show wpAny _ _ (field (.ref z) 2 >>= _) _ _ _
  refine wpAny_bind (wpAny_field hz rfl (x := .bool false) rfl ?_)
  show wpAny _ _ (field (.ref z) 3 >>= _) _ _ _
  refine wpAny_bind (wpAny_field hz rfl (x := .ref TI) rfl ?_)
  refine wpAny_bind (wpAny_seqItems hTI rfl ?_)
  show wpAny _ _ (Builtin.SmallTypes.ownedTupleIsFree (.ref z) >>= _) _ _ _
  refine wpAny_bind (wpAny_tupleHeld_zip (s := ⟨hp, g, d, tk0, os⟩) hz hT fun k1 z1 c1 => ?_)
  replace c1 : Heap.SameBut z hp k1 := c1
  simp only [Bool.false_eq_true, if_false]
  refine wpAny_bind ?_
  rw [← Array.forIn_toList]
  simp only [List.forIn_cons, List.forIn_nil]
  refine wpAny_bind (wpAny_bind (wpAny_holding ?_))
  show wpAny _ _ (Builtin.SmallTypes.nextOf (.ref i1) >>= _) _ _ ⟨k1, g, d, tk0, os⟩
  by_cases c : j < n1
  · have e2 : j = n2 := by omega
    refine wpAny_bind (D1.item j _ _ _ c (D1.over t1 c1 S.zf1) fun u k2 tk1 pu t1' c2 => wpAny_pure ?_)
    replace c2 : Heap.SameBut i1 k1 k2 := c2
    refine wpAny_pure ?_
    refine wpAny_bind (wpAny_bind (wpAny_holding ?_))
    show wpAny _ _ (Builtin.SmallTypes.nextOf (.ref i2) >>= _) _ _ ⟨k2, g, d, tk1, os⟩
    refine wpAny_bind (D2.done ⟨k2, g, d, tk1, os⟩ _ _ (by rw [← e2]; exact D2.over (D2.over t2 c1 S.zf2) c2 S.sep1_2) fun q e hq he => ?_)
    exact hE q tk1 e (fun c o a1 a2 a3 x => hq c o a3 (c2.extBut _ _ a2 (c1.extBut _ _ a1 x))) he
  · have e1 : j = n1 := by omega
    refine wpAny_bind (D1.done ⟨k1, g, d, tk0, os⟩ _ _ (by rw [← e1]; exact D1.over t1 c1 S.zf1) fun q e hq he => ?_)
    exact hE q tk0 e (fun c o a1 a2 a3 x => hq c o a2 (c1.extBut _ _ a1 x)) he
/-- a zip whose tuples a list keeps -/
def ZSt (z TI TO i1 i2 L : Addr) (St1 St2 : Nat → Heap → Prop) (j : Nat) (h : Heap) : Prop := IsTupOf2 h TI (.ref i1) (.ref i2) ∧ St1 j h ∧ St2 j h ∧ ((IsZip h z TI TO .none ∧ ∃ a b, IsTupOf2 h TO a b) ∨ ∃ T f oT, IsZipHeld h z TI TO T f ∧ h.get? T = some oT ∧ T ≠ z ∧ T ≠ i1 ∧ T ≠ i2 ∧ T ≠ L)
theorem zst_type (st : ZSt z TI TO i1 i2 L St1 St2 j s.heap) : s.TypeIs (.ref z) "zip" := by
  rcases st.2.2.2 with ⟨hz, _⟩ | ⟨_, _, _, hz, _⟩
  · exact ⟨_, hz, rfl⟩
  · exact ⟨_, hz, rfl⟩
theorem zst_keep (D1 : Draws prog w A i1 fp1 n1 P1 St1) (D2 : Draws prog w A i2 fp2 n2 P2 St2) {h h' : Heap} (st : ZSt z TI TO i1 i2 L St1 St2 j h) (nz : z ≠ L) (nTI : TI ≠ L) (nTO : TO ≠ L) (nf1 : L ∉ fp1) (nf2 : L ∉ fp2) (k : ∀ c o, c ≠ L → h.get? c = some o → h'.get? c = some o) : ZSt z TI TO i1 i2 L St1 St2 j h' := by
  obtain ⟨a1, a2, a3, a4⟩ := st
  refine ⟨k _ _ nTI a1, D1.frame _ _ _ a2 fun c hc o e => k c o (fun q => nf1 (q ▸ hc)) e, D2.frame _ _ _ a3 fun c hc o e => k c o (fun q => nf2 (q ▸ hc)) e, ?_⟩
  rcases a4 with ⟨hz, a, b, hTO⟩ | ⟨T, f, oT, hz, hT, r1, r2, r3, r4⟩
  · exact .inl ⟨k _ _ nz hz, a, b, k _ _ nTO hTO⟩
  · exact .inr ⟨T, f, oT, k _ _ nz hz, k _ _ r4 hT, r1, r2, r3, r4⟩
theorem zst_item {Q : Option Value → Shared → Prop} (S : ZipSep2 z TI TO i1 i2 fp1 fp2) (D1 : Draws prog w A.in1 i1 fp1 n1 P1 St1) (D2 : Draws prog w A.in1 i2 fp2 n2 P2 St2) (st : ZSt z TI TO i1 i2 L St1 St2 j s.heap) (hL : L < s.heap.objs.size) (l1 : j < n1) (l2 : j < n2)
    (hQ : ∀ u v h' tk, P1 j u → P2 j v → ZSt z TI TO i1 i2 L St1 St2 (j + 1) h' → IsTupOf2 h' s.heap.objs.size u v → (∀ c o, c ≠ z → c ≠ TO → c ≠ i1 → c ≠ i2 → s.heap.get? c = some o → h'.get? c = some o) → Q (some (.ref s.heap.objs.size)) { s with heap := h', toks := tk }) :
    wpAny (model prog w) A (pyNext (.ref z)) Q E s := by
  have ty := zst_type st
  obtain ⟨hTI, t1, t2, a4⟩ := st
  have lt : ∀ {c o}, s.heap.get? c = some o → s.heap.objs.size ≠ c := fun e => Nat.ne_of_gt (Heap.lt_size e)
  have m1 : s.heap.objs.size ≠ i1 := by obtain ⟨_, e⟩ := D1.live _ _ t1; exact lt e
  have m2 : s.heap.objs.size ≠ i2 := by obtain ⟨_, e⟩ := D2.live _ _ t2; exact lt e
  rcases a4 with ⟨hz, a, b, hTO⟩ | ⟨T, f, oT, hz, hT, r1, r2, r3, r4⟩
  · refine wpAny_pyNext_zipD2_item S D1 D2 hz hTI hTO t1 t2 l1 l2 fun u v h' tk pu pv b1 b2 d1 d2 b5 b6 hk => ?_
    exact hQ u v h' tk pu pv ⟨hk _ _ S.TIz S.TITO S.TIi1 S.TIi2 hTI, d1, d2, .inr ⟨_, false, _, b1, b5, lt hz, m1, m2, Nat.ne_of_gt hL⟩⟩ b5 hk
  · unfold pyNext
    refine wpAny_bind (wpAny_attempt (wpAny_callSpecial?_slot (name := Str.ofString "__next__") ty F.slot_zip_next
      (wpAny_call_entry F.slot_zip_next ty F.entry_zip_next (zh_next S D1 D2 hz hT hTI t1 t2 l1 l2 fun u v h' tk pu pv b1 d1 d2 b5 b6 hk => wpAny_pure ?_) (F.args_zip_next_1 _))))
    exact hQ u v h' tk pu pv ⟨hk _ _ S.TIz S.TIi1 S.TIi2 hTI, d1, d2, .inr ⟨T, true, oT, b1, hk _ _ r1 r2 r3 hT, r1, r2, r3, r4⟩⟩ b5 fun c o q1 _ q3 q4 e => hk c o q1 q3 q4 e
theorem zst_done {Q : Option Value → Shared → Prop} (S : ZipSep2 z TI TO i1 i2 fp1 fp2) (D1 : Draws prog w A.in1 i1 fp1 n1 P1 St1) (D2 : Draws prog w A.in1 i2 fp2 n2 P2 St2) (st : ZSt z TI TO i1 i2 L St1 St2 j s.heap) (l1 : j ≤ n1) (l2 : j ≤ n2) (over : j = n1 ∨ j = n2)
    (hQ : ∀ h' tk, (∀ c o, c ≠ z → c ≠ TO → c ≠ i1 → c ≠ i2 → s.heap.get? c = some o → h'.get? c = some o) → Q none { s with heap := h', toks := tk }) : wpAny (model prog w) A (pyNext (.ref z)) Q E s := by
  have ty := zst_type st
  obtain ⟨hTI, t1, t2, a4⟩ := st
  rcases a4 with ⟨hz, a, b, hTO⟩ | ⟨T, f, oT, hz, hT, r1, r2, r3, r4⟩
  · exact wpAny_pyNext_zipD2_end S D1 D2 hz hTI hTO t1 t2 l1 l2 over hQ
  · unfold pyNext
    refine wpAny_bind (wpAny_attempt (wpAny_callSpecial?_slot (name := Str.ofString "__next__") ty F.slot_zip_next
      (wpAny_call_entry F.slot_zip_next ty F.entry_zip_next (zh_stop S D1 D2 hz hT hTI t1 t2 l1 l2 over fun h' tk e hk he => ?_) (F.args_zip_next_1 _))))
    obtain ⟨o, ho, hc⟩ := he
    refine wpAny_bind (wpAny_isInstance (T := "StopIteration") (b := true) ⟨o, ho, hc⟩ isSubtype_stop ?_)
    exact wpAny_pure (hQ _ _ fun c o q1 _ q3 q4 e => hk c o q1 q3 q4 e)
theorem zst_self {Q : Value → Shared → Prop} (st : ZSt z TI TO i1 i2 L St1 St2 j s.heap) (h : Q (.ref z) s) : wpAny (model prog w) A (pyIter (.ref z)) Q E s := by
  have ty := zst_type st
  refine wpAny_pyIter_slot ty F.slot_zip_iter (wpAny_call_entry F.slot_zip_iter ty F.entry_zip_iter ?_ (F.args_zip_iter_1 _))
  show wpAny _ _ (ret (.ref z)) _ _ s
  exact wpAny_pure ⟨_, rfl, "zip", _, ty, F.slot_zip_next.lookup, h⟩
end
/-- the addresses of the pairs given out so far -/
structure ZGo (P1 P2 : Nat → Value → Prop) (lo : Addr) (h : Heap) (as : List Addr) : Prop where
  up : as.Pairwise (· < ·)
  hi : ∀ a ∈ as, lo < a
  each : ∀ (k : Nat) (a : Addr), as[k]? = some a → ∃ u v, P1 k u ∧ P2 k v ∧ IsTupOf2 h a u v
end Rg
namespace Rg
open PySem PySem.Spec PyProof.Rows L2
theorem nolen_zp : typeLookup (.type "zip") "__len__" = pure none := by rw [typeLookup_type, builtinLookup_eq_fast]; kernel_rfl
theorem nohint_zp : typeLookup (.type "zip") "__length_hint__" = pure none := by rw [typeLookup_type, builtinLookup_eq_fast]; kernel_rfl
/-- all cells of the zip stand below L -/
structure ZLow (z TI TO L : Addr) (fp1 fp2 : List Addr) : Prop where
  z : z < L
  TI : TI < L
  TO : TO < L
  f1 : ∀ c ∈ fp1, c < L
  f2 : ∀ c ∈ fp2, c < L
section
variable {prog : Program} {w : World} {A : Around} {s : Shared} {R : Result → Shared → Prop} {z TI TO L i1 i2 : Addr} {fp1 fp2 : List Addr} {n1 n2 : Nat} {P1 P2 : Nat → Value → Prop} {St1 St2 : Nat → Heap → Prop}
theorem zl_keep (W : ZLow z TI TO L fp1 fp2) (D1 : Draws prog w A i1 fp1 n1 P1 St1) (D2 : Draws prog w A i2 fp2 n2 P2 St2) {j : Nat} {h h' : Heap} (st : ZSt z TI TO i1 i2 L St1 St2 j h) (k : ∀ c o, c ≠ L → h.get? c = some o → h'.get? c = some o) : ZSt z TI TO i1 i2 L St1 St2 j h' :=
  zst_keep D1 D2 st (Nat.ne_of_lt W.z) (Nat.ne_of_lt W.TI) (Nat.ne_of_lt W.TO) (fun q => Nat.lt_irrefl _ (W.f1 _ q)) (fun q => Nat.lt_irrefl _ (W.f2 _ q)) k
theorem zl_loop (S : ZipSep2 z TI TO i1 i2 fp1 fp2) (D1 : Draws prog w A.in1.in1 i1 fp1 n1 P1 St1) (D2 : Draws prog w A.in1.in1 i2 fp2 n2 P2 St2) (W : ZLow z TI TO L fp1 fp2) (hn : min n1 n2 ≤ sizeLine) (res : Value) {h0 : Heap}
    (hR : ∀ h' tk acc c as, (∀ b o, b ≠ L → b ≠ z → b ≠ TO → b ≠ i1 → b ≠ i2 → h0.get? b = some o → h'.get? b = some o) → h'.get? L = some { cls := .type "list", dict := none, data := .seq acc c, slots := #[] } → as.length = min n1 n2 → ZGo P1 P2 L h' as → acc.toList = as.map Value.ref → R (.ok (.ret res)) { s with heap := h', toks := tk }) :
    ∀ (m j : Nat) (h : Heap) (tk c : Nat) (acc : Array Value) (as : List Addr), min n1 n2 - j = m → j ≤ min n1 n2 → ZSt z TI TO i1 i2 L St1 St2 j h → (∀ b o, b ≠ L → b ≠ z → b ≠ TO → b ≠ i1 → b ≠ i2 → h0.get? b = some o → h.get? b = some o) →
      h.get? L = some { cls := .type "list", dict := none, data := .seq acc c, slots := #[] } → acc.toList = as.map Value.ref → as.length = j → ZGo P1 P2 L h as → codeAny (model prog w) A (.builtin "list.extend.loop" ⟨[.ref L, .ref z, res], []⟩) R { s with heap := h, toks := tk } := by
  have lz : L ≠ z := Nat.ne_of_gt W.z
  have lTO : L ≠ TO := Nat.ne_of_gt W.TO
  have li1 : L ≠ i1 := Nat.ne_of_gt (W.f1 _ S.mem1)
  have li2 : L ≠ i2 := Nat.ne_of_gt (W.f2 _ S.mem2)
  have off : ∀ {a : Addr}, L < a → a ≠ z ∧ a ≠ TO ∧ a ≠ i1 ∧ a ≠ i2 := fun {a} q => ⟨Nat.ne_of_gt (Nat.lt_trans W.z q), Nat.ne_of_gt (Nat.lt_trans W.TO q), Nat.ne_of_gt (Nat.lt_trans (W.f1 _ S.mem1) q), Nat.ne_of_gt (Nat.lt_trans (W.f2 _ S.mem2) q)⟩
  intro m
  induction m with
  | zero =>
    intro j h tk c acc as hm hj st keep hL full len G
    have le1 := Nat.min_le_left n1 n2
    have le2 := Nat.min_le_right n1 n2
    refine codeAny_builtin PySem.F.entry_extend_loop ?_
    rw [Around.under_plainId PySem.F.plain_extend_loop _]
    show wpAny _ A.in1 (pyNext (.ref z) >>= _) _ _ _
    refine wpAny_bind (zst_done (s := { s with heap := h, toks := tk }) (A := A.in1) S D1 D2 st (by omega) (by omega) (by omega) fun h' tk' ex => ?_)
    refine wpAny_pure (hR h' tk' acc c as (fun b o q0 q1 q2 q3 q4 e => ex b o q1 q2 q3 q4 (keep b o q0 q1 q2 q3 q4 e)) (ex L _ lz lTO li1 li2 hL) (by omega) ⟨G.up, G.hi, fun k a hk => ?_⟩ full)
    obtain ⟨u, v, pu, pv, e⟩ := G.each k a hk
    obtain ⟨o1, o2, o3, o4⟩ := off (G.hi a (List.mem_of_getElem? hk))
    exact ⟨u, v, pu, pv, ex a _ o1 o2 o3 o4 e⟩
  | succ m ih =>
    intro j h tk c acc as hm hj st keep hL full len G
    have le1 := Nat.min_le_left n1 n2
    have le2 := Nat.min_le_right n1 n2
    have size : acc.size = j := by rw [← Array.length_toList, full, List.length_map, len]
    have hLs : L < h.objs.size := Heap.lt_size hL
    refine codeAny_builtin PySem.F.entry_extend_loop ?_
    rw [Around.under_plainId PySem.F.plain_extend_loop _]
    show wpAny _ A.in1 (pyNext (.ref z) >>= _) _ _ _
    refine wpAny_bind (zst_item (s := { s with heap := h, toks := tk }) (A := A.in1) S D1 D2 st hLs (by omega) (by omega) fun u v h' tk' pu pv st' new ex => ?_)
    dsimp only at new ex ⊢
    have hL' := ex L _ lz lTO li1 li2 hL
    have up : ∀ b o, b ≠ L → h'.get? b = some o → (h'.update L (Obj.mapSeq (·.push (Value.ref h.objs.size)))).get? b = some o := fun b o hb e => (Heap.get?_update_other _ _ (Ne.symm hb)).trans e
    show wpAny _ A.in1 (updateSeq L (·.push (Value.ref h.objs.size)) >>= _) _ _ _
    refine wpAny_bind ?_
    refine wpAny_updateSeq hL' rfl (wpAny_pure ⟨plainId_quiet PySem.F.plain_extend_loop _, ih (j + 1) _ tk' _ (acc.push (Value.ref h.objs.size)) (as ++ [h.objs.size]) (by omega) (by omega) (zl_keep W D1 D2 st' up)
      (fun b o q0 q1 q2 q3 q4 e => up b o q0 (ex b o q1 q2 q3 q4 (keep b o q0 q1 q2 q3 q4 e))) (Heap.get?_update_self _ hL' rfl) (by rw [Array.toList_push, full, List.map_append]; rfl) (by rw [List.length_append, len]; rfl) ⟨?_, ?_, ?_⟩⟩) (by rw [size]; omega) (by show (acc.push (Value.ref h.objs.size)).size ≤ sizeLine + 1; rw [Array.size_push, size]; omega)
    · refine List.pairwise_append.mpr ⟨G.up, List.pairwise_singleton _ _, fun a ha b hb => ?_⟩
      rw [List.mem_singleton.mp hb]
      obtain ⟨k, hk⟩ := List.mem_iff_getElem?.mp ha
      obtain ⟨_, _, _, _, e⟩ := G.each k a hk
      exact Heap.lt_size e
    · intro a ha
      rcases List.mem_append.mp ha with ha | ha
      · exact G.hi a ha
      · rw [List.mem_singleton.mp ha]; exact hLs
    · intro k a hk
      rcases Nat.lt_trichotomy k as.length with q | q | q
      · rw [List.getElem?_append_left q] at hk
        obtain ⟨u', v', pu', pv', e⟩ := G.each k a hk
        have ha := G.hi a (List.mem_of_getElem? hk)
        obtain ⟨o1, o2, o3, o4⟩ := off ha
        exact ⟨u', v', pu', pv', up a _ (Nat.ne_of_gt ha) (ex a _ o1 o2 o3 o4 e)⟩
      · subst q
        have ha : h.objs.size = a := by simpa using hk
        subst ha
        rw [len]
        exact ⟨u, v, pu, pv, up _ _ (Nat.ne_of_gt hLs) new⟩
      · rw [List.getElem?_eq_none (by rw [List.length_append, List.length_singleton]; omega)] at hk
        cases hk
theorem zl_extend (S : ZipSep2 z TI TO i1 i2 fp1 fp2) (D1 : Draws prog w A.in1.in1 i1 fp1 n1 P1 St1) (D2 : Draws prog w A.in1.in1 i2 fp2 n2 P2 St2) (W : ZLow z TI TO L fp1 fp2) (hn : min n1 n2 ≤ sizeLine) (res : Value) (c0 : Nat) (st : ZSt z TI TO i1 i2 L St1 St2 0 s.heap) (hL : s.heap.get? L = some { cls := .type "list", data := .seq #[] c0 })
    (hR : ∀ h' tk acc c as, (∀ b o, b ≠ L → b ≠ z → b ≠ TO → b ≠ i1 → b ≠ i2 → s.heap.get? b = some o → h'.get? b = some o) → h'.get? L = some { cls := .type "list", dict := none, data := .seq acc c, slots := #[] } → as.length = min n1 n2 → ZGo P1 P2 L h' as → acc.toList = as.map Value.ref → R (.ok (.ret res)) { s with heap := h', toks := tk }) :
    wpAny (model prog w) A.in1 (Builtin.List.listExtendWith (.ref L) (.ref z) res)
      (fun fin s' => match fin with | .done f => R (.ok f) s' | .again c' => c'.quiet = true ∧ codeAny (model prog w) A c' R s') (fun e s' => R (.error e) s') s := by
  have ty := zst_type st
  have ne : L ≠ z := Nat.ne_of_gt W.z
  unfold Builtin.List.listExtendWith
  refine wpAny_bind (wpAny_typeOf (T := "zip") ty ?_)
  have q1 : Builtin.List.listSameRef (.ref L) (.ref z) = false := by simp [Builtin.List.listSameRef, ne]
  have q2 : (Value.type "zip" == Value.type "list") = false := by decide
  have q3 : (Value.type "zip" == Value.type "tuple") = false := by decide
  simp only [q1, q2, q3, Bool.or_false, Bool.false_eq_true, if_false]
  refine wpAny_bind (zst_self st ?_)
  refine wpAny_bind (wpAny_holding ?_)
  unfold Builtin.List.listLengthHint
  refine wpAny_bind (wpAny_specialOf ty nolen_zp ?_)
  show wpAny _ A.in1 (specialOf (Value.ref z) (Str.ofString "__length_hint__") >>= _) _ _ _
  refine wpAny_bind (wpAny_specialOf ty nohint_zp ?_)
  refine wpAny_pure ?_
  show wpAny _ A.in1 (rule "list.extend.makes-room" >>= fun _ => Builtin.List.listTouch (.ref L) >>= fun _ => again (.builtin "list.extend.loop" ⟨[.ref L, .ref z, res], []⟩)) _ _ _
  refine wpAny_bind (wpAny_rule ?_)
  refine wpAny_bind ?_
  show wpAny _ A.in1 (updateSeq L (·.push .none) >>= fun _ => updateSeq L (·.pop)) _ _ _
  refine wpAny_bind (wpAny_updateSeq hL rfl ?_)
  have hL2 := Heap.get?_update_self (Obj.mapSeq (·.push Value.none)) hL rfl
  refine wpAny_updateSeq (hz := by seq_fits) hL2 rfl ?_
  have hL3 := Heap.get?_update_self (Obj.mapSeq (·.pop)) hL2 rfl
  have oth : ∀ b o, b ≠ L → s.heap.get? b = some o → ((s.heap.update L (Obj.mapSeq (·.push Value.none))).update L (Obj.mapSeq (·.pop))).get? b = some o := fun b o hb e => (Heap.get?_update_other _ _ (Ne.symm hb)).trans ((Heap.get?_update_other _ _ (Ne.symm hb)).trans e)
  refine wpAny_pure ⟨plainId_quiet PySem.F.plain_extend_loop _, zl_loop (s := s) (h0 := s.heap) S D1 D2 W hn res hR _ 0 _ s.toks _ #[] [] rfl (Nat.zero_le _) (zl_keep W D1 D2 st oth) (fun b o q0 _ _ _ _ e => oth b o q0 e) hL3 rfl rfl ⟨List.Pairwise.nil, (fun _ q => nomatch q), fun k a q => by simp at q⟩⟩
theorem zl_call {E : Value → Shared → Prop} {Q : Value → Shared → Prop} (S : ZipSep2 z TI TO i1 i2 fp1 fp2) (D1 : Draws prog w A.in1.in1.in1 i1 fp1 n1 P1 St1) (D2 : Draws prog w A.in1.in1.in1 i2 fp2 n2 P2 St2) (W : ZLow z TI TO s.heap.objs.size fp1 fp2) (hn : min n1 n2 ≤ sizeLine) (st : ZSt z TI TO i1 i2 s.heap.objs.size St1 St2 0 s.heap)
    (hQ : ∀ h' tk acc c as, (∀ b o, b ≠ z → b ≠ TO → b ≠ i1 → b ≠ i2 → s.heap.get? b = some o → h'.get? b = some o) → h'.get? s.heap.objs.size = some { cls := .type "list", dict := none, data := .seq acc c, slots := #[] } → as.length = min n1 n2 → ZGo P1 P2 s.heap.objs.size h' as → acc.toList = as.map Value.ref → Q (.ref s.heap.objs.size) { s with heap := h', toks := tk }) :
    wpAny (model prog w) A (call (.type "list") [.ref z]) Q E s := by
  refine callType_codes (Q₁ := fun obj t => obj = .ref s.heap.objs.size ∧ t = { s with heap := s.heap.push { cls := .type "list", data := .seq #[] } }) PySem.F.called_list (PySem.F.typeCall_list_1 _) PySem.F.entry_list_init
    (code_list_new _ ⟨rfl, rfl⟩) fun obj t ht => ?_
  obtain ⟨rfl, rfl⟩ := ht
  have hL : (s.heap.push { cls := .type "list", data := .seq #[] }).get? s.heap.objs.size = some { cls := .type "list", data := .seq #[] } := Heap.get?_push_size _ rfl
  refine ⟨⟨_, hL, rfl⟩, PySem.F.args_list_init_2 _ _, ?_⟩
  show wpAny _ _ (do let old ← Builtin.List.listItems (.ref s.heap.objs.size); Builtin.List.listUpdate (.ref s.heap.objs.size) (fun _ => #[]); letGo old.toList.reverse; Builtin.List.listExtendWith (.ref s.heap.objs.size) (.ref z) .none) _ _ _
  refine wpAny_bind ?_
  unfold Builtin.List.listItems
  refine wpAny_bind (wpAny_seqItems hL rfl (wpAny_pure ?_))
  show wpAny _ _ (updateSeq s.heap.objs.size (fun _ => #[]) >>= fun _ => letGo (#[] : Array Value).toList.reverse >>= fun _ => Builtin.List.listExtendWith (.ref s.heap.objs.size) (.ref z) .none) _ _ _
  refine wpAny_bind (wpAny_updateSeq hL rfl ?_)
  have hL2 := Heap.get?_update_self (Obj.mapSeq (fun _ => (#[] : Array Value))) hL rfl
  have oth : ∀ b o, b ≠ s.heap.objs.size → s.heap.get? b = some o → ((s.heap.push { cls := .type "list", data := .seq #[] }).update s.heap.objs.size (Obj.mapSeq (fun _ => (#[] : Array Value)))).get? b = some o :=
    fun b o hb e => (Heap.get?_update_other _ _ (Ne.symm hb)).trans (Heap.get?_push_of_some _ e)
  refine wpAny_bind (wpAny_letGo ?_)
  refine zl_extend (A := A.in1) S D1 D2 W hn .none _ (zl_keep W D1 D2 st oth) hL2 fun h' tk acc c as hk hL' hl G hacc => ?_
  exact ⟨rfl, hQ h' tk acc c as (fun b o q1 q2 q3 q4 e => hk b o (Nat.ne_of_lt (Heap.lt_size e)) q1 q2 q3 q4 (oth b o (Nat.ne_of_lt (Heap.lt_size e)) e)) hL' hl G hacc⟩
end
end Rg
namespace Rg
open PySem PySem.Spec PyProof.Rows L2
/-! ### list(zip(x, y)), by the hand layer -/
/-- pairs tracked at their addresses -/
def putZ : Hp → List Addr → List (V × V) → Hp
  | H, a :: as, q :: qs => putZ (upd H a (.tup [q.1, q.2])) as qs
  | H, _, _ => H
theorem putZ_off {b : Addr} : ∀ (as : List Addr) (qs : List (V × V)) (H : Hp), b ∉ as → putZ H as qs b = H b
  | [], _, _, _ => rfl
  | _ :: _, [], _, _ => rfl
  | a :: as, q :: qs, H, h => by
    show putZ (upd H a (.tup [q.1, q.2])) as qs b = H b
    rw [putZ_off as qs _ (fun m => h (List.mem_cons_of_mem _ m)), upd_ne (fun m => h (by rw [m]; exact List.mem_cons_self))]
/-- where pairs stand -/
def PairsAt (H : Hp) : List Addr → List (V × V) → Prop := Paired fun (t : Addr) (q : V × V) => H t = some (.tup [q.1, q.2])
theorem putZ_at : ∀ (as : List Addr) (qs : List (V × V)) (H : Hp), as.length = qs.length → as.Nodup → PairsAt (putZ H as qs) as qs
  | [], [], _, _, _ => .nil
  | [], _ :: _, _, h, _ => by cases h
  | _ :: _, [], _, h, _ => by cases h
  | a :: as, q :: qs, H, h, hn => by
    have hn' := List.nodup_cons.mp hn
    refine .cons ?_ (putZ_at as qs (upd H a (.tup [q.1, q.2])) (Nat.succ.inj h) hn'.2)
    show putZ (upd H a (.tup [q.1, q.2])) as qs a = some (.tup [q.1, q.2])
    rw [putZ_off as qs _ hn'.1, upd_same]
theorem pairs_get {H : Hp} : ∀ {as : List Addr} {qs : List (V × V)}, PairsAt H as qs → ∀ {i : Nat} {a : Addr}, as[i]? = some a → ∃ q, qs[i]? = some q ∧ H a = some (.tup [q.1, q.2])
  | _, _, .nil, i, x, h => by cases h
  | _, _, .cons r t, 0, x, h => by
    cases h
    exact ⟨_, rfl, r⟩
  | _, _, .cons r t, i + 1, x, h => pairs_get t h
theorem pairs_mem {H : Hp} {as : List Addr} {qs : List (V × V)} (h : PairsAt H as qs) {a : Addr} (m : a ∈ as) : ∃ (i : Nat) (q : V × V), as[i]? = some a ∧ qs[i]? = some q ∧ H a = some (.tup [q.1, q.2]) := by
  obtain ⟨i, hi⟩ := List.mem_iff_getElem?.mp m
  obtain ⟨q, e1, e2⟩ := pairs_get h hi
  exact ⟨i, q, hi, e1, e2⟩
theorem refs_vals : ∀ as : List Addr, Vals (as.map V.ref) (as.map Value.ref)
  | [] => .nil
  | _ :: as => .cons rfl (refs_vals as)
theorem zip_get {α β : Type} : ∀ {xs : List α} {ys : List β} {i : Nat} {q : α × β}, (xs.zip ys)[i]? = some q → xs[i]? = some q.1 ∧ ys[i]? = some q.2
  | [], _, i, q, h => by simp at h
  | _ :: _, [], i, q, h => by simp at h
  | x :: xs, y :: ys, 0, q, h => by
    have e : (x, y) = q := by simpa using h
    subst e
    exact ⟨rfl, rfl⟩
  | x :: xs, y :: ys, i + 1, q, h => by
    have h' : (xs.zip ys)[i]? = some q := by simpa using h
    simpa using zip_get h'
theorem zip_laid {X : Cx} {pins : List (Addr × Obj)} {σ : L2.St} {H : Hp} {s : Shared} {h' : Heap} {tk : Nat} {xs ys : List V} {is js : List Value} {acc : Array Value} {c : Nat} {as : List Addr} {L : Addr} (I : Inv X pins σ H s) (hx : Vals xs is) (hy : Vals ys js) (hz : xs.length ≤ sizeLine) (above : s.heap.objs.size ≤ L)
    (keep : ∀ b o, s.heap.get? b = some o → h'.get? b = some o) (hL : h'.get? L = some { cls := .type "list", dict := none, data := .seq acc c, slots := #[] }) (len : as.length = min is.toArray.size js.toArray.size) (G : ZGo (fun i v => is.toArray[i]? = some v) (fun i v => js.toArray[i]? = some v) L h' as) (full : acc.toList = as.map Value.ref) :
    ∃ H' : Hp, Same H H' ∧ H L = none ∧ (∀ t ∈ as, H t = none) ∧ H' L = some (.lst (as.map V.ref)) ∧ PairsAt H' as (xs.zip ys) ∧ Inv X pins σ H' { s with heap := h', toks := tk } := by
  have l1 := hx.length
  have l2 := hy.length
  have lz : as.length = (xs.zip ys).length := by rw [List.length_zip, len]; simp only [List.size_toArray]; omega
  have nL : L ∉ as := fun m => Nat.lt_irrefl _ (G.hi _ m)
  have nd : as.Nodup := List.Pairwise.imp (fun {a b} (h : a < b) => Nat.ne_of_lt h) G.up
  have fresh : ∀ t ∈ as, H t = none := fun t m => I.hok.fresh (Nat.le_trans above (Nat.le_of_lt (G.hi t m)))
  have freshL : H L = none := I.hok.fresh above
  have at_ := putZ_at as (xs.zip ys) (upd H L (.lst (as.map V.ref))) lz nd
  have off : ∀ b, b ∉ as → b ≠ L → putZ (upd H L (.lst (as.map V.ref))) as (xs.zip ys) b = H b := fun b m n => by rw [putZ_off as _ _ m, upd_ne n]
  have low : ∀ b o, s.heap.get? b = some o → b ∉ as ∧ b ≠ L := fun b o e => ⟨fun m => absurd (Heap.lt_size e) (Nat.not_lt.mpr (Nat.le_trans above (Nat.le_of_lt (G.hi b m)))), Nat.ne_of_lt (Nat.lt_of_lt_of_le (Heap.lt_size e) above)⟩
  have kp : ∀ b u, H b = some u → (putZ (upd H L (.lst (as.map V.ref))) as (xs.zip ys)) b = some u := fun b u e => by
    rw [off b (fun m => by rw [fresh b m] at e; cases e) (fun m => by rw [m, freshL] at e; cases e)]
    exact e
  have eL : putZ (upd H L (.lst (as.map V.ref))) as (xs.zip ys) L = some (.lst (as.map V.ref)) := by rw [putZ_off as _ _ nL, upd_same]
  refine ⟨putZ (upd H L (.lst (as.map V.ref))) as (xs.zip ys), kp, freshL, fresh, eL, at_, ?_⟩
  refine I.call' (ch := []) rfl ⟨fun b o q _ _ _ => keep b o q, fun b o q _ _ _ => ⟨o.slots, keep b o q⟩, fun b o q n _ => ?_, fun b o q _ => ⟨o, keep b o q⟩, fun b us q => kp b _ q, fun b o u q => kp b _ q, fun b ps q => ⟨#[], by rw [kp b _ q]; simp⟩⟩ (fun b u q => ?_) I.bare fun b m => by simp at m
  · obtain ⟨m1, m2⟩ := low b o q
    rw [off b m1 m2]
    exact n
  · by_cases m : b ∈ as
    · obtain ⟨i, p, e1, e2, e3⟩ := pairs_mem at_ m
      rw [e3] at q
      cases q
      obtain ⟨x, y⟩ := p
      obtain ⟨f1, f2⟩ := zip_get e2
      obtain ⟨u, v, pu, pv, hT⟩ := G.each i b e1
      obtain ⟨u', hu, ru⟩ := hx.get f1
      obtain ⟨v', hv, rv⟩ := hy.get f2
      have eu : u' = u := by rw [List.getElem?_toArray, hu] at pu; exact Option.some.inj pu
      have ev : v' = v := by rw [List.getElem?_toArray, hv] at pv; exact Option.some.inj pv
      subst eu ev
      exact ⟨by show 2 ≤ sizeLine; decide, [u', v'], .cons ru (.cons rv .nil), ⟨_, hT, rfl, _, rfl⟩⟩
    · by_cases m2 : b = L
      · rw [m2] at q ⊢
        rw [eL] at q
        cases q
        refine ⟨by rw [List.length_map, lz, List.length_zip]; omega, acc.toList, c, by rw [full]; exact refs_vals as, ?_⟩
        rw [Array.toArray_toList]
        exact hL
      · rw [off b m m2] at q
        exact (I.hok b u q).stay (fun d v _ y => keep d v y) (fun d y => kp d _ y) fun d us y => kp d _ y
section
variable {X : Cx}
/-- two lists, or two tuples -/
def Seq2 (K : PySem.W.Frag) (H : Hp) (a b : Addr) (xs ys : List V) : Prop := (SqL K H a xs ∧ SqL K H b ys) ∨ (SqT K H a xs ∧ SqT K H b ys)
def tLZip (K : PySem.W.Frag) (ta : TA) : TE := fun σ H Q => ta σ H fun vs H1 => ∃ (a b : Addr) (xs ys : List V), vs = [.ref a, .ref b] ∧ Seq2 K H1 a b xs ys ∧
  ∀ (p : Addr) (ts : List Addr) (H' : Hp), Same H1 H' → H1 p = none → (∀ t ∈ ts, H1 t = none) → H' p = some (.lst (ts.map V.ref)) → PairsAt H' ts (xs.zip ys) → Q (.ref p) H'
theorem pe_listZip {e e2 : Expr} {ta : TA} {p p2 pos2 pos : Pos} (calm : X.calm = true) (gl : Gl X "list") (ml : X.mg "list" = none) (gz : Gl X "zip") (mz : X.mg "zip" = none) (ha : PA X [e, e2] ta)
    (st : starEach [.Call (.Name "zip" p2) [e, e2] [] pos2] X.env = (false, eval (.Call (.Name "zip" p2) [e, e2] [] pos2) X.env) :: starEach [] X.env := by rfl)
    (st2 : starEach [e, e2] X.env = (false, eval e X.env) :: starEach [e2] X.env := by rfl) (pl2 : (backTo pos2 (starEach [e2] X.env)).any (·.1) = false := by rfl) :
    PE X (.Call (.Name "list" p) [.Call (.Name "zip" p2) [e, e2] [] pos2] [] pos) (tLZip X.K ta) := by
  refine ⟨fun pins s σ H Q I h => ?_⟩
  refine wpAny_Call_Name_kw (ld_blt I gl ml (by decide +kernel : bootBuiltins "list" = some (.type "list")) ?_)
  refine PyProof.Rows.callWith_type1 ?_ st rfl
  rw [st]
  show wpAny _ _ (spliced ((false, eval (.Call (.Name "zip" p2) [e, e2] [] pos2) X.env) :: backTo pos (starEach [] X.env))) _ _ s
  refine Calls.spliced_cons ?_
  refine wpAny_Call_Name_kw (ld_blt I gz mz PyProof.Rows.boot_zip ?_)
  refine PyProof.Rows.callWith_type1 (thn (ha.run pos2 pins s σ H _ I h) fun us s1 ⟨vs, H1, I1, r1, q1⟩ => ?_) st2 pl2
  obtain ⟨a, b, xs, ys, ex, sq, q⟩ := q1
  subst ex
  cases r1 with
  | cons r rr =>
    cases rr with
    | cons r' rr =>
      cases rr
      cases r
      cases r'
      have clear := I1.ok.hd calm
      have fin : ∀ {is js : List Value} {St1 St2 : Nat → Heap → Prop} {h' : Heap}, Vals xs is → Vals ys js → xs.length ≤ sizeLine → ys.length ≤ sizeLine → a < s1.heap.objs.size → b < s1.heap.objs.size →
          Draws X.prog X.w X.A.in1.in1.in1 s1.heap.objs.size [s1.heap.objs.size, a] is.toArray.size (fun i v => is.toArray[i]? = some v) St1 → Draws X.prog X.w X.A.in1.in1.in1 (s1.heap.objs.size + 1) [s1.heap.objs.size + 1, b] js.toArray.size (fun i v => js.toArray[i]? = some v) St2 →
          IsZip h' (s1.heap.objs.size + 4) (s1.heap.objs.size + 2) (s1.heap.objs.size + 3) .none → IsPair h' (s1.heap.objs.size + 2) (.ref s1.heap.objs.size) (.ref (s1.heap.objs.size + 1)) → IsPair h' (s1.heap.objs.size + 3) .none .none → St1 0 h' → St2 0 h' → h'.objs.size = s1.heap.objs.size + 5 →
          (∀ c o, s1.heap.get? c = some o → h'.get? c = some o) → wpAny (model X.prog X.w) X.A (spliced (backTo pos (starEach [] X.env))) (fun vs s₁ => wpAny (model X.prog X.w) X.A (call (.type "list") (.ref (s1.heap.objs.size + 4) :: vs)) (EP X pins σ Q) X.xe s₁) X.xe { s1 with heap := h' } := by
        intro is js St1 St2 h' rx ry zx zy la lb D1 D2 hz hTI hTO t1 t2 size keep
        refine Calls.spliced_nil ?_
        have S := zip_sep2 (N := s1.heap.objs.size) (fp1 := [a]) (fp2 := [b]) (fun c m => by rw [List.mem_singleton.mp m]; exact la) (fun c m => by rw [List.mem_singleton.mp m]; exact lb)
        have lx := rx.length
        have W : ZLow (s1.heap.objs.size + 4) (s1.heap.objs.size + 2) (s1.heap.objs.size + 3) h'.objs.size [s1.heap.objs.size, a] [s1.heap.objs.size + 1, b] := by
          rw [size]
          refine ⟨show (s1.heap.objs.size + 4 : Nat) < s1.heap.objs.size + 5 by omega, show (s1.heap.objs.size + 2 : Nat) < s1.heap.objs.size + 5 by omega, show (s1.heap.objs.size + 3 : Nat) < s1.heap.objs.size + 5 by omega, fun c m => ?_, fun c m => ?_⟩
          · rcases List.mem_cons.mp m with e | m
            · rw [e]; exact show (s1.heap.objs.size : Nat) < s1.heap.objs.size + 5 by omega
            · rw [List.mem_singleton.mp m]; exact Nat.lt_of_lt_of_le la (Nat.le_add_right _ _)
          · rcases List.mem_cons.mp m with e | m
            · rw [e]; exact show (s1.heap.objs.size + 1 : Nat) < s1.heap.objs.size + 5 by omega
            · rw [List.mem_singleton.mp m]; exact Nat.lt_of_lt_of_le lb (Nat.le_add_right _ _)
        refine zl_call (s := { s1 with heap := h' }) S D1 D2 W (Nat.le_trans (Nat.min_le_left _ _) (by simp only [List.size_toArray]; omega)) ⟨hTI, t1, t2, .inl ⟨hz, _, _, hTO⟩⟩ fun h2 tk acc c as hk hL len G full => ?_
        have keep2 : ∀ b o, s1.heap.get? b = some o → h2.get? b = some o := fun d o x => by
          have l := Heap.lt_size x
          exact hk d o (Nat.ne_of_lt (Nat.lt_of_lt_of_le l (Nat.le_add_right _ _))) (Nat.ne_of_lt (Nat.lt_of_lt_of_le l (Nat.le_add_right _ _))) (Nat.ne_of_lt l) (Nat.ne_of_lt (Nat.lt_of_lt_of_le l (Nat.le_add_right _ _))) (keep d o x)
        obtain ⟨H', k1, k2, k3, k4, k5, J⟩ := zip_laid (tk := tk) I1 rx ry zx (by show s1.heap.objs.size ≤ h'.objs.size; rw [size]; exact Nat.le_add_right _ _) keep2 hL len G full
        exact ⟨.ref _, H', J, rfl, q _ as H' k1 k2 k3 k4 k5⟩
      rcases sq with ⟨hx, hy⟩ | ⟨hx, hy⟩
      · obtain ⟨is, rx, p1, zx⟩ := I1.list hx
        obtain ⟨js, ry, p2, zy⟩ := I1.list hy
        have d1 : Draws X.prog X.w X.A.in1.in1.in1 s1.heap.objs.size [s1.heap.objs.size, a] is.toArray.size (fun i v => is.toArray[i]? = some v) (fun j h => h.IsListIter s1.heap.objs.size a j ∧ h.IsList a is.toArray) := Draws.list (A := X.A.in1.in1.in1) clear _ a (Nat.ne_of_lt p1.lt) _
        have d2 : Draws X.prog X.w X.A.in1.in1.in1 (s1.heap.objs.size + 1) [s1.heap.objs.size + 1, b] js.toArray.size (fun i v => js.toArray[i]? = some v) (fun j h => h.IsListIter (s1.heap.objs.size + 1) b j ∧ h.IsList b js.toArray) := Draws.list (A := X.A.in1.in1.in1) clear _ b (Nat.ne_of_lt (Nat.lt_succ_of_lt p2.lt)) _
        refine call_zip_2 p1.isList p2.isList fun h' hz hTI hTO h1 h2 size keep => fin rx ry zx zy p1.lt p2.lt d1 d2 hz hTI hTO ⟨h1, p1.isList.at fun o e => keep _ o e⟩ ⟨h2, p2.isList.at fun o e => keep _ o e⟩ size keep
      · obtain ⟨is, rx, p1, zx⟩ := I1.tuple hx
        obtain ⟨js, ry, p2, zy⟩ := I1.tuple hy
        have la : a < s1.heap.objs.size := by obtain ⟨o1, ho1, _⟩ := id p1; exact Heap.lt_size ho1
        have lb : b < s1.heap.objs.size := by obtain ⟨o1, ho1, _⟩ := id p2; exact Heap.lt_size ho1
        have g1 : s1.heap.IsTuple a is.toArray := p1
        have g2 : s1.heap.IsTuple b js.toArray := p2
        have d1 : Draws X.prog X.w X.A.in1.in1.in1 s1.heap.objs.size [s1.heap.objs.size, a] is.toArray.size (fun i v => is.toArray[i]? = some v) (fun j h => h.IsTupleIter s1.heap.objs.size a j ∧ h.IsTuple a is.toArray) := draws_tup (A := X.A.in1.in1.in1) clear _ a (Nat.ne_of_lt la) _
        have d2 : Draws X.prog X.w X.A.in1.in1.in1 (s1.heap.objs.size + 1) [s1.heap.objs.size + 1, b] js.toArray.size (fun i v => js.toArray[i]? = some v) (fun j h => h.IsTupleIter (s1.heap.objs.size + 1) b j ∧ h.IsTuple b js.toArray) := draws_tup (A := X.A.in1.in1.in1) clear _ b (Nat.ne_of_lt (Nat.lt_succ_of_lt lb)) _
        refine RZ.call_zipT g1 g2 fun h' hz hTI hTO h1 h2 size keep => fin rx ry zx zy la lb d1 d2 hz hTI hTO ⟨h1, tup_at g1 fun o e => keep _ o e⟩ ⟨h2, tup_at g2 fun o e => keep _ o e⟩ size keep
/-! ### for .. in (x if c else y) -/
def iIf (tA : TT) (wa wb : TI) : TI := fun σ H R => tA σ H fun d H1 => if d = true then wa σ H1 R else wb σ H1 R
theorem pi_ifExp {c a b tg : Expr} {pos : Pos} {tA : TT} {wa wb : TI} (hc : PT X c tA) (ha : PI X tg a wa) (hb : PI X tg b wb) : PI X tg (.IfExp c a b pos) (iIf tA wa wb) := by
  refine ⟨fun pins s σ H R I h => ?_⟩
  refine wpAny_IfExp (thn (hc.run pins s σ H _ I h) fun d s1 ⟨H1, I1, q1⟩ => ?_)
  cases d with
  | true => exact ha.run pins s1 σ H1 R I1 q1
  | false => exact hb.run pins s1 σ H1 R I1 q1
/-! ### x not in a tuple of data -/
def rNotInDT (K : PySem.W.Frag) : R2 := fun x y Hh Qq => ∃ dx dxs, Dp K Hh x dx ∧ Dp K Hh y (.tuple dxs) ∧ SeqAt.shaped dx = true ∧ SeqAt.shaped (.tuple dxs) = true ∧ Qq (.bl (!dxs.any fun z => PyData.eqv z dx)) Hh
theorem op_notInDT (hu : X.A.units + 65 < cLine) : OpR X (compareOp .NotIn) (rNotInDT X.K) := by
  intro pns s σs Hh x y v u Qq Iv rlx rly h
  obtain ⟨dx, dxs, hdx, hdy, sx, sy, qq⟩ := h
  obtain ⟨as, rd1⟩ := Dp.reads Iv dx x v hdx rlx
  obtain ⟨bs, rd2⟩ := Dp.reads Iv (.tuple dxs) y u hdy rly
  exact SeqAt.notIn_tuple_reads rd2 rd1 (SeqAt.canLay_of_shaped sy) (SeqAt.canLay_of_shaped sx) (room_in_shaped sx hu) ⟨.bl _, Hh, Iv, rfl, qq⟩
end
end Rg
/-! t + u: a new tuple that is known to the object, so that its methods may be called -/
namespace Rg
open PySem PySem.Spec PyProof.Rows L2
section
variable {X : Cx}
def rCatF (K : PySem.W.Frag) : R2 := fun x y Hh Qq => ∃ a b xs ys, x = .ref a ∧ y = .ref b ∧ SqT K Hh a xs ∧ SqT K Hh b ys ∧ xs ≠ [] ∧ xs.length + ys.length ≤ sizeLine ∧
  (ys = [] → Qq (.ref a) Hh) ∧ (ys ≠ [] → ∀ p oj, Hh p = none → oj.dict = none → Qq (.ref p) (upd Hh p (.frz oj (.tup (xs ++ ys)))))
theorem op_catF : OpR X (binaryOp .Add) (rCatF X.K) := by
  intro pns s σs Hh x y v u Qq Iv rx ry h
  obtain ⟨a, b, xs, ys, rfl, rfl, ha, hb, hx, hz, q1, q2⟩ := h
  cases rx
  cases ry
  obtain ⟨its, r1, p1, _⟩ := Iv.tuple ha
  obtain ⟨its2, r2, p2, _⟩ := Iv.tuple hb
  refine HT.cat_tup p1 p2 (fun z => hx (r1.nil_iff.mp z)) (fun z => ⟨.ref a, Hh, Iv, rfl, q1 (r2.nil_iff.mp z)⟩) (fun z => ?_) (by rw [← r1.length, ← r2.length]; exact hz)
  refine ⟨.ref s.heap.objs.size, _, Iv.laid (t' := s.toks) (o := .frz { cls := .type "tuple", data := .seq (its ++ its2).toArray } (.tup (xs ++ ys))) (fun _ _ q => Heap.get?_push_of_some _ q) (Nat.le_refl _) ?_, rfl, q2 (fun w => z (r2.nil_iff.mpr w)) _ _ (Iv.hok.fresh (Nat.le_refl _)) rfl⟩
  exact ⟨Heap.get?_push_size _ rfl, by rw [List.length_append]; exact hz, _, r1.append r2, IsTup.new _ _⟩
end
end Rg
/-! x.__class__.__name__, x an instance of an own class -/
namespace Rg
open PySem PySem.Spec PyProof.Rows L2 Builtin Builtin.ObjectAttr Builtin.Getset_descriptor
/-- the class at C is called nm, and its name was read before the call -/
structure NamC (K : PySem.W.Frag) (C : Addr) (nm : Str) : Prop where
  rd : PySem.W.readsIn K C (.type "type") = true
  at_ : PySem.W.findCls K (.ref C) (.type "type") "__name__" = some (.get (.builtin "getset_descriptor.__get__") (.builtin "type.__name__") (.ref C) (.type "type"))
  ty : PySem.W.typeIn K (.ref C) = some (.type "type")
  sl : ∃ o t, K.lookup C = some o ∧ o.slots[2]? = some (some (.str nm t))
section
open PySem.W
variable {prog : Program} {w : World} {A : Around} {E : Value → Shared → Prop} {s : Shared} {K : Frag} {R : Result → Shared → Prop} {C : Addr} {o : Obj} {v : Value}
theorem name_get {tp : Value} (X : K.In s.heap) (ht : typeIn K (.ref C) = some (.type "type")) (lk : K.lookup C = some o) (hv : o.slots[2]? = some (some v)) (h : R (.ok (.ret v)) s) :
    codeAny (model prog w) A (.call (.builtin "getset_descriptor.__get__") ⟨[.builtin "type.__name__", .ref C, tp], []⟩) R s := by
  obtain ⟨hh, g, dr, t, os⟩ := s
  have L0 : Looks (model prog w) hh (typeOf (.ref C)) (.type "type") := looks_typeIn X ht
  have L1 : Looks (model prog w) hh (isSubtype (.type "type") (.type "type")) true := Looks.of_pure (by rw [isSubtype_type]; kernel_rfl)
  refine codeAny_call_builtin KF.slot_gs.plain KF.entry_gs (KF.slot_gs.check _ _ _ _ _ _ _ _ ktyn_type (KF.args_gs _ _ _) ?_)
  unfold Builtin.«getset_descriptor.__get__» descrGet
  rw [dga_obj]
  refine wpAny_bind (wpAny_pure ?_)
  unfold descrGetter descrCheckInstance descrNameAndClass isInstance
  simp only [ktyn_owner]
  repeat lk
  refine ⟨Code.quiet_builtin _ (by decide +kernel), codeAny_builtin ktyn_entry ?_⟩
  unfold Builtin.«type.__name__» keptObject PySem.slotAt
  dsimp only
  refine wpAny_bind (wpAny_bind (wpAny_loadPart (X _ _ lk) (wpAny_pure ?_)))
  rw [hv]
  exact wpAny_pure h
end
section
variable {X : Cx} {e : Expr} {ta : TE} {p1 p2 : Pos}
theorem name_ok {pins : List (Addr × Obj)} {σ : L2.St} {H : Hp} {s : Shared} {b : Bool} {A : Around} {E : Value → Shared → Prop} {Q : Value → Shared → Prop} {C : Addr} {nm : Str} (I : Inv X pins σ H s) (c : NamC X.K C nm)
    (h : ∀ u s', Inv X pins σ H s' → RelV (.str nm) u → Q u s') : wpAny (model X.prog X.w) A (getAttr (.ref C) "__name__" b) Q E s := by
  obtain ⟨o, t, lk, hs⟩ := c.sl
  refine PySem.W.cls_bind I.kIn c.rd c.at_ ?_
  refine wpAny_call (name_get (s := { s with toks := s.toks + 1 }) I.kIn c.ty lk hs (PySem.W.handed_on rfl ?_))
  exact h _ _ (I.tok _) ⟨_, rfl⟩
/-- e.__class__.__name__, e an instance of a class of the program -/
def tCName (K : PySem.W.Frag) (ta : TE) : TE := fun σ H Q => ta σ H fun x H1 => ∃ a C dx fs nm, x = .ref a ∧ H1 a = some (.ins C dx fs) ∧ C8.InsC K C ∧ NamC K C nm ∧ Q (.str nm) H1
theorem pe_cname (he : PE X e ta) (hb : attributeBase e "__class__" X.env (eval e X.env) = eval e X.env := by rfl)
    (hb2 : attributeBase (.Attribute e "__class__" p1) "__name__" X.env (eval (.Attribute e "__class__" p1) X.env) = eval (.Attribute e "__class__" p1) X.env := by rfl) :
    PE X (.Attribute (.Attribute e "__class__" p1) "__name__" p2) (tCName X.K ta) := by
  refine ⟨fun pins s σ H Q I h => ?_⟩
  refine attr_of hb2 (attr_of hb (thn (he.run pins s σ H _ I h) fun u s1 ⟨x, H1, I1, rx, a, C, dx, fs, nm, ex, ea, ic, nc, q⟩ => ?_))
  subst ex
  obtain rfl : u = Value.ref a := rx
  obtain ⟨mA, O, _⟩ := ins_get I1.hok ea
  obtain ⟨od, J, _⟩ := O.look
  obtain ⟨m, hF⟩ := I1.fr
  refine PySem.W.get_class hF I1.ok.mod.kin J (ic.cl.get _) ic.cl.hd ic.ha ic.hn ic.htk ic.hm ?_
  exact name_ok (I1.tok _) nc fun u' s2 I2 ru => ⟨.str nm, H1, I2, ru, q⟩
end
end Rg
/-! def __init__(self, ..): super().__init__(e, ..); .. , a def that closes over __class__ alone -/
namespace Rg
open PySem PySem.Spec PyProof.Rows L2 NdefX ClX
/-- what of the text such a def must have: f its object, D the class that it stands in, cc the cell of __class__ -/
structure SupAt (P : Program) (K : PySem.W.Frag) (mg : Str → Option Value) (F : NF) (f D cc : Addr) : Prop where
  cl : F.cl = [(("__class__" : Str), cc)]
  self : ∃ ar, (F.params.posonlyargs ++ F.params.args).head? = some ar ∧ ar.arg = "self"
  cod : ∃ ccl cdd vs ccs file tf, K.lookup F.c = some ⟨ccl, cdd, .fields vs, ccs⟩ ∧ vs[2]? = some (.str file tf) ∧ ((P.main.file : Str) == file) = true
  cell : ∃ kcl kcd kcs, K.lookup cc = some ⟨kcl, kcd, .cell (some (.ref D)), kcs⟩
  clD : ∃ cd, PySem.W.clsIn K D = some cd
  sup : mg "super" = none
  top : (P.main.scope.names.lookup ("super" : Str)).isSome = false
  ks : F.scope.names.lookup ("super" : Str) = some .globalImplicit
/-- the instance's class C, D above it or C itself, and the __init__ that stands behind D in its row -/
structure SupTo (K : PySem.W.Frag) (C D f2 : Addr) : Prop where
  sub : PySem.W.mroIn K C (.ref D) = some true
  th : PySem.W.nsIn K cStatics "thirdparty.any" = some none
  to : PySem.W.ks_superIn K C D "__init__" = some (some (.ref f2))
  ty : PySem.W.typeIn K (.ref f2) = some (.type "function")
  fn : PySem.W.fnIn K f2 = true
section
variable {X : Cx} {pins : List (Addr × Obj)} {σ : L2.St} {H : Hp} {s : Shared} {a D C g : Addr} {A : Around} {E : Value → Shared → Prop}
theorem run_im {CX : CXT} {k : Nat} {q : Addr} {sp : Sp} {Ee : XK} {Q : VK} {us : List Value} {vs : List V} (F : FnR X.prog X.w X.K X.mg X.base CX k g sp) (hr : Room k X.A) (hx : Passes CX X Ee) (I : Inv X ((q, PySem.W.methodObj (.ref g) (.ref a)) :: pins) σ H s)
    (r : Vals vs us) (h : sp (.ref a :: vs) H Q Ee) : wpAny (model X.prog X.w) X.A (call (.ref q) us) (EP X pins σ Q) X.xe s := by
  have z : wpAny (model X.prog X.w) X.A (call (.ref q) us) (EP X ((q, PySem.W.methodObj (.ref g) (.ref a)) :: pins) σ Q) X.xe s :=
    wpAny_call (PySem.W.method_call (pin_at I) (run_fnR (us := .ref a :: us) (vs := .ref a :: vs) F hr hx I (.cons rfl r) h))
  exact thn z fun _ _ y => unpinE y
theorem callwith_im {pos : Pos} {e : Expr} {es : List Expr} {q : Addr} {Q : Value → Shared → Prop} {E : Value → Shared → Prop} {A : Around} (I : Inv X ((q, PySem.W.methodObj (.ref g) (.ref a)) :: pins) σ H s) (hb : X.base.get? q = none) (hf : PySem.W.fnIn X.K g = true)
    (h : wpAny (model X.prog X.w) A (spliced (backTo pos (starEach (e :: es) X.env))) (fun vs s₁ => PySem.W.MethP X.K q g (.ref a) s₁.heap ∧ wpAny (model X.prog X.w) A (call (.ref q) vs) Q E s₁) E s)
    (he : starEach (e :: es) X.env = (false, eval e X.env) :: starEach es X.env) (hpl : (backTo pos (starEach es X.env)).any (·.1) = false) :
    wpAny (model X.prog X.w) A (callWith pos (.ref q) [] (backTo pos (starEach (e :: es) X.env)) []) Q E s := by
  have hq := pin_at I
  have hL : q ≠ X.env.locals := (I.pin (q, PySem.W.methodObj (.ref g) (.ref a)) (List.mem_append_right _ List.mem_cons_self)).2.2.1
  exact PySem.W.callWith_M (K := X.K) (h₀ := X.base) (first := []) I.ok.mod.kin (news_at hL hb hq) List.mem_cons_self hf h he hpl
/-- getMethod of super's object -/
theorem getmethsup_ok {pl : Sem Bool} {Q : Value × List Value → Shared → Prop} {so : Addr} {C dx : Addr} {fs : List (Str × V)} (I : Inv X ((so, PySem.W.ks_superObj D a C) :: pins) σ H s) (ea : H a = some (.ins C dx fs)) (cl : Cls X.K C) (t : SupTo X.K C D g)
    (h : ∀ s', Inv X ((s.heap.objs.size, PySem.W.methodObj (.ref g) (.ref a)) :: pins) σ H s' → Q (.ref s.heap.objs.size, []) s') : wpAny (model X.prog X.w) A (getMethod (.ref so) "__init__" pl) Q E s := by
  have hso := pin_at I
  have KX := I.kIn
  obtain ⟨mA, O, _⟩ := ins_get I.hok ea
  obtain ⟨od, J, _⟩ := O.look
  have I0 := unpin I
  obtain ⟨cd, hc⟩ : ∃ cd, PySem.W.clsIn X.K C = some cd := by
    obtain ⟨cd, hc, _⟩ := PySem.W.any_some cl.hd
    exact ⟨cd, hc⟩
  have hm := t.to
  unfold PySem.W.ks_superIn at hm
  rw [hc] at hm
  obtain ⟨of, hof, hofc⟩ : ∃ of, s.heap.get? g = some of ∧ of.cls = .type "function" := by
    have ht' : (X.K.lookup g).map (·.cls) = some (.type "function") := t.ty
    cases z : X.K.lookup g with
    | none => rw [z] at ht'; cases ht'
    | some of => rw [z] at ht'; exact ⟨of, KX _ _ z, Option.some.inj ht'⟩
  have met : Inv X ((s.heap.objs.size, PySem.W.methodObj (.ref g) (.ref a)) :: pins) σ H { s with heap := s.heap.push (PySem.W.methodObj (.ref g) (.ref a)), toks := s.toks + 1 } :=
    pin_new I0 (fun _ _ z => Heap.get?_push_of_some _ z) (Nat.le_refl _) (Heap.get?_push_size s.heap rfl) (fun v z => nomatch z)
  obtain ⟨hh, gs, d, tt, os⟩ := s
  refine ks_wpAny_getMethod_super hso (PySem.W.looks_opaque KX t.th) (l₀ := cd.mro) ?_ rfl KX hm hof hofc (PySem.W.ks_ne KX J hc) (by decide) ?_
  · exact fun A Q E s k q => wpAny_bind ((PySem.W.looks_clsIn KX hc) A _ E s k (wpAny_pure q))
  · exact h _ met
end
section
variable {CX CX2 : CXT} {P : Program} {w : World} {K : PySem.W.Frag} {mg : Str → Option Value} {base : Heap} {N ps : List Str} {F : NF} {f D cc f2 : Addr} {k : Nat} {sp sp2 : Sp} {fd : FuncData}
  {dV kV doc pm ct oc : Value} {an od : Option Addr} {osl : Array (Option Value)} {p0 p1 p2 apos pos : Pos} {e : Expr} {es : List Expr} {rest : List Stmt}
theorem fn_super (lk : K.lookup f = some ⟨oc, od, .func (PySem.W.fnX F.name F.qual F.params F.body F.scope F.cl dV kV doc pm an (.ref F.c) ct), osl⟩) (hcd : PySem.W.codeIn K (.ref F.c) F.qual = true)
    (S : NScope N (("self" : Str) :: ps) ["__class__"] F.scope) (T : SupAt P K mg F f D cc)
    (hbody : F.body = .Expr (.Call (.Attribute (.Call (.Name "super" p0) [] [] p1) "__init__" apos) (e :: es) [] pos) p2 :: rest)
    (len : ∀ vs H Q E, sp vs H Q E → vs.length = (("self" : Str) :: ps).length)
    (hst : ∀ env, starEach (e :: es) env = (false, eval e env) :: starEach es env) (hpl : ∀ env, (backTo pos (starEach es env)).any (·.1) = false)
    (hev : ∀ (env : Env), ∃ pl, eval (.Call (.Attribute (.Call (.Name "super" p0) [] [] p1) "__init__" apos) (e :: es) [] pos) env = (do
      let ov ← attributeBase (.Call (.Name "super" p0) [] [] p1) "__init__" env (eval (.Call (.Name "super" p0) [] [] p1) env)
      standAt apos.atName
      let (f, first) ← holding [ov] (getMethod ov "__init__" pl)
      callWith pos f first (backTo pos (starEach (e :: es) env)) []))
    (hsw : ∀ f s, swapsWith (.Call (.Attribute (.Call (.Name "super" p0) [] [] p1) "__init__" apos) (e :: es) [] pos) none p2.line (envF F f s) = pure false) (hni : ∀ f s, interactive (envF F f s) = false)
    (hb : ∀ (A : Around) (outer : List Env) (s : Shared) (H : Hp) (vs : List V) (Q : VK) (Ee : XK), Room k (A.deeper (envF F f s.heap.objs.size)) → sp vs H Q Ee →
      ∃ (a C dx : Addr) (fs : List (Str × V)) (vs' : List V) (ta : TA) (t : TS) (E2 : XK), vs = .ref a :: vs' ∧ H a = some (.ins C dx fs) ∧ Cls K C ∧ SupTo K C D f2 ∧ FnR P w K mg base CX2 k f2 sp2 ∧ Passes CX2 (ncx CX P w K mg base N F f A outer s H Ee) E2 ∧
        PA (ncx CX P w K mg base N F f A outer s H Ee) (e :: es) ta ∧ PSs (ncx CX P w K mg base N F f A outer s H Ee) rest t ∧
        ta (startF N vs [some (.ref D)]) H fun us H1 => sp2 (.ref a :: us) H1 (fun _ H2 => t { nx := fun _ H' => Q .non H', rt := Q } (startF N vs [some (.ref D)]) H2) E2) :
    FnOk P w K mg base CX (k + 1) f (PySem.W.fnX F.name F.qual F.params F.body F.scope F.cl dV kV doc pm an (.ref F.c) ct) (("self" : Str) :: ps) sp := by
  refine ⟨len, fun A outer s H args us vs Q Ee hr e0 hbind r hsp => ?_⟩
  have hl := len _ _ _ _ hsp
  have KX : K.In s.heap := e0.mod.kin.keeps fun b o z => (e0.bs b o z).1
  have lim : s.heap.NoLimit := e0.mod.nolimit.keeps fun b o z => (e0.bs b o z).1
  refine codeAny_call_function hr.depth (KX _ _ lk) rfl S.co S.gen rfl (PySem.W.codeRec_of KX hcd) (hbind _ _ _ _ ?_)
  refine wpAny_newFunctionEnv S.nocell (fun ⟨n, _⟩ hy => S.par n (List.of_mem_zip hy).1) (fun h₁ hns hsb => ⟨lim.fresh _ hsb, ?_⟩) S.kind
  show codeAny _ _ (.func F.body (envF F f s.heap.objs.size)) _ _
  have kp : ∀ b o, s.heap.get? b = some o → h₁.get? b = some o := fun b o z => hsb.extBut b o (Nat.ne_of_lt (Heap.lt_size z)) (Heap.get?_push_of_some _ z)
  obtain ⟨a, C, dx, fs, vs', ta, t, E2, ev, ea, cls, to, F2, px, ha, ht, hq⟩ := hb A outer s H vs Q Ee (hr.deeper _) hsp
  obtain ⟨kcl, kcd, kcs, hcell⟩ := T.cell
  have hcellH : H cc = none := (e0.bs cc _ (e0.mod.kin _ _ hcell)).2
  have CA : CellsAt F.cl ["__class__"] [some (.ref D)] s.heap H := by
    rw [T.cl]
    refine ⟨rfl, fun y c z => ?_, fun x y c z1 z2 => ?_, fun i y z => ?_⟩
    · have : c = cc := by
        simp only [List.lookup] at z
        split at z <;> cases z
        rfl
      subst this
      exact ⟨hcellH, _, _, KX _ _ hcell, rfl⟩
    · simp only [List.lookup] at z1 z2
      split at z1
      · rename_i q1
        split at z2
        · rename_i q2
          rw [beq_iff_eq.mp q1, beq_iff_eq.mp q2]
        · cases z2
      · cases z1
    · match i, z with
      | 0, z =>
        have : y = "__class__" := (Option.some.inj z).symm
        subst this
        exact ⟨cc, by simp [List.lookup], fun v hv => ⟨.ref D, by cases hv; rfl, _, KX _ _ hcell, rfl⟩⟩
      | i + 1, z => simp at z
  have I : Inv (ncx CX P w K mg base N F f A outer s H Ee) [] (startF N vs [some (.ref D)]) H { s with heap := h₁, toks := s.toks + ((("self" : Str) :: ps).zip us).length } := inv_startN S hr.hd e0 hl r CA hns kp
  have fin : ∀ {σ' : L2.St} {H' : Hp} {v : V} {u : Value} {s' : Shared}, Inv (ncx CX P w K mg base N F f A outer s H Ee) [] σ' H' s' → L2.RelV v u → Q v H' → CE outer P w H s Q u s' :=
    fun {σ' H' v u s'} J rv q => ⟨v, H', J.os, J.bare, J.base, J.hok, rv, q⟩
  refine ks_codeAny_funcAt ?_
  rw [hbody]
  refine ks_wpAt_execs_cons (ks_wpAt_Expr_any ?_ (hni _ _) (hsw _ _))
  obtain ⟨pl, he⟩ := hev (envF F f s.heap.objs.size)
  refine ks_wpAt_MethodCall (pl := pl) ?_ he
  obtain ⟨ar, har, hself⟩ := T.self
  obtain ⟨ccl, cdd, cvs, ccs, file, tf, hcod, hcvs, hfile⟩ := T.cod
  obtain ⟨cdD, hcD⟩ := T.clD
  obtain ⟨oD, hD1, hD2⟩ : ∃ oD, h₁.get? D = some oD ∧ oD.data = .cls cdD := by
    unfold PySem.W.clsIn at hcD
    split at hcD
    · rename_i c d cd' sl ho
      cases hcD
      exact ⟨_, kp _ _ (KX _ _ ho), rfl⟩
    · cases hcD
  have hkc : F.scope.names.lookup ("__class__" : Str) = some .free := S.frk _ List.mem_cons_self
  have hcl : F.cl.lookup ("__class__" : Str) = some cc := by rw [T.cl]; simp [List.lookup]
  have hka : F.scope.names.lookup ar.arg = some .local := by rw [hself]; exact S.par _ List.mem_cons_self
  obtain ⟨mA, O, _⟩ := ins_get I.hok ea
  obtain ⟨od', J, _⟩ := O.look
  refine ks_wpAt_super_base (env := envF F f s.heap.objs.size) T.ks hkc (by decide) rfl (kp _ _ (KX _ _ lk)) rfl har rfl (kp _ _ (KX _ _ hcod)) rfl hcvs hfile T.top ?_
  obtain ⟨mb, hmb1, hmb2⟩ := e0.mod.blt
  have bk : ∀ b o, base.get? b = some o → h₁.get? b = some o := fun b o z => kp _ _ (e0.bs b o z).1
  refine PySem.W.ks_loadName_global S.kind T.ks (Calls.loadGlobal_builtin (env := envF F f s.heap.objs.size) (e0.mod.glob.keeps bk) T.sup (hmb1.keeps bk) ((hmb2 _ (by decide)).trans rfl) ⟨rfl, ?_⟩)
  refine wpAny_loadName_free S.kind hkc hcl ⟨_, kp _ _ (KX _ _ hcell), rfl⟩ ?_
  obtain ⟨u1, us', eu, ru⟩ : ∃ u1 us', us = u1 :: us' ∧ u1 = Value.ref a := by
    subst ev
    cases r with
    | cons h1 _ => exact ⟨_, _, rfl, h1⟩
  subst ru
  have hv : ((("self" : Str) :: ps).zip us).reverse.lookup ar.arg = some (Value.ref a) := by
    have ndP : ((("self" : Str) :: ps)).Nodup := by
      have q := S.nd.sublist (List.take_sublist ((("self" : Str) :: ps).length + [("__class__" : Str)].length) N)
      rw [S.pre] at q
      exact (List.nodup_append.mp q).1
    rw [hself, eu]
    exact zip_look (i := 0) ndP rfl rfl
  refine wpAny_loadName_local S.kind hka hns hv ?_
  refine ks_wpAny_isType_cls hD1 hD2 ⟨rfl, ?_⟩
  refine ks_wpAny_call_super hD1 hD2 J.at_ J.cls (fun c z => ?_) (PySem.W.looks_mroIn I.kIn to.sub) (fun h' z k => ?_)
  · have := J.no
    unfold PySem.W.notCls at this
    rw [z] at this
    exact Bool.noConfusion this
  have I1 := pin_new (t' := s.toks + (((("self" : Str) :: ps).zip us).length)) I k (Nat.le_refl _) z (fun v q => nomatch q)
  refine getmethsup_ok I1 ea cls to fun s2 I2 => ?_
  refine callwith_im I2 (base_none I1 (Nat.le_refl _)) to.fn (thn (ha.run pos _ s2 _ H _ I2 hq) fun us2 s3 ⟨vs2, H2, I3, rv, q2⟩ => ⟨⟨pin_at I3, I3.kIn⟩, ?_⟩) (hst _) (hpl _)
  refine thn (run_im F2 (hr.deeper _) px I3 rv q2) fun u4 s4 ⟨v4, H4, I4, r4, q4⟩ => ?_
  refine wpAt_of_wpAny (wpAny_mono (ht.run [] s4 _ _ _ I4 q4) (fun fl s' hs => ?_) fun e s' hs => hs)
  cases fl with
  | ret u =>
    obtain ⟨v, σ', H', J, rv, q⟩ := hs
    exact fin J rv q
  | next =>
    obtain ⟨σ', H', J, q⟩ := hs
    exact fin (v := V.non) (u := Value.none) J rfl q
  | brk =>
    obtain ⟨_, _, _, q⟩ := hs
    exact False.elim q
  | cont =>
    obtain ⟨_, _, _, q⟩ := hs
    exact False.elim q
end
end Rg
/-! the truth of an own instance with __bool__ -/
namespace Rg
open PySem PySem.Spec PyProof.Rows L2
section
variable {X : Cx} {k : Nat} {f : Addr} {fd : FuncData} {sp : Sp} {e : Expr} {ta : TE}
def rTruO (K : PySem.W.Frag) (f : Addr) (sp : Sp) : V → Hp → (Bool → Hp → Prop) → Prop := fun x H Q => ∃ a C dx fs, x = .ref a ∧ H a = some (.ins C dx fs) ∧ PySem.W.findIn K (.ref C) "__bool__" = some (some (.ref f)) ∧ PySem.W.isFn K (.ref f) = true ∧
  sp [.ref a] H (fun v H' => ∃ b, v = .bl b ∧ Q b H') E0
theorem tru_insO {pns : List (Addr × Obj)} {σs : L2.St} {Hh : Hp} {s : Shared} {x : V} {u : Value} {Q : Bool → Hp → Prop} (F : FnOk X.prog X.w X.K X.mg X.base CX0 k f fd ["self"] sp) (hr : Room k X.A) (hb : Binds X.K fd ["self"] [])
    (Iv : Inv X pns σs Hh s) (rx : RelV x u) (h : rTruO X.K f sp x Hh Q) : wpAny (model X.prog X.w) X.A (truthy u) (TP X pns σs Q) X.xe s := by
  obtain ⟨a, C, dx, fs, rfl, ha, hs, hf, qq⟩ := h
  obtain rfl : u = Value.ref a := rx
  obtain ⟨mA, O, _⟩ := ins_get Iv.hok ha
  obtain ⟨od, J, _⟩ := O.look
  obtain ⟨m, hF⟩ := Iv.fr
  refine PySem.W.truthy_K hF Iv.ok.mod.kin J hs hf ?_
  have hlst : ([Value.ref a] ++ []).length = (["self"] : List Str).length := rfl
  refine wpAny_call (codeAny_mono (F.run X.A X.stack s Hh ⟨[.ref a], []⟩ [.ref a] [.ref a] _ E0 hr Iv.env0 (hb s [.ref a] Iv.kIn hlst) (.cons rfl .nil) qq) fun r s' hsq => ?_)
  cases r with
  | error e => exact hsq.elim
  | ok fl =>
    cases fl with
    | ret w =>
      obtain ⟨v, H', I3, rlv, b, ev, q3⟩ := Iv.after hsq
      subst ev
      cases rlv
      exact ⟨H', I3, q3⟩
    | next => exact False.elim hsq
    | brk => exact False.elim hsq
    | cont => exact False.elim hsq
theorem pt_bool (F : FnOk X.prog X.w X.K X.mg X.base CX0 k f fd ["self"] sp) (hr : Room k X.A) (hb : Binds X.K fd ["self"] []) (ha : PE X e ta)
    (he : ∀ whole, isTrue e X.env whole = (do let v ← whole; standAt e.pos; holding [v] (truthy v)) := by intro _; rfl) : PT X e (fun σ H Q => ta σ H fun x H' => rTruO X.K f sp x H' Q) := by
  refine ⟨fun pins s σ H Q I h => ?_⟩
  exact isTrue_plain (thn (ha.run pins s σ H _ I h) fun v s1 ⟨x, H1, I1, r1, q1⟩ => tru_insO F hr hb I1 r1 q1) (he _)
end
end Rg
namespace Rg
open PySem PySem.Spec PyProof.Rows L2
/-! ### min of a tuple of ints -/
section
variable {prog : Program} {w : World} {A : Around} {E : Value → Shared → Prop} {s : Shared} {l : Addr} {vls : List Value} {nms : List Int} {Qq : Value → Shared → Prop}
theorem min_intTup {vxs : Array (Int × Tok)} (hcal : A.handled = none) (ht : s.heap.IsTuple l (intItems vxs)) (hpos : 0 < vxs.size)
    (h : ∀ v h' tkn, (intItems vxs)[argBest (fun i j => decide (numAt vxs i < numAt vxs j)) (vxs.size - 1)]? = some v → (∀ b oj, s.heap.get? b = some oj → h'.get? b = some oj) → Qq v { s with heap := h', toks := tkn }) :
    wpAny (model prog w) A (call (.builtin "min") [.ref l]) Qq E s := by
  obtain ⟨oj, hob, hc, n, hd⟩ := id ht
  have hI : l ≠ s.heap.objs.size := Nat.ne_of_lt (Heap.lt_size hob)
  refine call_min_walk (wpAny_pyIter_tuple ht ?_)
  refine ⟨s.heap.objs.size, _, _, _, _, _, _, rfl, Walks.tuple (A := A.in1) hcal _ l hI (intItems vxs), ⟨⟨_, Heap.get?_push_size _ rfl, rfl, rfl⟩, ht.at fun oj e => Heap.get?_push_of_some _ e⟩, fun b hb => ?_, by simpa [intItems] using hpos, CmpOf.ints_lt (numAt vxs) (fun _ _ => intItems_at), fun v h' tkn hP hk => ?_⟩
  · rcases List.mem_cons.mp hb with rfl | hb
    · exact Heap.lt_size (Heap.get?_push_size _ rfl)
    · obtain rfl := List.mem_singleton.mp hb
      exact Heap.lt_size (Heap.get?_push_of_some _ hob)
  · refine h v h' tkn (by simpa [intItems] using hP) fun b oj e => ?_
    exact hk b oj (fun hb => absurd (Heap.lt_size e) ((List.mem_singleton.mp hb) ▸ Nat.lt_irrefl _)) (Heap.get?_push_of_some _ e)
theorem minT_raw (hcal : A.handled = none) (hlst : s.heap.IsTuple l vls.toArray) (hint : IntsAre vls nms) (hpos : 0 < nms.length)
    (h : ∀ h' tkn M t', (∀ b oj, s.heap.get? b = some oj → h'.get? b = some oj) → M ∈ nms → (∀ a, a ∈ nms → M ≤ a) → Qq (.int M t') { s with heap := h', toks := tkn }) : wpAny (model prog w) A (call (.builtin "min") [.ref l]) Qq E s := by
  obtain ⟨vxs, e⟩ := hint.allInts.items
  have hnn : numsOf (intItems vxs).toList = nms := by rw [← e]; exact hint.numsOf
  rw [nums_intItems] at hnn
  subst hnn
  rw [e] at hlst
  have hsz : 0 < vxs.size := by simpa using hpos
  refine min_intTup hcal hlst hsz fun v h' tkn hval hk => ?_
  obtain ⟨t, rfl⟩ := intItems_at hval
  obtain ⟨hh1, hh2⟩ := argBest_lt (numAt vxs) (vxs.size - 1)
  refine h h' tkn _ t hk ?_ fun a ha => ?_
  · rw [numAt_eq]; exact PySem.getD_mem (by rw [List.length_map, Array.length_toList]; omega)
  · obtain ⟨j, hjj, rfl⟩ := mem_getD ha
    rw [List.length_map, Array.length_toList] at hjj
    rw [← numAt_eq]; exact hh2 j (by omega)
end
section
variable {X : Cx}
def rMinT (K : PySem.W.Frag) : List V → Hp → VK → Prop := fun vs Hh Qq => ∃ (a : Addr) (nms : List Int), vs = [V.ref a] ∧ SqT K Hh a (nms.map V.int) ∧ 0 < nms.length ∧ ∀ m, m ∈ nms → (∀ y, y ∈ nms → m ≤ y) → Qq (.int m) Hh
theorem cr_minT (hc : X.calm = true) : CallR X (.builtin "min") (rMinT X.K) := by
  intro pns s σs Hh vs uvs Qq Iv r h
  obtain ⟨a, nms, rfl, hs, hpos, qq⟩ := h
  obtain ⟨vls, rlv, hlst, _⟩ := Iv.tuple hs
  rw [Vals.ref1 r]
  exact minT_raw (Iv.ok.hd hc) (isTuple_of hlst) rlv.ints hpos fun h' tkn m t' hk hh1 hh2 => ⟨.int _, Hh, Iv.kept hk, ⟨_, rfl⟩, qq m hh1 hh2⟩
end
end Rg
namespace K
open PySem L2 Rg
open Evl (pss_cut)
def top (i : Nat) : Stmt := PySem.Challenge.pw_ringbars_k61_how_far_a_length_may_change.main.body.getD i (.Pass ⟨0, 0, 0, 0⟩)
abbrev sWall : Stmt := top 0
abbrev sFixed : Stmt := top 2
abbrev sPaperInit : Stmt := inClass (top 3) 0
abbrev sPaperEq : Stmt := inClass (top 3) 1
abbrev sPaperBool : Stmt := inClass (top 3) 2
abbrev sDenialEq : Stmt := inClass (top 4) 0
abbrev sDenialBool : Stmt := inClass (top 4) 1
abbrev sAreEqual : Stmt := top 5
abbrev sIsCalled : Stmt := top 6
abbrev sIsInteger : Stmt := top 8
abbrev sIsWithin : Stmt := top 9
abbrev sIsList : Stmt := top 10
abbrev sIsNumbers : Stmt := top 11
abbrev sIsLot : Stmt := top 12
abbrev sIsExactly : Stmt := top 13
abbrev sFirstTwice : Stmt := top 14
abbrev sTwiceAt : Stmt := top 15
abbrev sExcessOf : Stmt := top 17
abbrev sSortBy : Stmt := top 18
abbrev sBadRingInit : Stmt := inClass (top 21) 0
abbrev sBadLotInit : Stmt := inClass (top 22) 0
abbrev sBadNumberInit : Stmt := inClass (top 23) 0
abbrev sMisfitInit : Stmt := inClass (top 24) 0
abbrev sMissingInit : Stmt := inClass (top 25) 0
abbrev sTwiceInit : Stmt := inClass (top 27) 0
abbrev sLevelInit : Stmt := inClass (top 28) 0
abbrev sTooManyInit : Stmt := inClass (top 29) 0
abbrev sBadTextInit : Stmt := inClass (top 30) 0
abbrev sWantNumber : Stmt := top 32
abbrev sWantBar : Stmt := top 33
abbrev sWantLot : Stmt := top 34
abbrev sWantAsMany : Stmt := top 35
abbrev sItemsOf : Stmt := top 38
abbrev sIntegerOf : Stmt := top 39
abbrev sItemAt : Stmt := top 40
abbrev sNumberAt : Stmt := top 41
abbrev sRingInit : Stmt := inClass (top 46) 0
abbrev sRingLen : Stmt := inClass (top 46) 1
abbrev sRingEq : Stmt := inClass (top 46) 2
abbrev sRingStr : Stmt := inClass (top 46) 3
abbrev sRingLengthOf : Stmt := inClass (top 46) 4
abbrev sRingSortOf : Stmt := inClass (top 46) 5
abbrev sRingWithLength : Stmt := inClass (top 46) 6
abbrev sRingBegunAt : Stmt := inClass (top 46) 7
abbrev sRingBackwards : Stmt := inClass (top 46) 8
abbrev sRingInOrder : Stmt := inClass (top 46) 9
abbrev sRingAsOne : Stmt := inClass (top 46) 10
abbrev sRingInTwo : Stmt := inClass (top 46) 11
abbrev sRingRead : Stmt := inClass (top 46) 12
abbrev sAreLengths : Stmt := top 47
abbrev sHasLevel : Stmt := top 48
abbrev sReadRing : Stmt := top 49
abbrev sWantRing : Stmt := top 50
abbrev sLotsOf : Stmt := top 52
abbrev sLevelLots : Stmt := top 53
abbrev sInOrder : Stmt := top 54
abbrev sLotsBySort : Stmt := top 55
abbrev sWantNoLevel : Stmt := top 56
abbrev sSlackInit : Stmt := inClass (top 58) 0
abbrev sSlack : Stmt := top 59
abbrev sSlackNumbers : Stmt := top 60
abbrev sStopsDown : Stmt := top 61
abbrev sStopsUp : Stmt := top 62
abbrev sFirstOrNone : Stmt := top 63
abbrev sWantSlack : Stmt := top 64
abbrev sSameBook : Stmt := top 66
abbrev sFirstUnlike : Stmt := top 67
abbrev sShowsSlack : Stmt := top 69
abbrev sIsLotOf : Stmt := top 70
abbrev sLwReel : Stmt := top 72
abbrev sLwWind : Stmt := top 73
abbrev sLwPick : Stmt := top 74
abbrev sLwLots : Stmt := top 75
abbrev sLwGap : Stmt := top 76
abbrev sLwOthers : Stmt := top 77
abbrev sLwLengths : Stmt := top 78
abbrev sLwRing : Stmt := top 79
abbrev sLwBook : Stmt := top 80
abbrev sLwHeard : Stmt := top 81
abbrev sLwWith : Stmt := top 82
abbrev sLwSlackRight : Stmt := top 83
abbrev sLwBetweenRight : Stmt := top 84
abbrev sLaw : Stmt := top 85

/-- all but what stands at p is as it was -/
def But (p : Addr) (H H' : Hp) : Prop := ∀ b o, b ≠ p → H b = some o → H' b = some o
theorem But.refl (p : Addr) (H : Hp) : But p H H := fun _ _ _ h => h
theorem But.trans {p : Addr} {H H1 H2 : Hp} (a : But p H H1) (b : But p H1 H2) : But p H H2 := fun c o n h => b c o n (a c o n h)
theorem But.new {p q : Addr} {H H' : Hp} {o : HO} (a : But p H H') (n : H' q = none) : But p H (upd H' q o) := fun c u hc h => by
  have e := a c u hc h
  rw [upd_ne (ne_of_none e n)]
  exact e
theorem But.at {p : Addr} {H H' : Hp} {o : HO} (a : But p H H') : But p H (upd H' p o) := fun c u hc h => by
  rw [upd_ne hc]
  exact a c u hc h
theorem But.seq {K : PySem.W.Frag} {p a : Addr} {H H' : Hp} {xs : List V} (e : But p H H') (n : a ≠ p) (h : SqL K H a xs) : SqL K H' a xs := by
  rcases h with (h | ⟨o, h⟩) | h
  · exact .inl (.inl (e _ _ n h))
  · exact .inl (.inr ⟨o, e _ _ n h⟩)
  · exact .inr h
/-- the pen: its cells, how many were begun (at most n), what a great one has left -/
structure PenAt (K : PySem.W.Frag) (H : Hp) (p : Addr) (e : Addr × List Int) (n : Nat) : Prop where
  ex : ∃ (at' rest : Int), H p = some (.lst [.ref e.1, .int at', .int rest]) ∧ 0 ≤ at' ∧ at' ≤ n ∧ 0 ≤ rest
  sq : SqL K H e.1 (e.2.map V.int)
  np : e.1 ≠ p
  ln : e.2.length ≤ 62
theorem But.of {p : Addr} {H H' : Hp} (e : Same H H') : But p H H' := fun b o _ h => e b o h
theorem But.mut {p q : Addr} {H H' : Hp} {o : HO} (a : But p H H') (n : H q = none) : But p H (upd H' q o) := fun c u hc h => by
  have e := a c u hc h
  rw [upd_ne (ne_of_none h n)]
  exact e
theorem But.free {p q : Addr} {H H' : Hp} (a : But p H H') (hq : q ≠ p) (n : H' q = none) : H q = none := by
  cases e : H q with
  | none => rfl
  | some o =>
    rw [a q o hq e] at n
    cases n
theorem But.tup {K : PySem.W.Frag} {p a : Addr} {H H' : Hp} {xs : List V} (e : But p H H') (n : a ≠ p) (h : SqT K H a xs) : SqT K H' a xs := by
  rcases h with (h | ⟨o, h⟩) | h
  · exact .inl (.inl (e _ _ n h))
  · exact .inl (.inr ⟨o, e _ _ n h⟩)
  · exact .inr h
theorem _root_.L2.Same.new {q : Addr} {H H' : Hp} {o : HO} (a : Same H H') (n : H' q = none) : Same H (upd H' q o) := fun c u h => by
  have e := a c u h
  rw [upd_ne (ne_of_none e n)]
  exact e
theorem _root_.L2.Same.mut {q : Addr} {H H' : Hp} {o : HO} (a : Same H H') (n : H q = none) : Same H (upd H' q o) := fun c u h => by
  have e := a c u h
  rw [upd_ne (ne_of_none h n)]
  exact e
theorem _root_.L2.Same.tup {K : PySem.W.Frag} {a : Addr} {H H' : Hp} {xs : List V} (e : Same H H') (h : SqT K H a xs) : SqT K H' a xs := by
  rcases h with (h | ⟨o, h⟩) | h
  · exact .inl (.inl (e _ _ h))
  · exact .inl (.inr ⟨o, e _ _ h⟩)
  · exact .inr h
section
variable {K : PySem.W.Frag} {H H' : Hp} {p q : Addr} {e : Addr × List Int} {n m : Nat} {o : HO}
theorem PenAt.mono (h : PenAt K H p e n) (le : n ≤ m) : PenAt K H p e m := by
  obtain ⟨a, r, h1, h5, h6, h7⟩ := h.ex
  exact ⟨⟨a, r, h1, h5, by omega, h7⟩, h.sq, h.np, h.ln⟩
/-- the pen stands while all that is tracked stands -/
theorem PenAt.same (h : PenAt K H p e n) (s : Same H H') : PenAt K H' p e n := by
  obtain ⟨a, r, h1, h5, h6, h7⟩ := h.ex
  exact ⟨⟨a, r, s _ _ h1, h5, h6, h7⟩, s.seq h.sq, h.np, h.ln⟩
theorem PenAt.some (h : PenAt K H p e n) : ∃ xs, H p = some (.lst xs) := by
  obtain ⟨a, r, h1, _⟩ := h.ex
  exact ⟨_, h1⟩
theorem PenAt.ne (h : PenAt K H p e n) (z : H q = none) : q ≠ p := by
  obtain ⟨xs, h1⟩ := h.some
  exact (ne_of_none h1 z).symm
/-- the pen stands while a new thing is laid -/
theorem PenAt.put (h : PenAt K H p e n) (z : H q = none) : PenAt K (upd H q o) p e n := h.same (Same.new (Same.refl H) z)
/-- .. while a thing is written that was not there ahead -/
theorem PenAt.mut (h : PenAt K H p e m) (h2 : PenAt K H' p e n) (b : But p H H') (z : H q = none) : PenAt K (upd H' q o) p e n := by
  obtain ⟨a, r, h1, h5, h6, h7⟩ := h2.ex
  exact ⟨⟨a, r, by rw [upd_ne (h.ne z).symm]; exact h1, h5, h6, h7⟩, (b.mut z).seq h.np h.sq, h.np, h.ln⟩
end
/-- the built-ins that the text names -/
structure Bi (mg : Str → Option Value) : Prop where
  int : mg "int" = none
  len : mg "len" = none
  abs : mg "abs" = none
  list : mg "list" = none
  tuple : mg "tuple" = none
  bool : mg "bool" = none
  range : mg "range" = none
  sum : mg "sum" = none
  max : mg "max" = none
  all : mg "all" = none
  any : mg "any" = none
  sorted : mg "sorted" = none
  enumerate : mg "enumerate" = none
  isinstance : mg "isinstance" = none
section
variable {K : PySem.W.Frag}
theorem eqv_nil (l : List Int) : PyData.eqv (.list (l.map PyData.int)) (.list []) = l.isEmpty := by
  cases l <;> simp [PyData.eqv, PyData.eqvAll] <;> rfl
theorem dp_ints {H : Hp} : ∀ l : List Int, DpAll K H (l.map V.int) (l.map PyData.int)
  | [] => .nil
  | i :: l => .cons (.int i) (dp_ints l)
theorem lay_ints : ∀ l : List Int, PyData.canLayAll0 (l.map PyData.int) = true
  | [] => by simp [PyData.canLayAll0]
  | i :: l => by simp [PyData.canLayAll0, PyData.canLay0, lay_ints l]
theorem deep_ints : ∀ l : List Int, PyData.depthAll (l.map PyData.int) = 0
  | [] => by simp [PyData.depthAll]
  | i :: l => by simp [PyData.depthAll, PyData.depth, deep_ints l]
theorem shaped_ints (l : List Int) : SeqAt.shaped (.list (l.map PyData.int)) = true := by
  simp [SeqAt.shaped, PyData.canLay0, PyData.depth, lay_ints l, deep_ints l]
end
end K
namespace K
open PySem L2 Rg
open Evl (pss_cut)
def spDraw (K : PySem.W.Frag) : Sp := fun vs H Q _ => ∃ (p : Addr) (e : Addr × List Int) (many : Int) (n : Nat), vs = [.ref p, .int many] ∧ 1 ≤ many ∧ many ≤ 10000000 ∧ n < 1000000 ∧ PenAt K H p e n ∧
  ∀ (r : Int) (H' : Hp), 0 ≤ r → r < many → But p H H' → PenAt K H' p e (n + 1) → Q (.int r) H'
section
variable {P : Program} {w : World} {K : PySem.W.Frag} {mg : Str → Option Value} {base : Heap}
abbrev nDraw : List Str := ["_law_reel_here", "_law_many", "_law_left", "_law_at", "_law_cell", "_law_mixed"]
theorem scDraw : FnScope nDraw ["_law_reel_here", "_law_many"] (defScope sLwWind) := ⟨rfl, rfl, rfl, by decide +kernel, rfl, by decide +kernel, by decide +kernel⟩
theorem ok_draw {f : Addr} {fd : FuncData} (F : Fun K "_law_wind" "_law_wind" sLwWind f fd) (T : Bi mg) : FnOk P w K mg base CX0 2 f fd ["_law_reel_here", "_law_many"] (spDraw K) := by
  refine F.ok scDraw (fun vs H Q E h => ?_) (fun cdv A outer s H vs Q E hr h => ?_)
  · obtain ⟨p, e, many, n, rfl, _⟩ := h
    rfl
  · have nd := scDraw.nd
    refine ⟨_, pss_cons (ps_if (pt_cmpR op_gt (pe_ix ix_list (pv 0) pe_int (fun _ _ => rfl)) pe_int (nomark _))
        (pss_cons (ps_set (i := 2) nd rfl (Or.inl rfl) (pe_callTy call_int1 (by rfl) T.int (by decide +kernel) (pa_cons (pe_ix ix_list (pv 0) pe_int (fun _ _ => rfl)) pa_nil)))
        (pss_cons (ps_asg (pe_op op_fdiv (pv 2) (pv 1)) (pg_sub (pv 0) pe_int set_list))
        (pss_one (ps_ret (pe_op op_mod (pe_callTy call_int1 (by rfl) T.int (by decide +kernel) (pa_cons (pv 2) pa_nil)) (pv 1)))))) pss_nil)
      (pss_cons (ps_set (i := 3) nd rfl (Or.inl rfl) (pe_ix ix_list (pv 0) pe_int (fun _ _ => rfl)))
      (pss_cons (ps_asg (pe_op op_add (pv 3) pe_int) (pg_sub (pv 0) pe_int set_list))
      (pss_cons (ps_set (i := 4) nd rfl (Or.inl rfl) (pe_op op_add (pe_op op_mul pe_int (pv 3)) pe_int))
      (pss_cut (ps_if (pt_cmpR (op_neD hr.units) (pe_ix ix_list (pv 0) pe_int (fun _ _ => rfl)) (pe_lst pa_nil) (nomark _))
        (pss_one (ps_set (i := 4) nd rfl (Or.inl rfl) (pe_ix ix_list (pe_ix ix_list (pv 0) pe_int (fun _ _ => rfl)) (pe_op op_mod (pe_callTy call_int1 (by rfl) T.int (by decide +kernel) (pa_cons (pv 3) pa_nil)) (pe_callB call_len_seq (by rfl) T.len PySem.boot_len (pa_cons (pe_ix ix_list (pv 0) pe_int (fun _ _ => rfl)) pa_nil))) (fun _ _ => rfl)))) pss_nil)
      (pss_cut (ps_if (PW.pt (pw_and (pt_cmpR op_lt (pv 3) (pe_callB call_len_seq (by rfl) T.len PySem.boot_len (pa_cons (pe_ix ix_list (pv 0) pe_int (fun _ _ => rfl)) pa_nil)) (nomark _))
          (pw_and1 (pt_cmpR op_ge (pe_callB call_abs (by rfl) T.abs (by decide +kernel) (pa_cons (pv 4) pa_nil)) (pe_op op_pow pe_int pe_int) (nomark _)))))
        (pss_cons (ps_set (i := 2) nd rfl (Or.inl rfl) (pe_op op_add (pe_op op_mul pe_int (pe_op op_sub (pe_callB call_abs (by rfl) T.abs (by decide +kernel) (pa_cons (pe_callTy call_int1 (by rfl) T.int (by decide +kernel) (pa_cons (pv 4) pa_nil)) pa_nil)) (pe_op op_pow pe_int pe_int))) (pe_callTy call_int1 (by rfl) T.int (by decide +kernel) (pa_cons (pe_cmpR op_lt (pv 4) pe_int (nomark _)) pa_nil))))
        (pss_cons (ps_asg (pe_op op_fdiv (pv 2) (pv 1)) (pg_sub (pv 0) pe_int set_list))
        (pss_one (ps_ret (pe_op op_mod (pe_callTy call_int1 (by rfl) T.int (by decide +kernel) (pa_cons (pv 2) pa_nil)) (pv 1)))))) pss_nil)
      (pss_cut (ps_set (i := 5) nd rfl (Or.inl rfl) (pe_op op_mod (pe_callTy call_int1 (by rfl) T.int (by decide +kernel) (pa_cons (pe_op op_pow (pe_op op_add (pe_op op_add (pe_op op_mod (pe_callTy call_int1 (by rfl) T.int (by decide +kernel) (pa_cons (pv 4) pa_nil)) pe_int) (pe_op op_mul pe_int (pv 3))) pe_int) pe_int) pa_nil)) pe_int))
      (pss_cons (ps_set (i := 5) nd rfl (Or.inl rfl) (pe_op op_mod (pe_callTy call_int1 (by rfl) T.int (by decide +kernel) (pa_cons (pe_op op_pow (pe_op op_add (pe_op op_add (pe_op op_mul (pv 5) (pe_op op_add (pe_op op_mul pe_int (pv 3)) pe_int)) (pe_op op_mul (pe_op op_mul pe_int (pv 3)) (pv 3))) pe_int) pe_int) pa_nil)) pe_int))
      (pss_one (ps_ret (pe_op op_mod (pe_callTy call_int1 (by rfl) T.int (by decide +kernel) (pa_cons (pe_op op_fdiv (pv 5) pe_int) pa_nil)) (pv 1))))))))))), ?_⟩
    obtain ⟨p, ⟨c, cells⟩, many, n, rfl, m1, m2, hn, ⟨⟨at0, rest, hp, a0, a1, r0⟩, hc, hcp, hcl⟩, k⟩ := h
    dsimp only at hp hc hcp hcl
    have mp : (0 : Int) < many := by omega
    have md : (0 : Int) < many ∧ many < 1073741824 := ⟨mp, by omega⟩
    refine ⟨_, rfl, p, _, _, _, rfl, rfl, SqL.of hp, atI_nat (j := 2) rfl, _, _, rfl, rfl, _, rfl, ?_⟩
    refine ite2 (fun hg => ?_) (fun hg => ?_)
    · have g0 : rest > 0 := of_decide_eq_true hg
      refine ⟨_, rfl, p, _, _, _, rfl, rfl, SqL.of hp, atI_nat (j := 2) rfl, .inl ⟨_, rfl, ?_⟩⟩
      refine ⟨_, rfl, _, rfl, _, _, rfl, rfl, md, _, rfl, p, _, _, 2, rfl, rfl, hp, rfl, ?_⟩
      refine ⟨_, rfl, .inl ⟨_, rfl, _, rfl, _, _, rfl, rfl, mp, ?_⟩⟩
      have b1 : But p H (upd H p (.lst [.ref c, .int at0, .int (rest / many)])) := (But.refl p H).at
      exact k _ _ (Int.emod_nonneg _ (by omega)) (Int.emod_lt_of_pos _ mp) b1 ⟨⟨at0, rest / many, upd_same, a0, by omega, Int.ediv_nonneg r0 (by omega)⟩, b1.seq hcp hc, hcp, hcl⟩
    · refine ⟨_, rfl, p, _, _, _, rfl, rfl, SqL.of hp, atI_nat (j := 1) rfl, ?_⟩
      refine ⟨_, rfl, _, _, rfl, rfl, _, rfl, p, _, _, 1, rfl, rfl, hp, rfl, ?_⟩
      have h1 : upd H p (.lst [.ref c, .int (at0 + 1), .int rest]) p = some (.lst [.ref c, .int (at0 + 1), .int rest]) := upd_same
      have b1 : But p H (upd H p (.lst [.ref c, .int (at0 + 1), .int rest])) := (But.refl p H).at
      refine ⟨_, rfl, _, _, rfl, rfl, .inl ⟨by decide, by decide⟩, _, _, rfl, rfl, ?_⟩
      refine ⟨fun σ' H' => ∃ cell : Int, σ' = [some (.ref p), some (.int many), none, some (.int at0), some (.int cell), none] ∧ But p H H' ∧ H' p = some (.lst [.ref c, .int (at0 + 1), .int rest]), ?_, ?_⟩
      · refine ⟨_, rfl, p, _, _, _, rfl, rfl, SqL.of h1, atI_nat (j := 0) rfl, (by decide), fun q hq => ?_⟩
        have hqp : p ≠ q := ne_of_none h1 hq
        have b2 : But p H (upd (upd H p (.lst [.ref c, .int (at0 + 1), .int rest])) q (.lst [])) := b1.new hq
        have h2 : upd (upd H p (.lst [.ref c, .int (at0 + 1), .int rest])) q (.lst []) p = some (.lst [.ref c, .int (at0 + 1), .int rest]) := by rw [upd_ne hqp]; exact h1
        refine ⟨_, _, .lst (b2.seq hcp hc) (dp_ints cells), .lst (SqL.of upd_same) .nil, shaped_ints _, rfl, _, rfl, ?_⟩
        rw [eqv_nil]
        cases e : cells.isEmpty with
        | true =>
          refine iteF ?_
          exact ⟨_, rfl, b2, h2⟩
        | false =>
          have hl : 0 < cells.length := by
            cases cells with
            | nil => cases e
            | cons z zs => simp
          refine iteT ?_
          have hlt : (at0 % (cells.length : Int)).toNat < cells.length := by
            have := Int.emod_lt_of_pos at0 (show (0 : Int) < cells.length by omega)
            have := Int.emod_nonneg at0 (show (cells.length : Int) ≠ 0 by omega)
            omega
          have hix : (cells.map V.int)[(at0 % (cells.length : Int)).toNat]? = some (V.int (cells[(at0 % (cells.length : Int)).toNat])) := by
            rw [List.getElem?_map, List.getElem?_eq_getElem hlt]
            rfl
          refine ⟨_, rfl, p, _, _, _, rfl, rfl, SqL.of h2, atI_nat (j := 0) rfl, _, rfl, .inl ⟨_, rfl, _, rfl, p, _, _, _, rfl, rfl, SqL.of h2, atI_nat (j := 0) rfl, c, _, rfl, .inl (b2.seq hcp hc), ?_⟩⟩
          rw [List.length_map]
          refine ⟨_, _, rfl, rfl, (by omega), c, _, _, _, rfl, rfl, b2.seq hcp hc, at_of (j := (at0 % (cells.length : Int)).toNat) (by
            have := Int.emod_nonneg at0 (show (cells.length : Int) ≠ 0 by omega)
            omega) hix, ?_⟩
          exact ⟨_, rfl, b2, h2⟩
      · rintro σ' H' ⟨cell, rfl, b2, h2⟩
        have pw : CPow 10 18 := ⟨by decide, by decide, by decide⟩
        refine ⟨fun σ' H'' => σ' = [some (.ref p), some (.int many), none, some (.int at0), some (.int cell), none] ∧ But p H H'' ∧ H'' p = some (.lst [.ref c, .int (at0 + 1), .int rest]), ?_, ?_⟩
        · refine ⟨_, rfl, _, rfl, p, _, _, _, rfl, rfl, SqL.of h2, atI_nat (j := 0) rfl, c, _, rfl, .inl (b2.seq hcp hc), _, _, rfl, rfl, _, rfl, ?_⟩
          refine ite2 (fun _ => ?_) (fun _ => iteF ?_)
          · refine ⟨_, rfl, _, rfl, _, _, rfl, rfl, pw, _, _, rfl, rfl, _, rfl, ?_⟩
            refine ite2 (fun hge => ?_) (fun _ => ?_)
            · have ge := of_decide_eq_true hge
              have ge2 : (10 : Int) ^ (18 : Int).toNat ≤ if cell < 0 then -cell else cell := ge
              have gr0 : 0 ≤ (2 * ((if cell < 0 then -cell else cell) - (10 : Int) ^ (18 : Int).toNat) + (if decide (cell < 0) = true then 1 else 0) : Int) := by
                split <;> omega
              refine ⟨_, rfl, .inl ⟨_, rfl, _, rfl, _, _, rfl, rfl, pw, _, _, rfl, rfl, _, _, rfl, rfl, .inl ⟨by decide, by decide⟩, _, rfl, _, _, rfl, rfl, .inr ⟨_, rfl, _, _, rfl, rfl, ?_⟩⟩⟩
              refine ⟨_, rfl, _, rfl, _, _, rfl, rfl, md, _, rfl, p, _, _, 2, rfl, rfl, h2, rfl, ?_⟩
              refine ⟨_, rfl, .inl ⟨_, rfl, _, rfl, _, _, rfl, rfl, mp, ?_⟩⟩
              exact k _ _ (Int.emod_nonneg _ (by omega)) (Int.emod_lt_of_pos _ mp) b2.at ⟨⟨at0 + 1, _, upd_same, by omega, by omega, Int.ediv_nonneg gr0 (by omega)⟩, (b2.at).seq hcp hc, hcp, hcl⟩
            · exact ⟨rfl, b2, h2⟩
          · exact ⟨rfl, b2, h2⟩
        · rintro σ'' H'' ⟨rfl, b3, h3⟩
          refine ⟨fun σ' H4 => ∃ x : Int, 0 ≤ x ∧ x < 2147483587 ∧ σ' = [some (.ref p), some (.int many), none, some (.int at0), some (.int cell), some (.int x)] ∧ H4 = H'', ?_, ?_⟩
          · have q0 := Int.emod_nonneg cell (show (2147483477 : Int) ≠ 0 by decide)
            have q1 := Int.emod_lt_of_pos cell (show (0 : Int) < 2147483477 by decide)
            have pw5 : CPow (cell % 2147483477 + 63367 * at0 + 911) 3 := ⟨by decide, by decide, by omega⟩
            refine ⟨_, rfl, .inl ⟨_, rfl, _, _, rfl, rfl, (by show (0 : Int) < 2147483477; decide), _, rfl, _, _, rfl, rfl, .inl ⟨by decide, by decide⟩, _, _, rfl, rfl, _, _, rfl, rfl, _, _, rfl, rfl, pw5, .inl ⟨_, rfl, _, _, rfl, rfl, (by show (0 : Int) < 2147483587; decide), ?_⟩⟩⟩
            exact ⟨_, Int.emod_nonneg _ (by decide), Int.emod_lt_of_pos _ (by decide), rfl, rfl⟩
          · rintro σ' H4 ⟨x, x0, x1, rfl, rfl⟩
            have e1 : x * (2 * at0 + 1543) ≤ 2147483587 * 2001543 := Int.mul_le_mul (by omega) (by omega) (by omega) (by decide)
            have e2 : 0 ≤ x * (2 * at0 + 1543) := Int.mul_nonneg x0 (by omega)
            have e3 : 57719 * at0 * at0 ≤ 57719000000 * 1000000 := Int.mul_le_mul (by omega) (by omega) a0 (by decide)
            have e4 : 0 ≤ 57719 * at0 * at0 := Int.mul_nonneg (by omega) a0
            have pw3 : CPow (x * (2 * at0 + 1543) + 57719 * at0 * at0 + 63367) 5 := ⟨by decide, by decide, by omega⟩
            refine ⟨_, rfl, _, rfl, _, _, rfl, rfl, .inl ⟨by decide, by decide⟩, _, _, rfl, rfl, _, _, rfl, rfl, .inl ⟨by omega, by omega⟩, _, rfl, _, _, rfl, rfl, .inl ⟨by decide, by decide⟩, _, rfl, _, _, rfl, rfl, .inr ⟨by omega, by omega⟩, _, _, rfl, rfl, _, _, rfl, rfl, _, _, rfl, rfl, pw3, .inl ⟨_, rfl, _, _, rfl, rfl, (by show (0 : Int) < 2147483579; decide), ?_⟩⟩
            refine ⟨_, rfl, _, _, rfl, rfl, ⟨by decide, by decide⟩, .inl ⟨_, rfl, _, rfl, _, _, rfl, rfl, mp, ?_⟩⟩
            exact k _ _ (Int.emod_nonneg _ (by omega)) (Int.emod_lt_of_pos _ mp) b3 ⟨⟨at0 + 1, rest, h3, by omega, by omega, r0⟩, b3.seq hcp hc, hcp, hcl⟩
end
end K
namespace K
open PySem L2 Rg
open Evl (pss_cut)
theorem int_at {l : List Int} {i : Nat} {v : V} (h : (l.map V.int)[i]? = some v) : ∃ z, l[i]? = some z ∧ v = .int z := by
  rw [List.getElem?_map] at h
  cases e : l[i]? with
  | none => rw [e] at h; cases h
  | some z => rw [e] at h; exact ⟨z, rfl, (Option.some.inj h).symm⟩
theorem take_snoc {α : Type} {l : List α} {i : Nat} {z : α} (h : l[i]? = some z) : l.take i ++ [z] = l.take (i + 1) := by
  rw [List.take_succ, h]; rfl
theorem sz {n : Nat} (h : n ≤ 100000) : n ≤ sizeLine := Nat.le_trans h (by decide)
theorem szl {n : Nat} (h : n < 100000) : n < sizeLine := Nat.lt_of_lt_of_le h (by decide)
theorem cutV_to (xs : List V) (k : Nat) : cutV xs none (some (k : Int)) = xs.take k := by
  unfold cutV
  rw [HT.sIx_none, HT.sIx_nat, List.drop_zero, Nat.sub_zero]
  rcases Nat.le_total k xs.length with h | h
  · rw [Nat.min_eq_left h]
  · rw [Nat.min_eq_right h, List.take_length, List.take_of_length_le h]
section
variable {P : Program} {w : World} {K : PySem.W.Frag} {mg : Str → Option Value} {base : Heap}
/-! ### the pen -/
def spPen (K : PySem.W.Frag) : Sp := fun vs H Q _ => ∃ (a : Addr) (ns : List Int), vs = [.ref a] ∧ SqL K H a (ns.map V.int) ∧ ns.length ≤ 63 ∧
  ∀ (p : Addr) (e : Addr × List Int) (H' : Hp), Same H H' → H p = none → PenAt K H' p e 0 → Q (.ref p) H'
abbrev nPen : List Str := ["_law_script", "_law_cell"]
theorem scPen : FnScope nPen ["_law_script"] (defScope sLwReel) := ⟨rfl, rfl, rfl, by decide +kernel, rfl, by decide +kernel, by decide +kernel⟩
theorem ok_pen {f : Addr} {fd : FuncData} (F : Fun K "_law_reel" "_law_reel" sLwReel f fd) (T : Bi mg) : FnOk P w K mg base CX0 2 f fd ["_law_script"] (spPen K) := by
  refine F.ok scPen (fun vs H Q E h => ?_) (fun cdv A outer s H vs Q E hr h => ?_)
  · obtain ⟨a, ns, rfl, _⟩ := h
    rfl
  · have nd := scPen.nd
    refine ⟨_, pss_one (ps_ret (pe_lst (pa_cons (pe_lc (own := [("_law_cell", 1)]) (g := gName 1) (tt := tYes) rfl nd (pi_list (pe_slice sl_list (pv 0) po_none (po_some pe_int)))
      (blkOk_by (N := nPen) (sc := defScope sLwReel) (by decide +kernel)) (fun _ _ _ _ _ => pg_name (i := 1) nd rfl (Or.inl rfl)) (fun _ _ _ _ _ => pts_nil)
      (fun _ _ _ _ _ => pe_callTy call_int1 (by rfl) T.int (by decide +kernel) (pa_cons (pv 1) pa_nil))) (pa_cons pe_int (pa_cons pe_int pa_nil))))), ?_⟩
    obtain ⟨a, ns, rfl, hS, hl, k⟩ := h
    refine ⟨_, rfl, _, rfl, a, _, rfl, hS, fun q hq => ?_⟩
    have e0 : cutV (ns.map V.int) none (some 60) = (ns.take 60).map V.int := by
      rw [show (60 : Int) = ((60 : Nat) : Int) from rfl, cutV_to, List.map_take]
    rw [e0]
    refine ⟨q, rfl, ⟨_, SqL.of upd_same⟩, fun D hD => ?_⟩
    have hqD : q ≠ D := ne_of_none upd_same hD
    have sD : Same (upd H q (.lst ((ns.take 60).map V.int))) (upd (upd H q (.lst ((ns.take 60).map V.int))) D (.lst [])) := (Same.refl _).new hD
    refine lc_list (K := K) (a := q) (xs := (ns.take 60).map V.int) (fun i H' => Same (upd H q (.lst ((ns.take 60).map V.int))) H' ∧ H' D = some (.lst (((ns.take 60).take i).map V.int)))
      ⟨sD, upd_same⟩ (fun i H' _ p => p.1.seq (SqL.of upd_same)) ?_ ?_
    · rintro i x H' hi ⟨s1, h1⟩
      obtain ⟨z, hz, rfl⟩ := int_at hi
      refine ⟨rfl, _, rfl, .inl ⟨_, rfl, _, h1, szl (by rw [List.length_map, List.length_take, List.length_take]; omega), s1.mut hD, ?_⟩⟩
      rw [← take_snoc hz, List.map_append]
      exact upd_same
    · rintro H' ⟨s1, h1⟩
      rw [List.length_map, List.take_length] at h1
      refine ⟨(by show 3 ≤ sizeLine; decide), fun p hp => ?_⟩
      have nD : H D = none := by
        rw [upd_ne hqD.symm] at hD
        exact hD
      have s2 : Same H H' := fun b o e => s1 b o (by rw [upd_ne (ne_of_none e hq)]; exact e)
      refine k p (D, ns.take 60) _ (s2.new hp) (s2.free hp) ⟨⟨0, 0, upd_same, by decide, by decide, by decide⟩, SqL.of (by rw [upd_ne (ne_of_none h1 hp)]; exact h1), ne_of_none h1 hp, by rw [List.length_take]; omega⟩
end
end K
namespace K
open PySem L2 Rg
open Evl (pss_cut)
section
variable {P : Program} {w : World} {K : PySem.W.Frag} {mg : Str → Option Value} {base : Heap}
/-! ### one of some things -/
def spPick (K : PySem.W.Frag) : Sp := fun vs H Q _ => ∃ (p l : Addr) (e : Addr × List Int) (xs : List V) (n : Nat), vs = [.ref p, .ref l] ∧ SqL K H l xs ∧ l ≠ p ∧ 1 ≤ xs.length ∧ xs.length ≤ 1000 ∧ n < 1000000 ∧ PenAt K H p e n ∧
  ∀ (i : Nat) (v : V) (H' : Hp), xs[i]? = some v → But p H H' → PenAt K H' p e (n + 1) → Q v H'
abbrev nPick : List Str := ["_law_reel_here", "_law_some"]
theorem scPick : FnScope nPick ["_law_reel_here", "_law_some"] (defScope sLwPick) := ⟨rfl, rfl, rfl, by decide +kernel, rfl, by decide +kernel, by decide +kernel⟩
/-- the draw as a def called by its name -/
structure DrawAt (P : Program) (w : World) (K : PySem.W.Frag) (mg : Str → Option Value) (base : Heap) (f : Addr) (fd : FuncData) : Prop where
  ok : FnOk P w K mg base CX0 2 f fd ["_law_reel_here", "_law_many"] (spDraw K)
  g : mg "_law_wind" = some (.ref f)
  kp : PySem.W.keepIn K (.ref f) = true
  b : Binds K fd ["_law_reel_here", "_law_many"] []
theorem ok_pick {f fD : Addr} {fd fdD : FuncData} (F : Fun K "_law_pick" "_law_pick" sLwPick f fd) (T : Bi mg) (D : DrawAt P w K mg base fD fdD) : FnOk P w K mg base CX0 3 f fd ["_law_reel_here", "_law_some"] (spPick K) := by
  refine F.ok scPick (fun vs H Q E h => ?_) (fun cdv A outer s H vs Q E hr h => ?_)
  · obtain ⟨p, l, e, xs, n, rfl, _⟩ := h
    rfl
  · have nd := scPick.nd
    refine ⟨_, pss_one (ps_ret (pe_ix ix_list (pv 1) (pe_call D.ok hr rfl D.g D.kp D.b .nil pass0 (pa_cons (pv 0) (pa_cons (pe_callB call_len_seq (by rfl) T.len PySem.boot_len (pa_cons (pv 1) pa_nil)) pa_nil))) (fun _ _ => rfl))), ?_⟩
    obtain ⟨p, l, e, xs, n, rfl, hl, hlp, l1, l2, hn, pen, k⟩ := h
    refine ⟨_, rfl, _, rfl, _, rfl, l, xs, rfl, .inl hl, p, e, _, n, rfl, by omega, by omega, hn, pen, fun r H' r0 r1 b pen' => ?_⟩
    have hr : r.toNat < xs.length := by omega
    exact ⟨l, xs, r, _, rfl, rfl, b.seq hlp hl, at_of (j := r.toNat) (by omega) (List.getElem?_eq_getElem hr), k _ _ _ (List.getElem?_eq_getElem hr) b pen'⟩
end
end K
namespace K
open PySem L2 Rg
open Evl (pss_cut)
/-- each from 1 to m -/
def Bd (m : Int) (ls : List Int) : Prop := ∀ x ∈ ls, 1 ≤ x ∧ x ≤ m
theorem Bd.snoc {m x : Int} {ls : List Int} (h : Bd m ls) (h1 : 1 ≤ x) (h2 : x ≤ m) : Bd m (ls ++ [x]) := fun y hy => by
  rcases List.mem_append.mp hy with z | z
  · exact h y z
  · rw [List.mem_singleton.mp z]
    exact ⟨h1, h2⟩
theorem Bd.le {m k : Int} {ls : List Int} (h : Bd m ls) (hk : m ≤ k) : Bd k ls := fun x hx => ⟨(h x hx).1, by have := (h x hx).2; omega⟩
theorem Bd.set {m x : Int} {ls : List Int} {i : Nat} (h : Bd m ls) (h1 : 1 ≤ x) (h2 : x ≤ m) : Bd m (ls.set i x) := fun y hy => by
  rcases List.mem_or_eq_of_mem_set hy with z | z
  · exact h y z
  · rw [z]; exact ⟨h1, h2⟩
theorem Bd.sum {m : Int} : ∀ {ls : List Int}, Bd m ls → (ls.length : Int) ≤ ls.sum ∧ ls.sum ≤ m * ls.length
  | [], _ => by simp
  | x :: ls, h => by
    have ih := Bd.sum (m := m) (ls := ls) fun y hy => h y (List.mem_cons_of_mem _ hy)
    have hx := h x (List.mem_cons_self ..)
    rw [List.sum_cons, List.length_cons]
    have e : m * ((ls.length + 1 : Nat) : Int) = m * ls.length + m := by push_cast; rw [Int.mul_add, Int.mul_one]
    rw [e]
    push_cast
    omega
theorem ixN_at {n : Nat} {r : Int} (h0 : 0 ≤ r) (h1 : r < n) : ixN n r = some r.toNat := by
  unfold ixN
  rw [if_pos h0, if_pos h1]
theorem int_get {ls : List Int} {i : Nat} (h : i < ls.length) : (ls.map V.int)[i]? = some (V.int ls[i]) := by
  rw [List.getElem?_map, List.getElem?_eq_getElem h]; rfl
theorem set_map (ls : List Int) (i : Nat) (x : Int) : (ls.map V.int).set i (V.int x) = (ls.set i x).map V.int := by
  rw [List.map_set]
theorem erase_sum : ∀ {ls : List Int} {i : Nat} (h : i < ls.length), (ls.eraseIdx i).sum = ls.sum - ls[i]
  | x :: ls, 0, h => by simp [List.sum_cons]; omega
  | x :: ls, i + 1, h => by
    have h' : i < ls.length := by simpa using h
    have ih := erase_sum h'
    rw [List.eraseIdx_cons_succ, List.sum_cons, List.sum_cons, ih, List.getElem_cons_succ]
    omega
theorem abs_sum {m : Int} (hm : 0 ≤ m) : ∀ {ls : List Int}, (∀ x ∈ ls, -m ≤ x ∧ x ≤ m) → -(m * ls.length) ≤ ls.sum ∧ ls.sum ≤ m * ls.length
  | [], _ => by simp
  | x :: ls, h => by
    have ih := abs_sum hm (ls := ls) fun y hy => h y (List.mem_cons_of_mem _ hy)
    have hx := h x (List.mem_cons_self ..)
    have e : m * ((ls.length + 1 : Nat) : Int) = m * ls.length + m := by push_cast; rw [Int.mul_add, Int.mul_one]
    rw [List.sum_cons, List.length_cons, e]
    omega
section
variable {P : Program} {w : World} {K : PySem.W.Frag} {mg : Str → Option Value} {base : Heap}
def spLengths (K : PySem.W.Frag) : Sp := fun vs H Q _ => ∃ (p : Addr) (e : Addr × List Int) (m n : Nat), vs = [.ref p, .int (m : Nat)] ∧ m ≤ 8 ∧ n < 800000 ∧ PenAt K H p e n ∧
  ∀ (l : Addr) (ls : List Int) (H' : Hp), ls.length = m → Bd 1000000 ls → H l = none → But p H H' → H' l = some (.lst (ls.map V.int)) → PenAt K H' p e (n + 9) → Q (.ref l) H'
abbrev nLengths : List Str := ["_law_reel_here", "_law_many", "_law_way", "_law_most", "_law_bar"]
theorem scLengths : FnScope nLengths ["_law_reel_here", "_law_many"] (defScope sLwLengths) := ⟨rfl, rfl, rfl, by decide +kernel, rfl, by decide +kernel, by decide +kernel⟩
theorem ok_lengths {f fD : Addr} {fd fdD : FuncData} (F : Fun K "_law_lengths" "_law_lengths" sLwLengths f fd) (T : Bi mg) (D : DrawAt P w K mg base fD fdD) : FnOk P w K mg base CX0 3 f fd ["_law_reel_here", "_law_many"] (spLengths K) := by
  refine F.ok scLengths (fun vs H Q E h => ?_) (fun cdv A outer s H vs Q E hr h => ?_)
  · obtain ⟨p, e, m, n, rfl, _⟩ := h
    rfl
  · have nd := scLengths.nd
    refine ⟨_, pss_cons (ps_set (i := 2) nd rfl (Or.inl rfl) (pe_call D.ok hr rfl D.g D.kp D.b .nil pass0 (pa_cons (pv 0) (pa_cons pe_int pa_nil))))
      (pss_cut (ps_set (i := 3) nd rfl (Or.inr rfl) (pe_ix ix_list (pe_lst (pa_cons pe_int (pa_cons pe_int (pa_cons pe_int (pa_cons pe_int (pa_cons pe_int (pa_cons pe_int (pa_cons pe_int (pa_cons pe_int pa_nil))))))))) (pv 2) (fun _ _ => rfl)))
      (pss_one (ps_ret (pe_lc (own := [("_law_bar", 4)]) (g := gName 4) (tt := tYes) rfl nd (pi_range1 (by rfl) T.range (pa_cons (pv 1) pa_nil)) (blkOk_by (N := nLengths) (sc := defScope sLwLengths) (by decide +kernel))
        (fun _ _ _ _ _ => pg_name (i := 4) nd rfl (Or.inl rfl)) (fun _ _ _ _ _ => pts_nil) (fun _ _ _ _ _ => pe_op op_add pe_int (pe_call D.ok hr rfl D.g D.kp D.b .nil pass0 (pa_cons (pv 0) (pa_cons (pv 3) pa_nil)))))))), ?_⟩
    obtain ⟨p, e, m, n, rfl, m8, hn, pen, k⟩ := h
    refine ⟨_, rfl, p, e, 8, n, rfl, by decide, by decide, by omega, pen, fun r1 H1 r1a r1b b1 pen1 => ?_⟩
    refine ⟨fun σ' H' => ∃ most : Int, 1 ≤ most ∧ most ≤ 1000000 ∧ σ' = [some (.ref p), some (.int (m : Nat)), some (.int r1), some (.int most), none] ∧ But p H H' ∧ PenAt K H' p e (n + 1), ?_, ?_⟩
    · refine ⟨(by show 8 ≤ sizeLine; decide), fun q hq => ?_⟩
      have hb := (b1.new hq : But p H (upd H1 q (.lst [.int 9, .int 3, .int 9, .int 5, .int 20, .int 9, .int 2, .int 1000000])))
      have hp := (pen1.put hq : PenAt K (upd H1 q (.lst [.int 9, .int 3, .int 9, .int 5, .int 20, .int 9, .int 2, .int 1000000])) p e (n + 1))
      have c8 : r1 = 0 ∨ r1 = 1 ∨ r1 = 2 ∨ r1 = 3 ∨ r1 = 4 ∨ r1 = 5 ∨ r1 = 6 ∨ r1 = 7 := by omega
      rcases c8 with c | c | c | c | c | c | c | c <;> subst c <;> refine ⟨_, rfl, q, _, _, _, rfl, rfl, SqL.of upd_same, rfl, ?_⟩ <;> exact ⟨_, by decide, by decide, rfl, hb, hp⟩
    · rintro σ' H3 ⟨most, m1, m2, rfl, b3, pen3⟩
      refine ⟨_, rfl, _, rfl, by omega, by omega, fun D hD => ?_⟩
      have hDp : D ≠ p := pen3.ne hD
      have hD0 : H D = none := b3.free hDp hD
      refine lc_range (lo := 0) (n := ((m : Nat) : Int).toNat) (fun i H' => ∃ ls : List Int, ls.length = i ∧ Bd most ls ∧ H' D = some (.lst (ls.map V.int)) ∧ But p H H' ∧ PenAt K H' p e (n + 1 + i)) ⟨[], rfl, fun x hx => (by cases hx), upd_same, b3.mut hD0, pen.mut pen3 b3 hD0⟩ ?_ ?_
      · rintro i H' hi ⟨ls, ll, bd, hd, b, pen'⟩
        rw [Int.toNat_natCast] at hi
        refine ⟨rfl, _, rfl, _, rfl, p, e, most, n + 1 + i, rfl, m1, (by omega), by omega, pen', fun r H4 q0 q1 b4 pen4 => ⟨_, _, rfl, rfl, _, b4 D _ hDp hd, szl (by rw [List.length_map]; omega), ls ++ [1 + r], by rw [List.length_append, ll]; rfl, bd.snoc (by omega) (by omega), ?_, (b.trans b4).mut hD0, pen.mut pen4 (b.trans b4) hD0⟩⟩
        rw [List.map_append]
        exact upd_same
      · rintro H4 ⟨ls, ll, bd, hd, b4, pen4⟩
        rw [Int.toNat_natCast] at ll pen4
        exact k D ls H4 ll (bd.le m2) hD0 b4 hd (pen4.mono (by omega))
end
end K
namespace K
open PySem L2 Rg
open Evl (pss_cut)
/-- the kinds that are asked for -/
def kinds : List String := ["NoneType", "bool", "int", "str", "list", "tuple", "dict"]
theorem kit_int : ∀ k ∈ kinds, kitB k "int" = some (decide (k = "int" ∨ k = "bool")) := by decide +kernel
theorem kit_bool : ∀ k ∈ kinds, kitB k "bool" = some (decide (k = "bool")) := by decide +kernel
theorem kit_list : ∀ k ∈ kinds, kitB k "list" = some (decide (k = "list")) := by decide +kernel
theorem kit_tuple : ∀ k ∈ kinds, kitB k "tuple" = some (decide (k = "tuple")) := by decide +kernel
/-- v is of the kind k -/
def Knd (K : PySem.W.Frag) (H : Hp) (v : V) (k : String) : Prop := TyX K H v (.type k) ∧ k ∈ kinds
section
variable {P : Program} {w : World} {K : PySem.W.Frag} {mg : Str → Option Value} {base : Heap}
theorem Knd.int {H : Hp} {i : Int} : Knd K H (.int i) "int" := ⟨.base (.int i), by decide⟩
theorem tyx_same {H H' : Hp} {v : V} {t : Value} (h : TyX K H v t) (s : Same H H') : TyX K H' v t := by
  cases h with
  | base h =>
    refine .base ?_
    cases h with
    | non => exact .non
    | bl x => exact .bl x
    | int x => exact .int x
    | str x => exact .str x
    | flt x => exact .flt x
    | lst e => exact .lst (s _ _ e)
    | frz e => exact .frz (s _ _ e)
    | tup e => exact .tup (s _ _ e)
    | dK e => exact .dK (s _ _ e)
    | dT e => exact .dT (s _ _ e)
    | ins e cl ha hn htk hm => exact .ins (s _ _ e) cl ha hn htk hm
  | byt b => exact .byt b
  | set e => exact .set (s _ _ e)
  | kList e c => exact .kList e c
  | kTuple e c => exact .kTuple e c
  | kDict e c => exact .kDict e c
  | fTuple e => exact .fTuple (s _ _ e)
  | fDict e => exact .fDict (s _ _ e)
theorem Knd.same {H H' : Hp} {v : V} {k : String} (h : Knd K H v k) (s : Same H H') : Knd K H' v k := ⟨tyx_same h.1 s, h.2⟩
/-! ### is_integer -/
def spIsInt (K : PySem.W.Frag) : Sp := fun vs H Q _ => ∃ (v : V) (k : String), vs = [v] ∧ Knd K H v k ∧ Q (.bl (decide (k = "int"))) H
theorem scIsInt : FnScope ["value"] ["value"] (defScope sIsInteger) := ⟨rfl, rfl, rfl, by decide +kernel, rfl, by decide +kernel, by decide +kernel⟩
theorem ok_isInt {f : Addr} {fd : FuncData} (F : Fun K "is_integer" "is_integer" sIsInteger f fd) (T : Bi mg) : FnOk P w K mg base CX0 1 f fd ["value"] (spIsInt K) := by
  refine F.ok scIsInt (fun vs H Q E h => ?_) (fun cdv A outer s H vs Q E hr h => ?_)
  · obtain ⟨v, k, rfl, _⟩ := h
    rfl
  · refine ⟨_, pss_one (ps_ret (pe_and (pe_callB call_isi (by rfl) T.isinstance (by decide +kernel) (pa_cons (pv 0) (pa_cons (pe_bltn (v := .ty "int") (u := .type "int") (by rfl) T.int (by decide +kernel) rfl) pa_nil)))
      (pe_one (pe_not (pe_callB call_isi (by rfl) T.isinstance (by decide +kernel) (pa_cons (pv 0) (pa_cons (pe_bltn (v := .ty "bool") (u := .type "bool") (by rfl) T.bool (by decide +kernel) rfl) pa_nil))))))), ?_⟩
    obtain ⟨v, k, rfl, ⟨ty, hk⟩, q⟩ := h
    refine ⟨_, rfl, v, .ty "int", _, _, _, rfl, .ty _, ty, kit_ty (kit_int k hk), _, rfl, ?_⟩
    refine ite2 (fun c => ?_) (fun c => ?_)
    · refine ⟨_, rfl, v, .ty "bool", _, _, _, rfl, .ty _, ty, kit_ty (kit_bool k hk), _, rfl, ?_⟩
      have c' : k = "int" ∨ k = "bool" := of_decide_eq_true c
      have e : (!decide (k = "bool")) = decide (k = "int") := by
        rcases c' with rfl | rfl <;> decide
      rw [e]
      exact q
    · have c' : ¬ (k = "int" ∨ k = "bool") := fun z => c (decide_eq_true z)
      have e : decide (k = "int") = false := decide_eq_false fun z => c' (.inl z)
      rw [e] at q
      exact q
/-! ### is_list -/
def spIsList (K : PySem.W.Frag) : Sp := fun vs H Q _ => ∃ (v : V) (k : String), vs = [v] ∧ Knd K H v k ∧ ∀ H', Same H H' → Q (.bl (decide (k = "list" ∨ k = "tuple"))) H'
theorem scIsList : FnScope ["value"] ["value"] (defScope sIsList) := ⟨rfl, rfl, rfl, by decide +kernel, rfl, by decide +kernel, by decide +kernel⟩
theorem ok_isList {f : Addr} {fd : FuncData} (F : Fun K "is_list" "is_list" sIsList f fd) (T : Bi mg) : FnOk P w K mg base CX0 1 f fd ["value"] (spIsList K) := by
  refine F.ok scIsList (fun vs H Q E h => ?_) (fun cdv A outer s H vs Q E hr h => ?_)
  · obtain ⟨v, k, rfl, _⟩ := h
    rfl
  · refine ⟨_, pss_one (ps_ret (pe_callB call_isiT (by rfl) T.isinstance (by decide +kernel) (pa_cons (pv 0) (pa_cons (pe_tup (pa_cons (pe_bltn (v := .ty "list") (u := .type "list") (by rfl) T.list (by decide +kernel) rfl) (pa_cons (pe_bltn (v := .ty "tuple") (u := .type "tuple") (by rfl) T.tuple (by decide +kernel) rfl) pa_nil))) pa_nil)))), ?_⟩
    obtain ⟨v, k, rfl, ⟨ty, hk⟩, q⟩ := h
    refine ⟨_, rfl, (by show 2 ≤ sizeLine; decide), fun p hp => ?_⟩
    have s1 : Same H (upd H p (.tup [.ty "list", .ty "tuple"])) := (Same.refl H).new hp
    refine ⟨v, p, [.ty "list", .ty "tuple"], _, _, decide (k = "list" ∨ k = "tuple"), rfl, upd_same, .cons (.ty _) (.cons (.ty _) .nil), tyx_same ty s1, kitAny_cons (kit_ty (kit_list k hk)) (fun e => kitAny_cons (b := decide (k = "tuple")) (r := decide (k = "list" ∨ k = "tuple")) (kit_ty (kit_tuple k hk)) (fun e' => ?_) fun e' => ?_) fun e => ?_, q _ s1⟩
    · have h1 : ¬ k = "list" := of_decide_eq_false e
      have h2 : ¬ k = "tuple" := of_decide_eq_false e'
      rw [kitAny_nil, decide_eq_false (fun z => z.elim h1 h2)]
    · exact decide_eq_true (.inr (of_decide_eq_true e'))
    · exact decide_eq_true (.inl (of_decide_eq_true e))
end
end K
namespace K
open PySem L2 Rg
open Evl (pss_cut)
theorem iteDT {c A B : Prop} [Decidable c] (hc : c) (h : A) : if decide c = true then A else B := by
  rw [if_pos (decide_eq_true hc)]; exact h
theorem iteDF {c A B : Prop} [Decidable c] (hc : ¬ c) (h : B) : if decide c = true then A else B := by
  rw [if_neg (by rw [decide_eq_false hc]; exact Bool.false_ne_true)]; exact h
theorem iteBT {c : Bool} {A B : Prop} (hc : c = true) (h : A) : if c = true then A else B := by
  rw [if_pos hc]; exact h
theorem iteBF {c : Bool} {A B : Prop} (hc : c = false) (h : B) : if c = true then A else B := by
  rw [if_neg (by rw [hc]; exact Bool.false_ne_true)]; exact h
theorem sm {n : Nat} (h : n ≤ 10000) : n < sizeLine := Nat.lt_of_le_of_lt h (by decide)
/-- a def of the text, by its name -/
structure DefAt (P : Program) (w : World) (K : PySem.W.Frag) (mg : Str → Option Value) (base : Heap) (CX : CXT) (k : Nat) (x : Str) (ps : List Str) (sp : Sp) (f : Addr) (fd : FuncData) : Prop where
  ok : FnOk P w K mg base CX k f fd ps sp
  g : mg x = some (.ref f)
  kp : PySem.W.keepIn K (.ref f) = true
  b : Binds K fd ps []
section
variable {P : Program} {w : World} {K : PySem.W.Frag} {mg : Str → Option Value} {base : Heap}
/-- two promises of one def -/
theorem fn_or {CX : CXT} {k : Nat} {f : Addr} {fd : FuncData} {ps : List Str} {sp sp' : Sp} (F : FnOk P w K mg base CX k f fd ps sp) (G : FnOk P w K mg base CX k f fd ps sp') : FnOk P w K mg base CX k f fd ps (fun vs H Q E => sp vs H Q E ∨ sp' vs H Q E) :=
  ⟨fun vs H Q E h => h.elim (F.len vs H Q E) (G.len vs H Q E), fun A outer s H args us vs Q E hr e0 hb hv h => h.elim (F.run A outer s H args us vs Q E hr e0 hb hv) (G.run A outer s H args us vs Q E hr e0 hb hv)⟩
/-! ### is_within, of ints -/
def spWithin : Sp := fun vs H Q _ => ∃ (v lo hi : Int), vs = [.int v, .int lo, .int hi] ∧ Q (.bl (decide (lo ≤ v) && decide (v ≤ hi))) H
theorem scWithin : FnScope ["value", "least", "most"] ["value", "least", "most"] (defScope sIsWithin) := ⟨rfl, rfl, rfl, by decide +kernel, rfl, by decide +kernel, by decide +kernel⟩
theorem ok_within {f fI : Addr} {fd fdI : FuncData} (F : Fun K "is_within" "is_within" sIsWithin f fd) (G : DefAt P w K mg base CX0 1 "is_integer" ["value"] (spIsInt K) fI fdI) : FnOk P w K mg base CX0 2 f fd ["value", "least", "most"] spWithin := by
  refine F.ok scWithin (fun vs H Q E h => ?_) (fun cdv A outer s H vs Q E hr h => ?_)
  · obtain ⟨v, lo, hi, rfl, _⟩ := h
    rfl
  · refine ⟨_, pss_cons (ps_if (pt_not (pt_val (pe_call G.ok hr rfl G.g G.kp G.b .nil pass0 (pa_cons (pv 0) pa_nil)))) (pss_one (ps_ret pe_bl)) pss_nil)
      (pss_one (ps_ret (pe_and (pe_or (pe_cmpR op_isN (pv 1) pe_non (nomark _)) (pe_one (pe_cmpR op_ge (pv 0) (pv 1) (nomark _)))) (pe_one (pe_or (pe_cmpR op_isN (pv 2) pe_non (nomark _)) (pe_one (pe_cmpR op_le (pv 0) (pv 2) (nomark _)))))))), ?_⟩
    obtain ⟨v, lo, hi, rfl, q⟩ := h
    refine ⟨_, rfl, V.int v, "int", rfl, Knd.int, _, rfl, iteNS rfl ?_⟩
    refine ⟨_, rfl, rfl, _, rfl, iteDF (fun z => nomatch z) ⟨_, rfl, _, rfl, _, _, rfl, rfl, _, rfl, ?_⟩⟩
    refine ite2 (fun c => ?_) (fun c => ?_)
    · have c' : lo ≤ v := of_decide_eq_true c
      refine ⟨_, rfl, rfl, _, rfl, iteDF (fun z => nomatch z) ⟨_, rfl, _, rfl, _, _, rfl, rfl, ?_⟩⟩
      rw [decide_eq_true c', Bool.true_and] at q
      exact q
    · have c' : ¬ lo ≤ v := fun z => c (decide_eq_true z)
      rw [decide_eq_false c', Bool.false_and] at q
      exact q
/-! ### is_numbers -/
abbrev nNums : List Str := ["value", "one"]
theorem scNums : FnScope nNums ["value"] (defScope sIsNumbers) := ⟨rfl, rfl, rfl, by decide +kernel, rfl, by decide +kernel, by decide +kernel⟩
/-- of what is no list or tuple | of a list | of a tuple -/
def spNumsO (K : PySem.W.Frag) : Sp := fun vs H Q _ => ∃ (v : V) (k : String), vs = [v] ∧ Knd K H v k ∧ k ≠ "list" ∧ k ≠ "tuple" ∧ ∀ H', Same H H' → Q (.bl false) H'
def spNumsL (K : PySem.W.Frag) : Sp := fun vs H Q _ => ∃ (a : Addr) (xs : List V) (kf : V → String), vs = [.ref a] ∧ Knd K H (.ref a) "list" ∧ SqL K H a xs ∧ xs.length ≤ 1000 ∧ (∀ x ∈ xs, Knd K H x (kf x)) ∧ ∀ H', Same H H' → Q (.bl (xs.all fun x => decide (kf x = "int"))) H'
def spNumsT (K : PySem.W.Frag) : Sp := fun vs H Q _ => ∃ (a : Addr) (xs : List V) (kf : V → String), vs = [.ref a] ∧ Knd K H (.ref a) "tuple" ∧ SqT K H a xs ∧ xs.length ≤ 1000 ∧ (∀ x ∈ xs, Knd K H x (kf x)) ∧ ∀ H', Same H H' → Q (.bl (xs.all fun x => decide (kf x = "int"))) H'
theorem all_map_bl (xs : List V) (g : V → Bool) : ((xs.map g).all id) = xs.all g := by
  rw [List.all_map]; rfl
theorem ok_numsO {f fI fL : Addr} {fd fdI fdL : FuncData} (F : Fun K "is_numbers" "is_numbers" sIsNumbers f fd) (T : Bi mg) (G : DefAt P w K mg base CX0 1 "is_integer" ["value"] (spIsInt K) fI fdI) (L : DefAt P w K mg base CX0 1 "is_list" ["value"] (spIsList K) fL fdL) : FnOk P w K mg base CX0 2 f fd ["value"] (spNumsO K) := by
  refine F.ok scNums (fun vs H Q E h => ?_) (fun cdv A outer s H vs Q E hr h => ?_)
  · obtain ⟨v, k, rfl, _⟩ := h
    rfl
  · refine ⟨_, pss_one (ps_ret (pe_and (pe_call L.ok hr rfl L.g L.kp L.b .nil pass0 (pa_cons (pv 0) pa_nil)) (pe_one (pe_callB (cr_all rfl) (by rfl) T.all (by decide +kernel) (pa_cons (pe_lc (own := [("one", 1)]) (g := gName 1) (tt := tYes) rfl scNums.nd (pi_list (pv 0))
      (blkOk_by (N := nNums) (sc := defScope sIsNumbers) (by decide +kernel)) (fun _ _ _ _ _ => pg_name (i := 1) scNums.nd rfl (Or.inl rfl)) (fun _ _ _ _ _ => pts_nil) (fun _ _ _ _ _ => pe_call G.ok hr rfl G.g G.kp G.b .nil pass0 (pa_cons (pv 1) pa_nil))) pa_nil))))), ?_⟩
    obtain ⟨v, k, rfl, hk, k1, k2, q⟩ := h
    exact ⟨_, rfl, v, k, rfl, hk, fun H' s1 => ⟨_, rfl, iteDF (fun z => z.elim k1 k2) (q H' s1)⟩⟩
theorem ok_numsL {f fI fL : Addr} {fd fdI fdL : FuncData} (F : Fun K "is_numbers" "is_numbers" sIsNumbers f fd) (T : Bi mg) (G : DefAt P w K mg base CX0 1 "is_integer" ["value"] (spIsInt K) fI fdI) (L : DefAt P w K mg base CX0 1 "is_list" ["value"] (spIsList K) fL fdL) : FnOk P w K mg base CX0 2 f fd ["value"] (spNumsL K) := by
  refine F.ok scNums (fun vs H Q E h => ?_) (fun cdv A outer s H vs Q E hr h => ?_)
  · obtain ⟨v, k, kf, rfl, _⟩ := h
    rfl
  · refine ⟨_, pss_one (ps_ret (pe_and (pe_call L.ok hr rfl L.g L.kp L.b .nil pass0 (pa_cons (pv 0) pa_nil)) (pe_one (pe_callB (cr_all rfl) (by rfl) T.all (by decide +kernel) (pa_cons (pe_lc (own := [("one", 1)]) (g := gName 1) (tt := tYes) rfl scNums.nd (pi_list (pv 0))
      (blkOk_by (N := nNums) (sc := defScope sIsNumbers) (by decide +kernel)) (fun _ _ _ _ _ => pg_name (i := 1) scNums.nd rfl (Or.inl rfl)) (fun _ _ _ _ _ => pts_nil) (fun _ _ _ _ _ => pe_call G.ok hr rfl G.g G.kp G.b .nil pass0 (pa_cons (pv 1) pa_nil))) pa_nil))))), ?_⟩
    obtain ⟨a, xs, kf, rfl, hk, hs, hl, hx, q⟩ := h
    refine ⟨_, rfl, _, "list", rfl, hk, fun H1 s1 => ⟨_, rfl, iteDT (.inl rfl) ?_⟩⟩
    refine ⟨_, rfl, a, rfl, ⟨_, s1.seq hs⟩, fun D hD => ?_⟩
    have hD0 := s1.free hD
    refine lc_list (K := K) (a := a) (xs := xs) (fun i H' => Same H H' ∧ H' D = some (.lst ((xs.take i).map fun x => V.bl (decide (kf x = "int"))))) ⟨s1.new hD, upd_same⟩ (fun i H' _ p => p.1.seq hs) ?_ ?_
    · rintro i x H' hi ⟨s2, h2⟩
      refine ⟨rfl, _, rfl, x, kf x, rfl, (hx x (List.mem_of_getElem? hi)).same s2, _, h2, (by rw [List.length_map, List.length_take]; exact sm (by omega)), s2.mut hD0, ?_⟩
      rw [upd_same, List.take_succ, hi, List.map_append]
      rfl
    · rintro H' ⟨s2, h2⟩
      rw [List.take_length] at h2
      refine ⟨D, xs.map fun x => decide (kf x = "int"), rfl, SqL.of (by rw [List.map_map]; exact h2), ?_⟩
      rw [all_map_bl]
      exact q H' s2
theorem ok_numsT {f fI fL : Addr} {fd fdI fdL : FuncData} (F : Fun K "is_numbers" "is_numbers" sIsNumbers f fd) (T : Bi mg) (G : DefAt P w K mg base CX0 1 "is_integer" ["value"] (spIsInt K) fI fdI) (L : DefAt P w K mg base CX0 1 "is_list" ["value"] (spIsList K) fL fdL) : FnOk P w K mg base CX0 2 f fd ["value"] (spNumsT K) := by
  refine F.ok scNums (fun vs H Q E h => ?_) (fun cdv A outer s H vs Q E hr h => ?_)
  · obtain ⟨v, k, kf, rfl, _⟩ := h
    rfl
  · refine ⟨_, pss_one (ps_ret (pe_and (pe_call L.ok hr rfl L.g L.kp L.b .nil pass0 (pa_cons (pv 0) pa_nil)) (pe_one (pe_callB (cr_all rfl) (by rfl) T.all (by decide +kernel) (pa_cons (pe_lc (own := [("one", 1)]) (g := gName 1) (tt := tYes) rfl scNums.nd (pi_tup (pv 0))
      (blkOk_by (N := nNums) (sc := defScope sIsNumbers) (by decide +kernel)) (fun _ _ _ _ _ => pg_name (i := 1) scNums.nd rfl (Or.inl rfl)) (fun _ _ _ _ _ => pts_nil) (fun _ _ _ _ _ => pe_call G.ok hr rfl G.g G.kp G.b .nil pass0 (pa_cons (pv 1) pa_nil))) pa_nil))))), ?_⟩
    obtain ⟨a, xs, kf, rfl, hk, hs, hl, hx, q⟩ := h
    refine ⟨_, rfl, _, "tuple", rfl, hk, fun H1 s1 => ⟨_, rfl, iteDT (.inr rfl) ?_⟩⟩
    refine ⟨_, rfl, a, rfl, ⟨_, s1.tup hs⟩, fun D hD => ?_⟩
    have hD0 := s1.free hD
    refine lc_tup (K := K) (a := a) (xs := xs) (fun i H' => Same H H' ∧ H' D = some (.lst ((xs.take i).map fun x => V.bl (decide (kf x = "int"))))) ⟨s1.new hD, upd_same⟩ (fun i H' _ p => p.1.tup hs) ?_ ?_
    · rintro i x H' hi ⟨s2, h2⟩
      refine ⟨rfl, _, rfl, x, kf x, rfl, (hx x (List.mem_of_getElem? hi)).same s2, _, h2, (by rw [List.length_map, List.length_take]; exact sm (by omega)), s2.mut hD0, ?_⟩
      rw [upd_same, List.take_succ, hi, List.map_append]
      rfl
    · rintro H' ⟨s2, h2⟩
      rw [List.take_length] at h2
      refine ⟨D, xs.map fun x => decide (kf x = "int"), rfl, SqL.of (by rw [List.map_map]; exact h2), ?_⟩
      rw [all_map_bl]
      exact q H' s2
end
end K
namespace K
open PySem L2 Rg
open Evl (pss_cut)
/-- the first that stands twice, behind those seen -/
def ft : List Int → List Int → Option Int
  | _, [] => none
  | seen, x :: xs => if x ∈ seen then some x else ft (seen ++ [x]) xs
def oV : Option Int → V
  | none => .non
  | some x => .int x
def seenK (l : List Int) : List (Key × V) := l.map fun k => (Sum.inl k, V.bl true)
theorem seen_val (l : List Int) (n : Int) : valV (seenK l) (Sum.inl n : Key) = if n ∈ l then some (.bl true) else none := by
  induction l with
  | nil => rfl
  | cons x l ih =>
    by_cases e : x = n
    · rw [if_pos (by rw [e]; exact List.mem_cons_self ..)]
      exact valV_pos (p := ((Sum.inl x : Key), V.bl true)) (by rw [e])
    · have h1 : valV (seenK (x :: l)) (Sum.inl n : Key) = valV (seenK l) (Sum.inl n) := valV_neg (p := ((Sum.inl x : Key), V.bl true)) (fun z => e (Sum.inl.inj z))
      rw [h1, ih]
      by_cases f : n ∈ l
      · rw [if_pos f, if_pos (List.mem_cons_of_mem _ f)]
      · rw [if_neg f, if_neg fun z => (List.mem_cons.mp z).elim (fun q => e q.symm) f]
theorem seen_len (l : List Int) : (seenK l).length = l.length := List.length_map ..
theorem seen_put {l : List Int} {n : Int} (h : n ∉ l) : putK (seenK l) (Sum.inl n : Key) (.bl true) = seenK (l ++ [n]) := by
  rw [putK_new _ (by rw [seen_val, if_neg h])]
  simp [seenK]
theorem ft_step {ns : List Int} {i : Nat} {z : Int} (h : ns[i]? = some z) : ft (ns.take i) (ns.drop i) = if z ∈ ns.take i then some z else ft (ns.take (i + 1)) (ns.drop (i + 1)) := by
  obtain ⟨hi, rfl⟩ := List.getElem?_eq_some_iff.mp h
  rw [List.drop_eq_getElem_cons hi, ← take_snoc h]
  rfl
section
variable {P : Program} {w : World} {K : PySem.W.Frag} {mg : Str → Option Value} {base : Heap}
/-! ### fixed, of an int -/
def spFixed : Sp := fun vs H Q _ => ∃ i : Int, vs = [.int i] ∧ ∀ H', Same H H' → Q (.int i) H'
theorem scFixed : FnScope ["value"] ["value"] (defScope sFixed) := ⟨rfl, rfl, rfl, by decide +kernel, rfl, by decide +kernel, by decide +kernel⟩
theorem ok_fixed {f : Addr} {fd : FuncData} (F : Fun K "fixed" "fixed" sFixed f fd) (T : Bi mg) : FnOk P w K mg base CX0 1 f fd ["value"] spFixed := by
  refine F.ok scFixed (fun vs H Q E h => ?_) (fun cdv A outer s H vs Q E hr h => ?_)
  · obtain ⟨v, rfl, _⟩ := h
    rfl
  · refine ⟨_, pss_cons (ps_if (pt_val (pe_callB call_isiT (by rfl) T.isinstance (by decide +kernel) (pa_cons (pv 0) (pa_cons (pe_tup (pa_cons (pe_bltn (v := .ty "list") (u := .type "list") (by rfl) T.list (by decide +kernel) rfl) (pa_cons (pe_bltn (v := .ty "tuple") (u := .type "tuple") (by rfl) T.tuple (by decide +kernel) rfl) pa_nil))) pa_nil)))) (pss_one ps_never) pss_nil)
      (pss_one (ps_ret (pv 0))), ?_⟩
    obtain ⟨i, rfl, q⟩ := h
    refine ⟨_, rfl, (by show 2 ≤ sizeLine; decide), fun p hp => ?_⟩
    have s1 : Same H (upd H p (.tup [.ty "list", .ty "tuple"])) := (Same.refl H).new hp
    refine ⟨.int i, p, [.ty "list", .ty "tuple"], .type "int", _, false, rfl, upd_same, .cons (.ty _) (.cons (.ty _) .nil), .base (.int i), kitAny_cons (kit_ty (kit_list "int" (by decide))) (fun e => kitAny_cons (b := false) (r := false) (kit_ty (kit_tuple "int" (by decide))) (fun _ => kitAny_nil) fun e' => nomatch e') (fun e => nomatch e), _, rfl, iteF ?_⟩
    exact ⟨_, rfl, q _ s1⟩
/-! ### twice_at, first_twice, of ints: a list | a tuple -/
def tatQ (ns : List Int) (H : Hp) (Q : VK) : Prop := ∀ H', Same H H' → (ft [] ns = none → Q .non H') ∧ ∀ (i : Nat) (z : Int), ns[i]? = some z → ft [] ns = some z → Q (.int (i : Nat)) H'
def spTaL (K : PySem.W.Frag) : Sp := fun vs H Q _ => ∃ (a : Addr) (ns : List Int), vs = [.ref a] ∧ SqL K H a (ns.map V.int) ∧ ns.length ≤ 1000 ∧ tatQ ns H Q
def spTaT (K : PySem.W.Frag) : Sp := fun vs H Q _ => ∃ (a : Addr) (ns : List Int), vs = [.ref a] ∧ SqT K H a (ns.map V.int) ∧ ns.length ≤ 1000 ∧ tatQ ns H Q
abbrev nTa : List Str := ["values", "seen", "at", "value", "key"]
theorem scTa : FnScope nTa ["values"] (defScope sTwiceAt) := ⟨rfl, rfl, rfl, by decide +kernel, rfl, by decide +kernel, by decide +kernel⟩
theorem ok_taL {f fX : Addr} {fd fdX : FuncData} (F : Fun K "twice_at" "twice_at" sTwiceAt f fd) (T : Bi mg) (G : DefAt P w K mg base CX0 1 "fixed" ["value"] spFixed fX fdX) : FnOk P w K mg base CX0 2 f fd ["values"] (spTaL K) := by
  refine F.ok scTa (fun vs H Q E h => ?_) (fun cdv A outer s H vs Q E hr h => ?_)
  · obtain ⟨a, ns, rfl, _⟩ := h
    rfl
  · have hu := hu_of hr
    have nd := scTa.nd
    refine ⟨_, pss_cons (ps_set (i := 1) nd rfl (Or.inl rfl) pe_dnewK)
      (pss_cons (ps_for PassesOwn.never rfl (pi_enum (by rfl) T.enumerate (pa_cons (pv 0) pa_nil)) (pg_tup rfl (pgs_cons (pg_name (i := 2) nd rfl (Or.inl rfl)) (pgs_cons (pg_name (i := 3) nd rfl (Or.inl rfl)) pgs_nil)))
        (pss_cons (ps_set (i := 4) nd rfl (Or.inl rfl) (pe_call G.ok hr rfl G.g G.kp G.b .nil pass0 (pa_cons (pv 3) pa_nil)))
        (pss_cons (ps_if (pt_cmp (pc_din hu (pv 4) (pv 1))) (pss_one (ps_ret (pv 2))) pss_nil)
        (pss_one (ps_dput hu (pv 1) (pv 4) pe_bl rfl)))))
      (pss_one (ps_ret pe_non))), ?_⟩
    obtain ⟨a, ns, rfl, hs, hl, q⟩ := h
    intro d hd
    refine ⟨_, rfl, a, _, rfl, ((Same.refl H).new hd).seq hs, ?_⟩
    refine for_it walk_enum (fun i σ H' => ∃ (z1 v k : Option V), σ = [some (.ref a), some (.ref d), z1, v, k] ∧ Same H H' ∧ H' d = some (.dK (seenK (ns.take i))) ∧ ft [] ns = ft (ns.take i) (ns.drop i))
      ⟨none, none, none, rfl, (Same.refl H).new hd, upd_same, rfl⟩ (fun i σ H' _ ⟨_, _, _, _, s, _⟩ => s.seq hs) ?_ ?_
    · rintro i x σ H1 H2 hi ⟨z1, v, k, rfl, s1, h1, e1⟩ ⟨U, x1, x2, rfl, hU, rfl, ex1, ex2⟩
      obtain rfl := (Option.some.inj ex1).symm
      obtain ⟨z, hz, rfl⟩ := int_at ex2
      rw [List.length_map] at hi
      rw [ft_step hz] at e1
      have s2 : Same H1 (upd H1 U (.tup [.int (i : Nat), .int z])) := (Same.refl H1).new hU
      refine ⟨U, _, rfl, .inl (.inl upd_same), rfl, _, _, rfl, _, _, rfl, rfl, ?_⟩
      refine ⟨_, rfl, z, rfl, fun H3 s3 => ?_⟩
      have h3 := s3 _ _ (s2 _ _ h1)
      have s13 := s1.trans (s2.trans s3)
      refine ⟨_, rfl, _, rfl, d, _, rfl, DGet.k (k := Sum.inl z) h3, _, rfl, ?_⟩
      rw [seen_val]
      by_cases c : z ∈ ns.take i
      · rw [if_pos c] at e1 ⊢
        refine iteT ?_
        exact ⟨_, rfl, (q H3 s13).2 i z hz e1⟩
      · rw [if_neg c] at e1 ⊢
        refine iteF ?_
        refine ⟨_, rfl, _, rfl, d, _, rfl, DPut.k (k := Sum.inl z) h3 (by rw [seen_len, List.length_take]; exact sm (by omega)), ?_⟩
        rw [seen_put c, take_snoc hz]
        exact ⟨_, _, _, rfl, s13.mut hd, upd_same, e1⟩
    · rintro σ H' ⟨z1, v, k, rfl, s1, h1, e1⟩
      rw [List.length_map, List.drop_length] at e1
      exact (q H' s1).1 e1
theorem ok_taT {f fX : Addr} {fd fdX : FuncData} (F : Fun K "twice_at" "twice_at" sTwiceAt f fd) (T : Bi mg) (G : DefAt P w K mg base CX0 1 "fixed" ["value"] spFixed fX fdX) : FnOk P w K mg base CX0 2 f fd ["values"] (spTaT K) := by
  refine F.ok scTa (fun vs H Q E h => ?_) (fun cdv A outer s H vs Q E hr h => ?_)
  · obtain ⟨a, ns, rfl, _⟩ := h
    rfl
  · have hu := hu_of hr
    have nd := scTa.nd
    refine ⟨_, pss_cons (ps_set (i := 1) nd rfl (Or.inl rfl) pe_dnewK)
      (pss_cons (ps_for PassesOwn.never rfl (pi_enumT (by rfl) T.enumerate (pa_cons (pv 0) pa_nil)) (pg_tup rfl (pgs_cons (pg_name (i := 2) nd rfl (Or.inl rfl)) (pgs_cons (pg_name (i := 3) nd rfl (Or.inl rfl)) pgs_nil)))
        (pss_cons (ps_set (i := 4) nd rfl (Or.inl rfl) (pe_call G.ok hr rfl G.g G.kp G.b .nil pass0 (pa_cons (pv 3) pa_nil)))
        (pss_cons (ps_if (pt_cmp (pc_din hu (pv 4) (pv 1))) (pss_one (ps_ret (pv 2))) pss_nil)
        (pss_one (ps_dput hu (pv 1) (pv 4) pe_bl rfl)))))
      (pss_one (ps_ret pe_non))), ?_⟩
    obtain ⟨a, ns, rfl, hs, hl, q⟩ := h
    intro d hd
    refine ⟨_, rfl, a, _, rfl, ((Same.refl H).new hd).tup hs, ?_⟩
    refine for_it walk_enumT (fun i σ H' => ∃ (z1 v k : Option V), σ = [some (.ref a), some (.ref d), z1, v, k] ∧ Same H H' ∧ H' d = some (.dK (seenK (ns.take i))) ∧ ft [] ns = ft (ns.take i) (ns.drop i))
      ⟨none, none, none, rfl, (Same.refl H).new hd, upd_same, rfl⟩ (fun i σ H' _ ⟨_, _, _, _, s, _⟩ => s.tup hs) ?_ ?_
    · rintro i x σ H1 H2 hi ⟨z1, v, k, rfl, s1, h1, e1⟩ ⟨U, x1, x2, rfl, hU, rfl, ex1, ex2⟩
      obtain rfl := (Option.some.inj ex1).symm
      obtain ⟨z, hz, rfl⟩ := int_at ex2
      rw [List.length_map] at hi
      rw [ft_step hz] at e1
      have s2 : Same H1 (upd H1 U (.tup [.int (i : Nat), .int z])) := (Same.refl H1).new hU
      refine ⟨U, _, rfl, .inl (.inl upd_same), rfl, _, _, rfl, _, _, rfl, rfl, ?_⟩
      refine ⟨_, rfl, z, rfl, fun H3 s3 => ?_⟩
      have h3 := s3 _ _ (s2 _ _ h1)
      have s13 := s1.trans (s2.trans s3)
      refine ⟨_, rfl, _, rfl, d, _, rfl, DGet.k (k := Sum.inl z) h3, _, rfl, ?_⟩
      rw [seen_val]
      by_cases c : z ∈ ns.take i
      · rw [if_pos c] at e1 ⊢
        refine iteT ?_
        exact ⟨_, rfl, (q H3 s13).2 i z hz e1⟩
      · rw [if_neg c] at e1 ⊢
        refine iteF ?_
        refine ⟨_, rfl, _, rfl, d, _, rfl, DPut.k (k := Sum.inl z) h3 (by rw [seen_len, List.length_take]; exact sm (by omega)), ?_⟩
        rw [seen_put c, take_snoc hz]
        exact ⟨_, _, _, rfl, s13.mut hd, upd_same, e1⟩
    · rintro σ H' ⟨z1, v, k, rfl, s1, h1, e1⟩
      rw [List.length_map, List.drop_length] at e1
      exact (q H' s1).1 e1
def spTwL (K : PySem.W.Frag) : Sp := fun vs H Q _ => ∃ (a : Addr) (ns : List Int), vs = [.ref a] ∧ SqL K H a (ns.map V.int) ∧ ns.length ≤ 1000 ∧ ∀ H', Same H H' → Q (oV (ft [] ns)) H'
def spTwT (K : PySem.W.Frag) : Sp := fun vs H Q _ => ∃ (a : Addr) (ns : List Int), vs = [.ref a] ∧ SqT K H a (ns.map V.int) ∧ ns.length ≤ 1000 ∧ ∀ H', Same H H' → Q (oV (ft [] ns)) H'
theorem ft_mem : ∀ (xs seen : List Int) (z : Int), ft seen xs = some z → z ∈ xs
  | [], seen, z, h => by cases h
  | x :: xs, seen, z, h => by
    unfold ft at h
    by_cases c : x ∈ seen
    · rw [if_pos c] at h
      rw [Option.some.inj h]
      exact List.mem_cons_self ..
    · rw [if_neg c] at h
      exact List.mem_cons_of_mem _ (ft_mem xs _ z h)
abbrev nTw : List Str := ["values", "at"]
theorem scTw : FnScope nTw ["values"] (defScope sFirstTwice) := ⟨rfl, rfl, rfl, by decide +kernel, rfl, by decide +kernel, by decide +kernel⟩
theorem ok_twL {f fX fA : Addr} {fd fdX fdA : FuncData} (F : Fun K "first_twice" "first_twice" sFirstTwice f fd) (G : DefAt P w K mg base CX0 1 "fixed" ["value"] spFixed fX fdX) (A' : DefAt P w K mg base CX0 2 "twice_at" ["values"] (spTaL K) fA fdA) : FnOk P w K mg base CX0 3 f fd ["values"] (spTwL K) := by
  refine F.ok scTw (fun vs H Q E h => ?_) (fun cdv A outer s H vs Q E hr h => ?_)
  · obtain ⟨a, ns, rfl, _⟩ := h
    rfl
  · have nd := scTw.nd
    refine ⟨_, pss_cons (ps_set (i := 1) nd rfl (Or.inl rfl) (pe_call A'.ok hr rfl A'.g A'.kp A'.b .nil pass0 (pa_cons (pv 0) pa_nil)))
      (pss_one (ps_ret (pe_ifExp (pt_cmpR op_isN (pv 1) pe_non (nomark _)) pe_non (pe_call G.ok (hr.mono (by decide)) rfl G.g G.kp G.b .nil pass0 (pa_cons (pe_ix (r := rIxL K) ix_list (pv 0) (pv 1) (fun _ _ => rfl)) pa_nil))))), ?_⟩
    obtain ⟨a, ns, rfl, hs, hl, q⟩ := h
    refine ⟨_, rfl, a, ns, rfl, hs, hl, fun H1 s1 => ⟨fun e => ?_, fun i z hz e => ?_⟩⟩
    · have qq := q H1 s1
      rw [e] at qq
      exact ⟨_, rfl, rfl, _, rfl, iteT qq⟩
    · refine ⟨_, rfl, rfl, _, rfl, iteF ?_⟩
      refine ⟨_, rfl, _, rfl, a, _, _, _, rfl, rfl, s1.seq hs, atI_nat (by rw [List.getElem?_map, hz]; rfl), z, rfl, fun H2 s2 => ?_⟩
      have qq := q H2 (s1.trans s2)
      rw [e] at qq
      exact qq
theorem ok_twT {f fX fA : Addr} {fd fdX fdA : FuncData} (F : Fun K "first_twice" "first_twice" sFirstTwice f fd) (G : DefAt P w K mg base CX0 1 "fixed" ["value"] spFixed fX fdX) (A' : DefAt P w K mg base CX0 2 "twice_at" ["values"] (spTaT K) fA fdA) : FnOk P w K mg base CX0 3 f fd ["values"] (spTwT K) := by
  refine F.ok scTw (fun vs H Q E h => ?_) (fun cdv A outer s H vs Q E hr h => ?_)
  · obtain ⟨a, ns, rfl, _⟩ := h
    rfl
  · have nd := scTw.nd
    refine ⟨_, pss_cons (ps_set (i := 1) nd rfl (Or.inl rfl) (pe_call A'.ok hr rfl A'.g A'.kp A'.b .nil pass0 (pa_cons (pv 0) pa_nil)))
      (pss_one (ps_ret (pe_ifExp (pt_cmpR op_isN (pv 1) pe_non (nomark _)) pe_non (pe_call G.ok (hr.mono (by decide)) rfl G.g G.kp G.b .nil pass0 (pa_cons (pe_ix (r := rIxT K) ix_tup (pv 0) (pv 1) (fun _ _ => rfl)) pa_nil))))), ?_⟩
    obtain ⟨a, ns, rfl, hs, hl, q⟩ := h
    refine ⟨_, rfl, a, ns, rfl, hs, hl, fun H1 s1 => ⟨fun e => ?_, fun i z hz e => ?_⟩⟩
    · have qq := q H1 s1
      rw [e] at qq
      exact ⟨_, rfl, rfl, _, rfl, iteT qq⟩
    · refine ⟨_, rfl, rfl, _, rfl, iteF ?_⟩
      refine ⟨_, rfl, _, rfl, a, _, _, _, rfl, rfl, s1.tup hs, atI_nat (by rw [List.getElem?_map, hz]; rfl), z, rfl, fun H2 s2 => ?_⟩
      have qq := q H2 (s1.trans s2)
      rw [e] at qq
      exact qq
end
end K
namespace K
open PySem L2 Rg
open Evl (pss_cut)
section
variable {P : Program} {w : World} {K : PySem.W.Frag} {mg : Str → Option Value} {base : Heap}
/-! ### errors with one field -/
def spIni (K : PySem.W.Frag) (f : Str) : Sp := fun vs H Q _ => ∃ (a C : Addr) (v : V), vs = [.ref a, v] ∧ OexC K C ∧ PySem.W.findIn K (.ref C) f = some none ∧ H a = some (exo a C none) ∧
  ∀ d, H d = none → d ≠ a → Q .non (upd (upd H d (exd d [(f, v)])) a (exo a C (some d)))
theorem scBadLot : FnScope ["self", "part"] ["self", "part"] (defScope sBadLotInit) := ⟨rfl, rfl, rfl, by decide +kernel, rfl, by decide +kernel, by decide +kernel⟩
theorem scMissing : FnScope ["self", "value"] ["self", "value"] (defScope sMissingInit) := ⟨rfl, rfl, rfl, by decide +kernel, rfl, by decide +kernel, by decide +kernel⟩
theorem scTwice : FnScope ["self", "value"] ["self", "value"] (defScope sTwiceInit) := ⟨rfl, rfl, rfl, by decide +kernel, rfl, by decide +kernel, by decide +kernel⟩
theorem ok_badLotI {f : Addr} {fd : FuncData} (F : Fun K "__init__" "BadLot.__init__" sBadLotInit f fd) : FnOk P w K mg base CX0 1 f fd ["self", "part"] (spIni K "part") := by
  refine F.ok scBadLot (fun vs H Q E h => ?_) (fun cdv A outer s H vs Q E hr h => ?_)
  · obtain ⟨a, C, v, rfl, _⟩ := h
    rfl
  · refine ⟨_, pss_one (ps_ost (pv 0) (pv 1)), ?_⟩
    obtain ⟨a, C, v, rfl, o, n, ha, k⟩ := h
    exact ⟨_, rfl, _, rfl, a, C, rfl, o, n, .inl ⟨ha, fun d h1 h2 => k d h1 h2⟩⟩
theorem ok_missingI {f : Addr} {fd : FuncData} (F : Fun K "__init__" "Missing.__init__" sMissingInit f fd) : FnOk P w K mg base CX0 1 f fd ["self", "value"] (spIni K "value") := by
  refine F.ok scMissing (fun vs H Q E h => ?_) (fun cdv A outer s H vs Q E hr h => ?_)
  · obtain ⟨a, C, v, rfl, _⟩ := h
    rfl
  · refine ⟨_, pss_one (ps_ost (pv 0) (pv 1)), ?_⟩
    obtain ⟨a, C, v, rfl, o, n, ha, k⟩ := h
    exact ⟨_, rfl, _, rfl, a, C, rfl, o, n, .inl ⟨ha, fun d h1 h2 => k d h1 h2⟩⟩
theorem ok_twiceI {f : Addr} {fd : FuncData} (F : Fun K "__init__" "Twice.__init__" sTwiceInit f fd) : FnOk P w K mg base CX0 1 f fd ["self", "value"] (spIni K "value") := by
  refine F.ok scTwice (fun vs H Q E h => ?_) (fun cdv A outer s H vs Q E hr h => ?_)
  · obtain ⟨a, C, v, rfl, _⟩ := h
    rfl
  · refine ⟨_, pss_one (ps_ost (pv 0) (pv 1)), ?_⟩
    obtain ⟨a, C, v, rfl, o, n, ha, k⟩ := h
    exact ⟨_, rfl, _, rfl, a, C, rfl, o, n, .inl ⟨ha, fun d h1 h2 => k d h1 h2⟩⟩
/-- the class x of errors with the field f, at C, its __init__ at fI -/
structure ErrAt (P : Program) (w : World) (K : PySem.W.Frag) (mg : Str → Option Value) (base : Heap) (x f : Str) (C fI : Addr) (fdI : FuncData) : Prop where
  oex : OexC K C
  ic : PySem.W.findIn K (.ref C) "__init__" = some (some (.ref fI))
  ti : PySem.W.typeIn K (.ref fI) = some (.type "function")
  nf : PySem.W.findIn K (.ref C) f = some none
  g : mg x = some (.ref C)
  b : Binds K fdI ["self", f] []
  ok : FnOk P w K mg base CX0 1 fI fdI ["self", f] (spIni K f)
/-- an error of the class at C with the field f holding v leaves; what was tracked stands -/
def Errs (E : XK) (C : Addr) (f : Str) (v : V) (H : Hp) : Prop := ∀ (d : Addr) (H' : Hp), Same H H' → H d = none → H' d = some (.xd [(f, v)]) → E (.ref C) (some d) H'
theorem Errs.later {E : XK} {C : Addr} {f : Str} {v : V} {H H1 : Hp} (h : Errs E C f v H) (s : Same H H1) : Errs E C f v H1 := fun d H' s' n e => h d H' (s.trans s') (s.free n) e
/-- the making of such an error, as a raise asks it -/
theorem err_made {E : XK} {C : Addr} {f : Str} {v : V} {H : Hp} (o : OexC K C) (n : PySem.W.findIn K (.ref C) f = some none) (h : Errs E C f v H) :
    ([v] : List V).length ≤ 1000 ∧ ∀ a, H a = none → spIni K f (.ref a :: ([v] ++ [])) (upd H a (exo a C none))
      (fun u H2 => u = .non ∧ ∃ (d : Addr) (fs : List (Str × V)), H2 a = some (exo a C (some d)) ∧ H2 d = some (exd d fs) ∧ H d = none ∧ E (.ref C) (some d) (upd (del H2 a) d (.xd fs))) (fun _ _ _ => False) := by
  refine ⟨(by show 1 ≤ 1000; decide), fun a ha => ⟨a, C, v, rfl, o, n, upd_same, fun d hd hda => ⟨rfl, d, [(f, v)], upd_same, by rw [upd_ne hda, upd_same], ?_, ?_⟩⟩⟩
  · rw [upd_ne hda] at hd
    exact hd
  · rw [upd_ne hda] at hd
    refine h d _ (fun b u e => ?_) hd upd_same
    have hba : b ≠ a := ne_of_none e ha
    have hbd : b ≠ d := ne_of_none e hd
    rw [upd_ne hbd, del_ne hba, upd_ne hba, upd_ne hbd, upd_ne hba]
    exact e
/-! ### want_bar -/
def spWantBar (C : Addr) : Sp := fun vs H Q E => ∃ (v many : Int), vs = [.int v, .int many] ∧ ((0 ≤ v ∧ v < many ∧ ∀ H', Same H H' → Q .non H') ∨ (¬ (0 ≤ v ∧ v < many) ∧ Errs E C "value" (.int v) H))
theorem scWantBar : FnScope ["value", "many"] ["value", "many"] (defScope sWantBar) := ⟨rfl, rfl, rfl, by decide +kernel, rfl, by decide +kernel, by decide +kernel⟩
theorem ok_wantBar {f fW C fI : Addr} {fd fdW fdI : FuncData} (F : Fun K "want_bar" "want_bar" sWantBar f fd) (W : DefAt P w K mg base CX0 2 "is_within" ["value", "least", "most"] spWithin fW fdW) (B : ErrAt P w K mg base "NoBar" "value" C fI fdI) :
    FnOk P w K mg base (L2.CX P w) 3 f fd ["value", "many"] (spWantBar C) := by
  refine F.okX scWantBar (fun vs H Q E h => ?_) (fun cdv A outer s H vs Q E hr h => ?_)
  · obtain ⟨v, many, rfl, _⟩ := h
    rfl
  · refine ⟨_, pss_one (ps_if (pt_not (pt_val (pe_call W.ok hr rfl W.g W.kp W.b .nil pass0 (pa_cons (pv 0) (pa_cons pe_int (pa_cons (pe_op op_sub (pv 1) pe_int) pa_nil))))))
      (pss_one (ps_raise rfl (takes_of rfl rfl rfl rfl) (pmk_oex B.oex B.ic B.ti B.ok hr B.b .nil pass0 rfl B.g (pa_cons (pv 0) pa_nil)))) pss_nil), ?_⟩
    obtain ⟨v, many, rfl, h⟩ := h
    refine ⟨_, rfl, _, rfl, _, _, rfl, rfl, v, 0, many - 1, rfl, _, rfl, ?_⟩
    rcases h with ⟨h0, h1, q⟩ | ⟨hn, q⟩
    · refine iteBF ?_ (q H (Same.refl H))
      simp only [decide_eq_true h0, decide_eq_true (show v ≤ many - 1 by omega)]
      rfl
    · refine iteBT ?_ ?_
      · have e : (decide (0 ≤ v) && decide (v ≤ many - 1)) = false := by
          cases c : (decide (0 ≤ v) && decide (v ≤ many - 1)) with
          | false => rfl
          | true =>
            simp only [Bool.and_eq_true, decide_eq_true_eq] at c
            exact absurd ⟨c.1, by omega⟩ hn
        show (!(decide (0 ≤ v) && decide (v ≤ many - 1))) = true
        rw [e]
        rfl
      · exact ⟨_, rfl, err_made B.oex B.nf q⟩
end
end K
namespace K
open PySem L2 Rg
open Evl (pss_cut)
/-- what becomes of a lot that is passed -/
inductive Lr where
  | bad | bar (b : Int) | twice (b : Int) | ok (ns : List Int)
def isBar (many b : Int) : Bool := decide (0 ≤ b) && decide (b < many)
def res (many : Int) (ns : List Int) : Lr := match ns.find? (fun b => !isBar many b) with
  | some b => .bar b
  | none => match ft [] ns with
    | some b => .twice b
    | none => .ok ns
theorem isBar_iff {many b : Int} : isBar many b = true ↔ 0 ≤ b ∧ b < many := by
  unfold isBar
  rw [Bool.and_eq_true, decide_eq_true_eq, decide_eq_true_eq]
theorem res_bar {many b : Int} {ns : List Int} {i : Nat} (h : ∀ x ∈ ns.take i, isBar many x = true) (hb : ns[i]? = some b) (nb : ¬ isBar many b = true) : res many ns = .bar b := by
  have e : ns.find? (fun b => !isBar many b) = some b := by
    obtain ⟨hi, rfl⟩ := List.getElem?_eq_some_iff.mp hb
    have e1 : ns = ns.take i ++ ns[i] :: ns.drop (i + 1) := by rw [List.getElem_cons_drop, List.take_append_drop]
    have e2 : (ns.take i).find? (fun b => !isBar many b) = none := List.find?_eq_none.mpr fun x hx => by rw [h x hx]; decide
    have e3 : ns.find? (fun b => !isBar many b) = (ns.take i ++ ns[i] :: ns.drop (i + 1)).find? (fun b => !isBar many b) := congrArg _ e1
    rw [e3, List.find?_append, e2, List.find?_cons]
    have e4 : isBar many ns[i] = false := by
      cases q : isBar many ns[i] with
      | false => rfl
      | true => exact absurd q nb
    rw [e4]
    rfl
  unfold res
  rw [e]
theorem res_all {many : Int} {ns : List Int} (h : ∀ x ∈ ns, isBar many x = true) : res many ns = match ft [] ns with | some b => .twice b | none => .ok ns := by
  have e : ns.find? (fun b => !isBar many b) = none := List.find?_eq_none.mpr fun x hx => by rw [h x hx]; decide
  unfold res
  rw [e]
section
variable {P : Program} {w : World} {K : PySem.W.Frag} {mg : Str → Option Value} {base : Heap}
/-- where the three errors stand -/
structure Cs where
  l : Addr
  n : Addr
  t : Addr
def LotFin (E : XK) (c : Cs) (part : Str) (H : Hp) (r : Lr) (k : List Int → Prop) : Prop := match r with
  | .bad => Errs E c.l "part" (.str part) H
  | .bar b => Errs E c.n "value" (.int b) H
  | .twice b => Errs E c.t "value" (.int b) H
  | .ok ns => k ns
def spWLO (K : PySem.W.Frag) (c : Cs) : Sp := fun vs H Q E => ∃ (v : V) (k : String) (many : Int) (part : Str), vs = [v, .int many, .str part] ∧ Knd K H v k ∧ k ≠ "list" ∧ k ≠ "tuple" ∧ Errs E c.l "part" (.str part) H
def spWLL (K : PySem.W.Frag) (c : Cs) : Sp := fun vs H Q E => ∃ (a : Addr) (xs : List V) (kf : V → String) (many : Int) (part : Str), vs = [.ref a, .int many, .str part] ∧ Knd K H (.ref a) "list" ∧ SqL K H a xs ∧ xs.length ≤ 1000 ∧ (∀ x ∈ xs, Knd K H x (kf x)) ∧
  (((xs.all fun x => decide (kf x = "int")) = false ∧ Errs E c.l "part" (.str part) H) ∨
   ∃ ns, xs = ns.map V.int ∧ (xs.all fun x => decide (kf x = "int")) = true ∧ LotFin E c part H (res many ns) fun ns => ∀ (p : Addr) (ms : List Int) (H' : Hp), ms.Perm ns → Same H H' → H' p = some (.tup (ms.map V.int)) → Q (.ref p) H')
def spWLT (K : PySem.W.Frag) (c : Cs) : Sp := fun vs H Q E => ∃ (a : Addr) (ns : List Int) (many : Int) (part : Str), vs = [.ref a, .int many, .str part] ∧ Knd K H (.ref a) "tuple" ∧ SqT K H a (ns.map V.int) ∧ ns.length ≤ 1000 ∧
  LotFin E c part H (res many ns) fun ns => ∀ (p : Addr) (ms : List Int) (H' : Hp), ms.Perm ns → Same H H' → H' p = some (.tup (ms.map V.int)) → Q (.ref p) H'
abbrev nWL : List Str := ["value", "many", "part", "bar", "twice"]
theorem scWL : FnScope nWL ["value", "many", "part"] (defScope sWantLot) := ⟨rfl, rfl, rfl, by decide +kernel, rfl, by decide +kernel, by decide +kernel⟩
theorem ok_wlO {f fN fB fT : Addr} {c : Cs} {fL fTI : Addr} {fd fdN fdB fdT fdL fdTI : FuncData} (F : Fun K "want_lot" "want_lot" sWantLot f fd) (T : Bi mg) (N : DefAt P w K mg base CX0 2 "is_numbers" ["value"] (spNumsO K) fN fdN) (B : DefAt P w K mg base (L2.CX P w) 3 "want_bar" ["value", "many"] (spWantBar c.n) fB fdB)
    (Tw : DefAt P w K mg base CX0 3 "first_twice" ["values"] (spTwL K) fT fdT) (L : ErrAt P w K mg base "BadLot" "part" c.l fL fdL) (TI : ErrAt P w K mg base "Twice" "value" c.t fTI fdTI) : FnOk P w K mg base (L2.CX P w) 4 f fd ["value", "many", "part"] (spWLO K c) := by
  refine F.okX scWL (fun vs H Q E h => ?_) (fun cdv A outer s H vs Q E hr h => ?_)
  · obtain ⟨v, k, many, part, rfl, _⟩ := h
    rfl
  · have nd := scWL.nd
    have hr2 : Room 2 (A.deeper (PyProof.Rows.envOfC "want_lot" (defScope sWantLot) s.heap.objs.size f cdv)) := hr.mono (by decide)
    refine ⟨_, pss_cons (ps_if (pt_not (pt_val (pe_call N.ok hr2 rfl N.g N.kp N.b .nil pass0 (pa_cons (pv 0) pa_nil)))) (pss_one (ps_raise rfl (takes_of rfl rfl rfl rfl) (pmk_oex L.oex L.ic L.ti L.ok hr2 L.b .nil pass0 rfl L.g (pa_cons (pv 2) pa_nil)))) pss_nil) pss_never, ?_⟩
    obtain ⟨v, k, many, part, rfl, hk, k1, k2, q⟩ := h
    exact ⟨_, rfl, v, k, rfl, hk, k1, k2, fun H' s1 => ⟨_, rfl, iteT ⟨_, rfl, err_made L.oex L.nf (q.later s1)⟩⟩⟩
theorem ok_wlL {f fN fB fT : Addr} {c : Cs} {fL fTI : Addr} {fd fdN fdB fdT fdL fdTI : FuncData} (F : Fun K "want_lot" "want_lot" sWantLot f fd) (T : Bi mg) (N : DefAt P w K mg base CX0 2 "is_numbers" ["value"] (spNumsL K) fN fdN) (B : DefAt P w K mg base (L2.CX P w) 3 "want_bar" ["value", "many"] (spWantBar c.n) fB fdB)
    (Tw : DefAt P w K mg base CX0 3 "first_twice" ["values"] (spTwL K) fT fdT) (L : ErrAt P w K mg base "BadLot" "part" c.l fL fdL) (TI : ErrAt P w K mg base "Twice" "value" c.t fTI fdTI) : FnOk P w K mg base (L2.CX P w) 4 f fd ["value", "many", "part"] (spWLL K c) := by
  refine F.okX scWL (fun vs H Q E h => ?_) (fun cdv A outer s H vs Q E hr h => ?_)
  · obtain ⟨a, xs, kf, many, part, rfl, _⟩ := h
    rfl
  · have nd := scWL.nd
    have hr2 : Room 2 (A.deeper (PyProof.Rows.envOfC "want_lot" (defScope sWantLot) s.heap.objs.size f cdv)) := hr.mono (by decide)
    refine ⟨_, pss_cons (ps_if (pt_not (pt_val (pe_call N.ok hr2 rfl N.g N.kp N.b .nil pass0 (pa_cons (pv 0) pa_nil)))) (pss_one (ps_raise rfl (takes_of rfl rfl rfl rfl) (pmk_oex L.oex L.ic L.ti L.ok hr2 L.b .nil pass0 rfl L.g (pa_cons (pv 2) pa_nil)))) pss_nil)
      (pss_cons (ps_for (passes_of rfl) rfl (pi_list (pv 0)) (pg_name (i := 3) nd rfl (Or.inl rfl)) (pss_one (ps_expr (pe_call B.ok hr rfl B.g B.kp B.b .nil (passes_call (takes_of rfl rfl rfl rfl) (fun _ _ _ _ h => h)) (pa_cons (pv 3) (pa_cons (pv 1) pa_nil))))))
      (pss_cons (ps_set (i := 4) nd rfl (Or.inl rfl) (pe_call Tw.ok hr rfl Tw.g Tw.kp Tw.b .nil pass0 (pa_cons (pv 0) pa_nil)))
      (pss_cons (ps_if (pt_cmpR op_notN (pv 4) pe_non (nomark _)) (pss_one (ps_raise rfl (takes_of rfl rfl rfl rfl) (pmk_oex TI.oex TI.ic TI.ti TI.ok hr2 TI.b .nil pass0 rfl TI.g (pa_cons (pv 4) pa_nil)))) pss_nil)
      (pss_one (ps_ret (pe_callTy call_tuple_of (by rfl) T.tuple (by decide +kernel) (pa_cons (pe_callB cr_sortedI (by rfl) T.sorted (by decide +kernel) (pa_cons (pv 0) pa_nil)) pa_nil))))))), ?_⟩
    obtain ⟨a, xs, kf, many, part, rfl, hk, hs, hl, hx, q⟩ := h
    refine ⟨_, rfl, a, xs, kf, rfl, hk, hs, hl, hx, fun H1 s1 => ⟨_, rfl, ?_⟩⟩
    rcases q with ⟨e, q⟩ | ⟨ns, rfl, e, q⟩
    · rw [e]
      exact iteT ⟨_, rfl, err_made L.oex L.nf (q.later s1)⟩
    · rw [e]
      refine iteF ?_
      refine ⟨_, rfl, a, rfl, ⟨_, s1.seq hs⟩, for_list (K := K) (a := a) (xs := ns.map V.int) (fun i σ H' => ∃ (b : Option V), σ = [some (.ref a), some (.int many), some (.str part), b, none] ∧ Same H H' ∧ ∀ x ∈ ns.take i, isBar many x = true)
        ⟨none, rfl, s1, fun x hx => nomatch hx⟩ (fun i σ H' _ ⟨_, _, s, _⟩ => s.seq hs) ?_ ?_⟩
      · rintro i x σ H' hi ⟨b, rfl, s2, al⟩
        obtain ⟨z, hz, rfl⟩ := int_at hi
        refine ⟨_, rfl, _, rfl, z, many, rfl, ?_⟩
        by_cases c : isBar many z = true
        · obtain ⟨c1, c2⟩ := isBar_iff.mp c
          refine .inl ⟨c1, c2, fun H3 s3 => ⟨_, rfl, s2.trans s3, fun y hy => ?_⟩⟩
          rw [← take_snoc hz] at hy
          rcases List.mem_append.mp hy with m | m
          · exact al y m
          · rw [List.mem_singleton.mp m]
            exact c
        · refine .inr ⟨fun z => c (isBar_iff.mpr z), ?_⟩
          rw [res_bar al hz c] at q
          exact Errs.later q s2
      · rintro σ H' ⟨b, rfl, s2, al⟩
        rw [List.length_map, List.take_length] at al
        rw [res_all al] at q
        rw [List.length_map] at hl
        refine ⟨_, rfl, a, ns, rfl, s2.seq hs, hl, fun H3 s3 => ?_⟩
        have s23 := s2.trans s3
        cases e2 : ft [] ns with
        | some z =>
          rw [e2] at q
          exact ⟨_, rfl, rfl, _, rfl, iteT ⟨_, rfl, err_made TI.oex TI.nf (Errs.later q s23)⟩⟩
        | none =>
          rw [e2] at q
          refine ⟨_, rfl, rfl, _, rfl, iteF ?_⟩
          refine ⟨_, rfl, a, ns, rfl, s23.seq hs, fun ms p pm _ hp => ⟨p, _, rfl, .inl ⟨SqL.of upd_same, fun t ht => ?_⟩⟩⟩
          exact q t ms _ pm ((s23.new hp).new ht) upd_same
theorem ok_wlT {f fN fB fT : Addr} {c : Cs} {fL fTI : Addr} {fd fdN fdB fdT fdL fdTI : FuncData} (F : Fun K "want_lot" "want_lot" sWantLot f fd) (T : Bi mg) (N : DefAt P w K mg base CX0 2 "is_numbers" ["value"] (spNumsT K) fN fdN) (B : DefAt P w K mg base (L2.CX P w) 3 "want_bar" ["value", "many"] (spWantBar c.n) fB fdB)
    (Tw : DefAt P w K mg base CX0 3 "first_twice" ["values"] (spTwT K) fT fdT) (L : ErrAt P w K mg base "BadLot" "part" c.l fL fdL) (TI : ErrAt P w K mg base "Twice" "value" c.t fTI fdTI) : FnOk P w K mg base (L2.CX P w) 4 f fd ["value", "many", "part"] (spWLT K c) := by
  refine F.okX scWL (fun vs H Q E h => ?_) (fun cdv A outer s H vs Q E hr h => ?_)
  · obtain ⟨a, ns, many, part, rfl, _⟩ := h
    rfl
  · have nd := scWL.nd
    have hr2 : Room 2 (A.deeper (PyProof.Rows.envOfC "want_lot" (defScope sWantLot) s.heap.objs.size f cdv)) := hr.mono (by decide)
    refine ⟨_, pss_cons (ps_if (pt_not (pt_val (pe_call N.ok hr2 rfl N.g N.kp N.b .nil pass0 (pa_cons (pv 0) pa_nil)))) (pss_one (ps_raise rfl (takes_of rfl rfl rfl rfl) (pmk_oex L.oex L.ic L.ti L.ok hr2 L.b .nil pass0 rfl L.g (pa_cons (pv 2) pa_nil)))) pss_nil)
      (pss_cons (ps_for (passes_of rfl) rfl (pi_tup (pv 0)) (pg_name (i := 3) nd rfl (Or.inl rfl)) (pss_one (ps_expr (pe_call B.ok hr rfl B.g B.kp B.b .nil (passes_call (takes_of rfl rfl rfl rfl) (fun _ _ _ _ h => h)) (pa_cons (pv 3) (pa_cons (pv 1) pa_nil))))))
      (pss_cons (ps_set (i := 4) nd rfl (Or.inl rfl) (pe_call Tw.ok hr rfl Tw.g Tw.kp Tw.b .nil pass0 (pa_cons (pv 0) pa_nil)))
      (pss_cons (ps_if (pt_cmpR op_notN (pv 4) pe_non (nomark _)) (pss_one (ps_raise rfl (takes_of rfl rfl rfl rfl) (pmk_oex TI.oex TI.ic TI.ti TI.ok hr2 TI.b .nil pass0 rfl TI.g (pa_cons (pv 4) pa_nil)))) pss_nil)
      (pss_one (ps_ret (pe_callTy call_tuple_of (by rfl) T.tuple (by decide +kernel) (pa_cons (pe_callB cr_sortedT (by rfl) T.sorted (by decide +kernel) (pa_cons (pv 0) pa_nil)) pa_nil))))))), ?_⟩
    obtain ⟨a, ns, many, part, rfl, hk, hs, hl, q⟩ := h
    refine ⟨_, rfl, a, _, (fun _ => "int"), rfl, hk, hs, (by rw [List.length_map]; exact hl), (fun x hx => ?_), fun H1 s1 => ⟨_, rfl, ?_⟩⟩
    · obtain ⟨z, _, rfl⟩ := List.mem_map.mp hx
      exact Knd.int
    · have e : ((ns.map V.int).all fun x => decide (("int" : String) = "int")) = true := List.all_eq_true.mpr fun _ _ => rfl
      rw [e]
      refine iteF ?_
      refine ⟨_, rfl, a, rfl, ⟨_, s1.tup hs⟩, for_tup (K := K) (a := a) (xs := ns.map V.int) (fun i σ H' => ∃ (b : Option V), σ = [some (.ref a), some (.int many), some (.str part), b, none] ∧ Same H H' ∧ ∀ x ∈ ns.take i, isBar many x = true)
        ⟨none, rfl, s1, fun x hx => nomatch hx⟩ (fun i σ H' _ ⟨_, _, s, _⟩ => s.tup hs) ?_ ?_⟩
      · rintro i x σ H' hi ⟨b, rfl, s2, al⟩
        obtain ⟨z, hz, rfl⟩ := int_at hi
        refine ⟨_, rfl, _, rfl, z, many, rfl, ?_⟩
        by_cases c : isBar many z = true
        · obtain ⟨c1, c2⟩ := isBar_iff.mp c
          refine .inl ⟨c1, c2, fun H3 s3 => ⟨_, rfl, s2.trans s3, fun y hy => ?_⟩⟩
          rw [← take_snoc hz] at hy
          rcases List.mem_append.mp hy with m | m
          · exact al y m
          · rw [List.mem_singleton.mp m]
            exact c
        · refine .inr ⟨fun z => c (isBar_iff.mpr z), ?_⟩
          rw [res_bar al hz c] at q
          exact Errs.later q s2
      · rintro σ H' ⟨b, rfl, s2, al⟩
        rw [List.length_map, List.take_length] at al
        rw [res_all al] at q
        refine ⟨_, rfl, a, ns, rfl, s2.tup hs, hl, fun H3 s3 => ?_⟩
        have s23 := s2.trans s3
        cases e2 : ft [] ns with
        | some z =>
          rw [e2] at q
          exact ⟨_, rfl, rfl, _, rfl, iteT ⟨_, rfl, err_made TI.oex TI.nf (Errs.later q s23)⟩⟩
        | none =>
          rw [e2] at q
          refine ⟨_, rfl, rfl, _, rfl, iteF ?_⟩
          refine ⟨_, rfl, a, ns, rfl, s23.tup hs, fun ms p pm _ hp => ⟨p, _, rfl, .inl ⟨SqL.of upd_same, fun t ht => ?_⟩⟩⟩
          exact q t ms _ pm ((s23.new hp).new ht) upd_same
end
end K
namespace K
open PySem L2 Rg
open Evl (pss_cut)
/-! ### what a ring tells -/
def sumsOf (ls : List Int) : List Int := ls.foldl (fun s l => s ++ s.map (· + l)) [0]
def levelB (ls : List Int) : Bool := (sumsOf ls).any fun o => decide (2 * o = ls.sum)
def closesB (ls : List Int) : Bool := ls.all fun x => decide (2 * x ≤ ls.sum)
def lsum (ls ns : List Int) : Int := (ns.map fun b => ls.getD b.toNat 0).sum
def sortV (ls ns : List Int) : Str := if 2 * lsum ls ns = ls.sum then "level" else if 2 * lsum ls ns < ls.sum then "short" else "long"
theorem sums_take {ls : List Int} {i : Nat} {z : Int} (h : ls[i]? = some z) : sumsOf (ls.take (i + 1)) = sumsOf (ls.take i) ++ (sumsOf (ls.take i)).map (· + z) := by
  unfold sumsOf
  rw [← take_snoc h, List.foldl_append]
  rfl
theorem sums_len : ∀ (ls : List Int) (i : Nat), i ≤ ls.length → (sumsOf (ls.take i)).length = 2 ^ i
  | ls, 0, _ => rfl
  | ls, i + 1, h => by
    have hz : ls[i]? = some ls[i] := List.getElem?_eq_getElem h
    rw [sums_take hz, List.length_append, List.length_map, sums_len ls i (by omega), Nat.pow_succ]
    omega
theorem closes_max {ls : List Int} {m : Int} (hm : m ∈ ls) (hx : ∀ y ∈ ls, y ≤ m) : decide (2 * m ≤ ls.sum) = closesB ls := by
  unfold closesB
  by_cases c : 2 * m ≤ ls.sum
  · rw [decide_eq_true c]
    refine (List.all_eq_true.mpr fun y hy => decide_eq_true ?_).symm
    have := hx y hy
    omega
  · rw [decide_eq_false c]
    cases e : ls.all fun x => decide (2 * x ≤ ls.sum) with
    | false => rfl
    | true => exact absurd (of_decide_eq_true (List.all_eq_true.mp e m hm)) c
theorem dec_int (a b : Int) : decide (V.int a = V.int b) = decide (a = b) := by
  by_cases e : a = b
  · rw [e]; simp
  · rw [decide_eq_false e, decide_eq_false fun z => e (V.int.inj z)]
theorem all_any (l : List Int) (g : Int → Bool) : (l.map g).any id = l.any g := by
  rw [List.any_map]; rfl
/-- the attributes of a ring, in the order in which __init__ stores them -/
def rf (t : Addr) (ls : List Int) : List (Str × V) := putF "is_clear" (.bl (!levelB ls)) (putF "closes" (.bl (closesB ls)) (putF "total" (.int ls.sum) (putF "lengths" (.ref t) [])))
theorem n1 : ¬ (("lengths" : Str) = "total") := by decide +kernel
theorem n2 : ¬ (("lengths" : Str) = "closes") := by decide +kernel
theorem n3 : ¬ (("lengths" : Str) = "is_clear") := by decide +kernel
theorem n4 : ¬ (("total" : Str) = "closes") := by decide +kernel
theorem n5 : ¬ (("total" : Str) = "is_clear") := by decide +kernel
theorem n6 : ¬ (("closes" : Str) = "is_clear") := by decide +kernel
theorem rf_lengths (t : Addr) (ls : List Int) : (rf t ls).lookup ("lengths" : Str) = some (.ref t) := by
  unfold rf
  rw [lookup_putF, if_neg n3, lookup_putF, if_neg n2, lookup_putF, if_neg n1, lookup_putF, if_pos rfl]
theorem rf_total (t : Addr) (ls : List Int) : (rf t ls).lookup ("total" : Str) = some (.int ls.sum) := by
  unfold rf
  rw [lookup_putF, if_neg n5, lookup_putF, if_neg n4, lookup_putF, if_pos rfl]
theorem rf_closes (t : Addr) (ls : List Int) : (rf t ls).lookup ("closes" : Str) = some (.bl (closesB ls)) := by
  unfold rf
  rw [lookup_putF, if_neg n6, lookup_putF, if_pos rfl]
theorem rf_clear (t : Addr) (ls : List Int) : (rf t ls).lookup ("is_clear" : Str) = some (.bl (!levelB ls)) := by
  unfold rf
  rw [lookup_putF, if_pos rfl]
theorem rf_no (t : Addr) (ls : List Int) {m : Str} (h1 : ¬ m = "lengths") (h2 : ¬ m = "total") (h3 : ¬ m = "closes") (h4 : ¬ m = "is_clear") : (rf t ls).lookup m = none := by
  unfold rf
  rw [lookup_putF, if_neg h4, lookup_putF, if_neg h3, lookup_putF, if_neg h2, lookup_putF, if_neg h1]
  rfl
section
variable {P : Program} {w : World} {K : PySem.W.Frag} {mg : Str → Option Value} {base : Heap}
def RingAt (K : PySem.W.Frag) (C : Addr) (H : Hp) (r : Addr) (ls : List Int) : Prop := ∃ dx t, H r = some (.ins C dx (rf t ls)) ∧ SqT K H t (ls.map V.int) ∧ ∃ o : Obj, H t = some (.frz o (.tup (ls.map V.int))) ∧ o.dict = none
theorem RingAt.same {C : Addr} {H H' : Hp} {r : Addr} {ls : List Int} (h : RingAt K C H r ls) (s : Same H H') : RingAt K C H' r ls := by
  obtain ⟨dx, t, h1, h2, o, h3, h4⟩ := h
  exact ⟨dx, t, s _ _ h1, s.tup h2, o, s _ _ h3, h4⟩
/-- the class Ring as the top has made it -/
structure RingC (K : PySem.W.Frag) (mg : Str → Option Value) (C : Addr) : Prop where
  cl : Cls K C
  nL : NoAttr K C "lengths"
  nT : NoAttr K C "total"
  nC : NoAttr K C "closes"
  nI : NoAttr K C "is_clear"
  g : mg "Ring" = some (.ref C)
  ha : PySem.W.findIn K (.ref C) "__class__" = some (some (.builtin "object.__class__"))
  hn : PySem.W.specialIn K (.builtin "object.__class__") "__get__" = some (some (.builtin "getset_descriptor.__get__"))
  ht : PySem.W.takesIn K (.builtin "object.__class__") = some true
  hm : PySem.W.mroIn K C (.type "object") = some true
structure Nm (mg : Str → Option Value) : Prop where
  mostL : ∃ t, mg "MOST_LENGTH" = some (.int 1000000 t)
  leastB : ∃ t, mg "LEAST_BARS" = some (.int 3 t)
  mostB : ∃ t, mg "MOST_BARS" = some (.int 8 t)
/-! ### are_lengths -/
def spAreL (K : PySem.W.Frag) : Sp := fun vs H Q _ => ∃ (a : Addr) (ls : List Int), vs = [.ref a] ∧ Knd K H (.ref a) "list" ∧ SqL K H a (ls.map V.int) ∧ ls.length ≤ 1000 ∧ Bd 1000000 ls ∧ ∀ H', Same H H' → Q (.bl true) H'
abbrev nAreL : List Str := ["value", "one"]
theorem scAreL : FnScope nAreL ["value"] (defScope sAreLengths) := ⟨rfl, rfl, rfl, by decide +kernel, rfl, by decide +kernel, by decide +kernel⟩
theorem all_true {bs : List Bool} (h : ∀ b ∈ bs, b = true) : bs.all id = true := List.all_eq_true.mpr fun b hb => h b hb
theorem ok_areL {f fW fL : Addr} {fd fdW fdL : FuncData} (F : Fun K "are_lengths" "are_lengths" sAreLengths f fd) (T : Bi mg) (N : Nm mg) (W : DefAt P w K mg base CX0 2 "is_within" ["value", "least", "most"] spWithin fW fdW) (L : DefAt P w K mg base CX0 1 "is_list" ["value"] (spIsList K) fL fdL) : FnOk P w K mg base CX0 3 f fd ["value"] (spAreL K) := by
  refine F.ok scAreL (fun vs H Q E h => ?_) (fun cdv A outer s H vs Q E hr h => ?_)
  · obtain ⟨a, ls, rfl, _⟩ := h
    rfl
  · obtain ⟨tM, hM⟩ := N.mostL
    refine ⟨_, pss_one (ps_ret (pe_and (pe_call L.ok (hr.mono (by decide)) rfl L.g L.kp L.b .nil pass0 (pa_cons (pv 0) pa_nil)) (pe_one (pe_callB (cr_all rfl) (by rfl) T.all (by decide +kernel) (pa_cons (pe_lc (own := [("one", 1)]) (g := gName 1) (tt := tYes) rfl scAreL.nd (pi_list (pv 0))
      (blkOk_by (N := nAreL) (sc := defScope sAreLengths) (by decide +kernel)) (fun _ _ _ _ _ => pg_name (i := 1) scAreL.nd rfl (Or.inl rfl)) (fun _ _ _ _ _ => pts_nil) (fun _ _ _ _ _ => pe_call W.ok hr rfl W.g W.kp W.b .nil pass0 (pa_cons (pv 1) (pa_cons pe_int (pa_cons (pe_glob (v := .int 1000000) rfl hM ⟨_, rfl⟩) pa_nil))))) pa_nil))))), ?_⟩
    obtain ⟨a, ls, rfl, hk, hs, hl, hb, q⟩ := h
    refine ⟨_, rfl, _, "list", rfl, hk, fun H1 s1 => ⟨_, rfl, iteDT (.inl rfl) ?_⟩⟩
    refine ⟨_, rfl, a, rfl, ⟨_, s1.seq hs⟩, fun D hD => ?_⟩
    have hD0 := s1.free hD
    refine lc_list (K := K) (a := a) (xs := ls.map V.int) (fun i H' => Same H H' ∧ ∃ bs : List Bool, (∀ b ∈ bs, b = true) ∧ bs.length ≤ i ∧ H' D = some (.lst (bs.map V.bl))) ⟨s1.new hD, [], (fun b hb => nomatch hb), Nat.le_refl _, upd_same⟩ (fun i H' _ p => p.1.seq hs) ?_ ?_
    · rintro i x H' hi ⟨s2, bs, h1, h2, h3⟩
      obtain ⟨z, hz, rfl⟩ := int_at hi
      have hil : i < ls.length := (List.getElem?_eq_some_iff.mp hz).1
      have hzb := hb z (List.mem_of_getElem? hz)
      refine ⟨rfl, _, rfl, z, 1, 1000000, rfl, _, h3, (by rw [List.length_map]; exact sm (by omega)), s2.mut hD0, bs ++ [true], fun b hb => ?_, by rw [List.length_append, List.length_singleton]; omega, ?_⟩
      · rcases List.mem_append.mp hb with m | m
        · exact h1 b m
        · exact List.mem_singleton.mp m
      · rw [upd_same, List.map_append, decide_eq_true hzb.1, decide_eq_true hzb.2]
        rfl
    · rintro H' ⟨s2, bs, h1, h2, h3⟩
      refine ⟨D, bs, rfl, SqL.of h3, ?_⟩
      rw [all_true h1]
      exact q H' s2
/-! ### has_level -/
def spHasL (K : PySem.W.Frag) : Sp := fun vs H Q _ => ∃ (t : Addr) (ls : List Int), vs = [.ref t] ∧ SqT K H t (ls.map V.int) ∧ ls.length ≤ 8 ∧ ∀ H', Same H H' → Q (.bl (levelB ls)) H'
abbrev nHasL : List Str := ["lengths", "sums", "length", "one"]
theorem scHasL : FnScope nHasL ["lengths"] (defScope sHasLevel) := ⟨rfl, rfl, rfl, by decide +kernel, rfl, by decide +kernel, by decide +kernel⟩
theorem ok_hasL {f : Addr} {fd : FuncData} (F : Fun K "has_level" "has_level" sHasLevel f fd) (T : Bi mg) : FnOk P w K mg base CX0 2 f fd ["lengths"] (spHasL K) := by
  refine F.ok scHasL (fun vs H Q E h => ?_) (fun cdv A outer s H vs Q E hr h => ?_)
  · obtain ⟨a, ls, rfl, _⟩ := h
    rfl
  · have nd := scHasL.nd
    refine ⟨_, pss_cons (ps_set (i := 1) nd rfl (Or.inl rfl) (pe_lst (pa_cons pe_int pa_nil)))
      (pss_cons (ps_for PassesOwn.never rfl (pi_tup (pv 0)) (pg_name (i := 2) nd rfl (Or.inr rfl)) (pss_one (ps_set (i := 1) nd rfl (Or.inl rfl) (pe_op op_cat (pv 1) (pe_lc (own := [("one", 3)]) (g := gName 3) (tt := tYes) rfl nd (pi_list (pv 1))
        (blkOk_by (N := nHasL) (sc := defScope sHasLevel) (by decide +kernel)) (fun _ _ _ _ _ => pg_name (i := 3) nd rfl (Or.inl rfl)) (fun _ _ _ _ _ => pts_nil) (fun _ _ _ _ _ => pe_op op_add (pv 3) (pv 2)))))))
      (pss_one (ps_ret (pe_callB (cr_any rfl) (by rfl) T.any (by decide +kernel) (pa_cons (pe_lc (own := [("one", 3)]) (g := gName 3) (tt := tYes) rfl nd (pi_list (pv 1))
        (blkOk_by (N := nHasL) (sc := defScope sHasLevel) (by decide +kernel)) (fun _ _ _ _ _ => pg_name (i := 3) nd rfl (Or.inl rfl)) (fun _ _ _ _ _ => pts_nil) (fun _ _ _ _ _ => pe_cmpR op_eq (pe_op op_mul pe_int (pv 3)) (pe_callB (r := rSumT K) (cr_sumT (by rfl)) (by rfl) T.sum (by decide +kernel) (pa_cons (pv 0) pa_nil)) (nomark _))) pa_nil))))), ?_⟩
    obtain ⟨t, ls, rfl, hs, hl, q⟩ := h
    refine ⟨(by show 1 ≤ sizeLine; decide), fun l0 hl0 => ?_⟩
    have s0 : Same H (upd H l0 (.lst [.int 0])) := (Same.refl H).new hl0
    have pw : ∀ i, i ≤ ls.length → (sumsOf (ls.take i)).length ≤ 256 := fun i hi => by
      rw [sums_len ls i hi]
      exact Nat.pow_le_pow_right (by decide) (show i ≤ 8 by omega)
    refine ⟨_, rfl, t, rfl, ⟨_, s0.tup hs⟩, for_tup (K := K) (a := t) (xs := ls.map V.int) (fun i σ H' => ∃ (l : Addr) (z : Option V), σ = [some (.ref t), some (.ref l), z, none] ∧ Same H H' ∧ H' l = some (.lst ((sumsOf (ls.take i)).map V.int)))
      ⟨l0, none, rfl, s0, upd_same⟩ (fun i σ H' _ ⟨_, _, _, s, _⟩ => s.tup hs) ?_ ?_⟩
    · rintro i x σ H' hi ⟨l, z, rfl, s1, h1⟩
      obtain ⟨z, hz, rfl⟩ := int_at hi
      have hil : i < ls.length := (List.getElem?_eq_some_iff.mp hz).1
      have p1 := pw i (by omega)
      refine ⟨_, rfl, _, rfl, l, rfl, ⟨_, SqL.of h1⟩, fun D hD => ?_⟩
      have hlD : l ≠ D := ne_of_none h1 hD
      refine lc_list (K := K) (a := l) (xs := (sumsOf (ls.take i)).map V.int) (fun j H2 => Same H' H2 ∧ H2 D = some (.lst ((((sumsOf (ls.take i)).take j).map (· + z)).map V.int))) ⟨(Same.refl H').new hD, upd_same⟩ (fun j H2 _ p => p.1.seq (SqL.of h1)) ?_ ?_
      · rintro j y H2 hj ⟨s2, h2⟩
        obtain ⟨o, ho, rfl⟩ := int_at hj
        refine ⟨rfl, _, rfl, _, rfl, _, _, rfl, rfl, _, h2, (by rw [List.length_map, List.length_map, List.length_take]; exact sm (by omega)), s2.mut hD, ?_⟩
        rw [upd_same, ← take_snoc ho, List.map_append, List.map_append]
        rfl
      · rintro H2 ⟨s2, h2⟩
        rw [List.length_map, List.take_length] at h2
        refine ⟨l, D, _, _, rfl, rfl, s2 _ _ h1, h2, (by rw [List.length_map, List.length_map, List.length_map]; exact Nat.le_of_lt (sm (by omega))), fun p hp => ⟨p, _, rfl, (s1.trans s2).new hp, ?_⟩⟩
        rw [upd_same, sums_take hz, List.map_append]
    · rintro σ H' ⟨l, z, rfl, s1, h1⟩
      rw [List.length_map, List.take_length] at h1
      have p1 := pw ls.length (Nat.le_refl _)
      rw [List.take_length] at p1
      refine ⟨_, rfl, l, rfl, ⟨_, SqL.of h1⟩, fun D hD => ?_⟩
      refine lc_list (K := K) (a := l) (xs := (sumsOf ls).map V.int) (fun j H2 => Same H' H2 ∧ H2 D = some (.lst ((((sumsOf ls).take j).map fun o => decide (2 * o = ls.sum)).map V.bl))) ⟨(Same.refl H').new hD, upd_same⟩ (fun j H2 _ p => p.1.seq (SqL.of h1)) ?_ ?_
      · rintro j y H2 hj ⟨s2, h2⟩
        obtain ⟨o, ho, rfl⟩ := int_at hj
        refine ⟨rfl, _, rfl, _, _, rfl, rfl, .inl ⟨by decide, by decide⟩, _, rfl, t, ls, rfl, (s1.trans s2).tup hs, rfl, _, h2, (by rw [List.length_map, List.length_map, List.length_take]; exact sm (by omega)), s2.mut hD, ?_⟩
        rw [upd_same, ← take_snoc ho, List.map_append, List.map_append, dec_int]
        rfl
      · rintro H2 ⟨s2, h2⟩
        rw [List.length_map, List.take_length] at h2
        refine ⟨D, _, rfl, SqL.of h2, ?_⟩
        rw [all_any]
        exact q H2 (s1.trans s2)
/-! ### Ring.__init__ -/
def spRI (K : PySem.W.Frag) (C : Addr) : Sp := fun vs H Q _ => ∃ (r l dx : Addr) (ls : List Int), vs = [.ref r, .ref l] ∧ H r = some (.ins C dx []) ∧ Knd K H (.ref l) "list" ∧ SqL K H l (ls.map V.int) ∧ 3 ≤ ls.length ∧ ls.length ≤ 8 ∧ Bd 1000000 ls ∧
  ∀ H', RingAt K C H' r ls → (∀ b o, H b = some o → b ≠ r → H' b = some o) → Q .non H'
theorem scRI : FnScope ["self", "lengths"] ["self", "lengths"] (defScope sRingInit) := ⟨rfl, rfl, rfl, by decide +kernel, rfl, by decide +kernel, by decide +kernel⟩
theorem ok_ri {C f fA fH : Addr} {fd fdA fdH : FuncData} (F : Fun K "__init__" "Ring.__init__" sRingInit f fd) (T : Bi mg) (N : Nm mg) (R : RingC K mg C) (A' : DefAt P w K mg base CX0 3 "are_lengths" ["value"] (spAreL K) fA fdA) (L : DefAt P w K mg base CX0 2 "has_level" ["lengths"] (spHasL K) fH fdH) : FnOk P w K mg base CX0 4 f fd ["self", "lengths"] (spRI K C) := by
  refine F.ok scRI (fun vs H Q E h => ?_) (fun cdv A outer s H vs Q E hr h => ?_)
  · obtain ⟨r, l, dx, ls, rfl, _⟩ := h
    rfl
  · obtain ⟨t3, h3⟩ := N.leastB
    obtain ⟨t8, h8⟩ := N.mostB
    refine ⟨_, pss_cons (ps_if (pt_not (pt_val (pe_call A'.ok hr rfl A'.g A'.kp A'.b .nil pass0 (pa_cons (pv 1) pa_nil)))) (pss_one ps_never) pss_nil)
      (pss_cons (ps_if (pt_cmpR op_lt (pe_callB call_len_seq (by rfl) T.len PySem.boot_len (pa_cons (pv 1) pa_nil)) (pe_glob (v := .int 3) rfl h3 ⟨_, rfl⟩) (nomark _)) (pss_one ps_never) pss_nil)
      (pss_cons (ps_if (pt_cmpR op_gt (pe_callB call_len_seq (by rfl) T.len PySem.boot_len (pa_cons (pv 1) pa_nil)) (pe_glob (v := .int 8) rfl h8 ⟨_, rfl⟩) (nomark _)) (pss_one ps_never) pss_nil)
      (pss_cons (ps_fld (pv 0) (pe_callTy cr_tupF (by rfl) T.tuple (by decide +kernel) (pa_cons (pv 1) pa_nil)) rfl)
      (pss_cons (ps_fld (pv 0) (pe_callB (cr_sumT rfl) (by rfl) T.sum (by decide +kernel) (pa_cons (pe_fld (pv 0) rfl) pa_nil)) rfl)
      (pss_cons (ps_fld (pv 0) (pe_cmpR op_le (pe_op op_mul pe_int (pe_callB (cr_maxT rfl) (by rfl) T.max (by decide +kernel) (pa_cons (pe_fld (pv 0) rfl) pa_nil))) (pe_fld (pv 0) rfl) (nomark _)) rfl)
      (pss_one (ps_fld (pv 0) (pe_not (pe_call L.ok (hr.mono (by decide)) rfl L.g L.kp L.b .nil pass0 (pa_cons (pe_fld (pv 0) rfl) pa_nil))) rfl))))))), ?_⟩
    obtain ⟨r, l, dx, ls, rfl, hr0, hk, hs, l3, l8, hb, q⟩ := h
    refine ⟨_, rfl, l, ls, rfl, hk, hs, by omega, hb, fun H1 s1 => ⟨_, rfl, iteF ?_⟩⟩
    refine ⟨_, rfl, l, _, rfl, .inl (s1.seq hs), _, _, rfl, rfl, _, rfl, iteDF (by rw [List.length_map]; omega) ?_⟩
    refine ⟨_, rfl, l, _, rfl, .inl (s1.seq hs), _, _, rfl, rfl, _, rfl, iteDF (by rw [List.length_map]; omega) ?_⟩
    have hr1 := s1 _ _ hr0
    refine ⟨_, rfl, l, _, rfl, s1.seq hs, fun t o ht hd => ?_⟩
    have nrt : r ≠ t := ne_of_none hr1 ht
    have ht0 := s1.free ht
    have tup0 : ∀ u, upd (upd H1 t (.frz o (.tup (ls.map V.int)))) r u t = some (.frz o (.tup (ls.map V.int))) := fun u => by rw [upd_ne nrt.symm, upd_same]
    refine ⟨_, rfl, r, C, dx, [], rfl, (by rw [upd_ne nrt]; exact hr1), R.cl, R.nL, (by show 0 < 1000; decide), ?_⟩
    -- self.total
    refine ⟨_, rfl, r, C, dx, _, _, rfl, upd_same, R.cl, R.nL, (by rw [lookup_putF, if_pos rfl]), t, ls, rfl, .inl (.inr ⟨o, tup0 _⟩), _, rfl, r, C, dx, _, rfl, upd_same, R.cl, R.nT, (by show 1 < 1000; decide), ?_⟩
    rw [upd_upd]
    -- self.closes
    refine ⟨_, rfl, r, C, dx, _, _, rfl, upd_same, R.cl, R.nL, (by rw [lookup_putF, if_neg n1, lookup_putF, if_pos rfl]), t, ls, rfl, .inl (.inr ⟨o, tup0 _⟩), by omega, fun m hm hx => ?_⟩
    refine ⟨_, _, rfl, rfl, .inl ⟨by decide, by decide⟩, _, rfl, r, C, dx, _, _, rfl, upd_same, R.cl, R.nT, (by rw [lookup_putF, if_pos rfl]), _, _, rfl, rfl, _, rfl, r, C, dx, _, rfl, upd_same, R.cl, R.nC, ?_, ?_⟩
    · have e1 := length_putF "total" (V.int ls.sum) (putF "lengths" (V.ref t) [])
      have e2 := length_putF "lengths" (V.ref t) []
      simp only [List.length_nil] at e2
      omega
    dsimp only
    rw [upd_upd, closes_max hm hx]
    -- self.is_clear
    refine ⟨_, rfl, r, C, dx, _, _, rfl, upd_same, R.cl, R.nL, (by rw [lookup_putF, if_neg n2, lookup_putF, if_neg n1, lookup_putF, if_pos rfl]), t, ls, rfl, .inl (.inr ⟨o, tup0 _⟩), l8, fun H5 s5 => ⟨_, rfl, _, rfl, r, C, dx, _, rfl, s5 _ _ upd_same, R.cl, R.nI, ?_, ?_⟩⟩
    · have e1 := length_putF "total" (V.int ls.sum) (putF "lengths" (V.ref t) [])
      have e2 := length_putF "lengths" (V.ref t) []
      have e3 := length_putF "closes" (V.bl (closesB ls)) (putF "total" (V.int ls.sum) (putF "lengths" (V.ref t) []))
      simp only [List.length_nil] at e2
      omega
    · have tf := s5 _ _ (tup0 _)
      refine q _ ⟨dx, t, upd_same, .inl (.inr ⟨o, by rw [upd_ne nrt.symm]; exact tf⟩), o, by rw [upd_ne nrt.symm]; exact tf, hd⟩ fun b o e hbr => ?_
      rw [upd_ne hbr]
      refine s5 _ _ ?_
      rw [upd_ne hbr, upd_ne (ne_of_none (s1 _ _ e) ht)]
      exact s1 _ _ e
end
end K
namespace K
open PySem L2 Rg
open Evl (pss_cut)
theorem perm_sum {a b : List Int} (h : a.Perm b) : a.sum = b.sum := by
  induction h with
  | nil => rfl
  | cons x _ ih => rw [List.sum_cons, List.sum_cons, ih]
  | swap x y l => simp only [List.sum_cons]; omega
  | trans _ _ ih1 ih2 => exact ih1.trans ih2
theorem lsum_perm {ls a b : List Int} (h : a.Perm b) : lsum ls a = lsum ls b := perm_sum (h.map _)
section
variable {P : Program} {w : World} {K : PySem.W.Frag} {mg : Str → Option Value} {base : Heap}
/-- a value passed for a lot of a ring of many bars: what becomes of it, k of what it is if it is one -/
def LotV (K : PySem.W.Frag) (H : Hp) (E : XK) (c : Cs) (many : Int) (part : Str) (v : V) (k : List Int → Prop) : Prop :=
  (∃ kd, Knd K H v kd ∧ kd ≠ "list" ∧ kd ≠ "tuple" ∧ Errs E c.l "part" (.str part) H) ∨
  (∃ (a : Addr) (xs : List V) (kf : V → String), v = .ref a ∧ Knd K H (.ref a) "list" ∧ SqL K H a xs ∧ xs.length ≤ 1000 ∧ (∀ x ∈ xs, Knd K H x (kf x)) ∧
    (((xs.all fun x => decide (kf x = "int")) = false ∧ Errs E c.l "part" (.str part) H) ∨ ∃ ns, xs = ns.map V.int ∧ (xs.all fun x => decide (kf x = "int")) = true ∧ LotFin E c part H (res many ns) k)) ∨
  (∃ (a : Addr) (ns : List Int), v = .ref a ∧ Knd K H (.ref a) "tuple" ∧ SqT K H a (ns.map V.int) ∧ ns.length ≤ 1000 ∧ LotFin E c part H (res many ns) k)
theorem LotFin.imp {E : XK} {c : Cs} {part : Str} {H : Hp} {r : Lr} {k k' : List Int → Prop} (h : LotFin E c part H r k) (i : ∀ ns, k ns → k' ns) : LotFin E c part H r k' := by
  cases r with
  | bad => exact h
  | bar b => exact h
  | twice b => exact h
  | ok ns => exact i ns h
theorem LotV.imp {H : Hp} {E : XK} {c : Cs} {many : Int} {part : Str} {v : V} {k k' : List Int → Prop} (h : LotV K H E c many part v k) (i : ∀ ns, k ns → k' ns) : LotV K H E c many part v k' := by
  rcases h with h | ⟨a, xs, kf, e, h1, h2, h3, h4, h⟩ | ⟨a, ns, e, h1, h2, h3, h4⟩
  · exact .inl h
  · refine .inr (.inl ⟨a, xs, kf, e, h1, h2, h3, h4, ?_⟩)
    rcases h with h | ⟨ns, q1, q2, q3⟩
    · exact .inl h
    · exact .inr ⟨ns, q1, q2, q3.imp i⟩
  · exact .inr (.inr ⟨a, ns, e, h1, h2, h3, h4.imp i⟩)
def spWL (K : PySem.W.Frag) (c : Cs) : Sp := fun vs H Q E => ∃ (v : V) (many : Int) (part : Str), vs = [v, .int many, .str part] ∧ LotV K H E c many part v fun ns => ∀ (p : Addr) (ms : List Int) (H' : Hp), ms.Perm ns → Same H H' → H' p = some (.tup (ms.map V.int)) → Q (.ref p) H'
theorem ok_wl {CX : CXT} {k : Nat} {f : Addr} {fd : FuncData} {ps : List Str} {c : Cs} (F1 : FnOk P w K mg base CX k f fd ps (spWLO K c)) (F2 : FnOk P w K mg base CX k f fd ps (spWLL K c)) (F3 : FnOk P w K mg base CX k f fd ps (spWLT K c)) : FnOk P w K mg base CX k f fd ps (spWL K c) := by
  refine (fn_or F1 (fn_or F2 F3)).imp fun vs H Q E h => ?_
  obtain ⟨v, many, part, rfl, h⟩ := h
  rcases h with ⟨kd, h1, h2, h3, h4⟩ | ⟨a, xs, kf, rfl, h1, h2, h3, h4, h⟩ | ⟨a, ns, rfl, h1, h2, h3, h4⟩
  · exact .inl ⟨v, kd, many, part, rfl, h1, h2, h3, h4⟩
  · exact .inr (.inl ⟨a, xs, kf, many, part, rfl, h1, h2, h3, h4, h⟩)
  · exact .inr (.inr ⟨a, ns, many, part, rfl, h1, h2, h3, h4⟩)
/-- a ring, of whose tuple of lengths nothing is known but its items -/
def RingW (K : PySem.W.Frag) (C : Addr) (H : Hp) (r : Addr) (ls : List Int) : Prop := ∃ dx t, H r = some (.ins C dx (rf t ls)) ∧ SqT K H t (ls.map V.int)
theorem RingAt.weak {C : Addr} {H : Hp} {r : Addr} {ls : List Int} (h : RingAt K C H r ls) : RingW K C H r ls := let ⟨dx, t, h1, h2, _⟩ := h; ⟨dx, t, h1, h2⟩
/-! ### len(ring) -/
def spRLen (K : PySem.W.Frag) (C : Addr) : Sp := fun vs H Q _ => ∃ (r : Addr) (ls : List Int), vs = [.ref r] ∧ RingW K C H r ls ∧ Q (.int ls.length) H
theorem scRLen : FnScope ["self"] ["self"] (defScope sRingLen) := ⟨rfl, rfl, rfl, by decide +kernel, rfl, by decide +kernel, by decide +kernel⟩
theorem ok_rlen {C f : Addr} {fd : FuncData} (F : Fun K "__len__" "Ring.__len__" sRingLen f fd) (T : Bi mg) (R : RingC K mg C) : FnOk P w K mg base CX0 1 f fd ["self"] (spRLen K C) := by
  refine F.ok scRLen (fun vs H Q E h => ?_) (fun cdv A outer s H vs Q E hr h => ?_)
  · obtain ⟨r, ls, rfl, _⟩ := h
    rfl
  · refine ⟨_, pss_one (ps_ret (pe_callB call_len_seq (by rfl) T.len PySem.boot_len (pa_cons (pe_fld (pv 0) rfl) pa_nil))), ?_⟩
    obtain ⟨r, ls, rfl, ⟨dx, t, hr0, ht⟩, q⟩ := h
    refine ⟨_, rfl, r, C, dx, _, _, rfl, hr0, R.cl, R.nL, rf_lengths _ _, t, _, rfl, .inr ht, ?_⟩
    rw [List.length_map]
    exact q
/-! ### ring.length_of(lot), ring.sort_of(lot) -/
def spLenOf (K : PySem.W.Frag) (C : Addr) (c : Cs) : Sp := fun vs H Q E => ∃ (r : Addr) (v : V) (ls : List Int), vs = [.ref r, v] ∧ RingW K C H r ls ∧ ls.length ≤ 8 ∧ LotV K H E c ls.length "lot" v fun ns => ∀ H', Same H H' → Q (.int (lsum ls ns)) H'
abbrev nLenOf : List Str := ["self", "lot", "bars", "bar"]
theorem scLenOf : FnScope nLenOf ["self", "lot"] (defScope sRingLengthOf) := ⟨rfl, rfl, rfl, by decide +kernel, rfl, by decide +kernel, by decide +kernel⟩
theorem get_len {ls : List Int} {b : Int} (h0 : 0 ≤ b) (h1 : b < (ls.length : Int)) : atI (ls.map V.int) b = some (V.int (ls.getD b.toNat 0)) := by
  have hb : b.toNat < ls.length := by omega
  refine at_of (j := b.toNat) (by omega) ?_
  rw [int_get hb, List.getD_eq_getElem?_getD, List.getElem?_eq_getElem hb]
  rfl
theorem res_ok {many : Int} {ns ms : List Int} (h : res many ns = .ok ms) : ms = ns ∧ (∀ x ∈ ns, isBar many x = true) ∧ ft [] ns = none := by
  unfold res at h
  cases e : ns.find? (fun b => !isBar many b) with
  | some b => rw [e] at h; cases h
  | none =>
    rw [e] at h
    cases e2 : ft [] ns with
    | some b => rw [e2] at h; cases h
    | none =>
      rw [e2] at h
      cases h
      refine ⟨rfl, fun x hx => ?_, rfl⟩
      have := List.find?_eq_none.mp e x hx
      simpa using this
/-- a lot that is one, with what is known of it -/
theorem LotFin.fine {E : XK} {c : Cs} {part : Str} {H : Hp} {many : Int} {ns : List Int} {k k' : List Int → Prop} (h : LotFin E c part H (res many ns) k) (hl : ns.length ≤ 1000) (i : ∀ ms, ms.length ≤ 1000 → (∀ x ∈ ms, isBar many x = true) → k ms → k' ms) : LotFin E c part H (res many ns) k' := by
  cases e : res many ns with
  | bad => rw [e] at h; exact h
  | bar b => rw [e] at h; exact h
  | twice b => rw [e] at h; exact h
  | ok ms =>
    rw [e] at h
    obtain ⟨rfl, a, _⟩ := res_ok e
    exact i ms hl a h
theorem LotV.fine {H : Hp} {E : XK} {c : Cs} {many : Int} {part : Str} {v : V} {k k' : List Int → Prop} (h : LotV K H E c many part v k) (i : ∀ ms, ms.length ≤ 1000 → (∀ x ∈ ms, isBar many x = true) → k ms → k' ms) : LotV K H E c many part v k' := by
  rcases h with h | ⟨a, xs, kf, e, h1, h2, h3, h4, h⟩ | ⟨a, ns, e, h1, h2, h3, h4⟩
  · exact .inl h
  · refine .inr (.inl ⟨a, xs, kf, e, h1, h2, h3, h4, ?_⟩)
    rcases h with h | ⟨ns, q1, q2, q3⟩
    · exact .inl h
    · exact .inr ⟨ns, q1, q2, q3.fine (by rw [q1, List.length_map] at h3; exact h3) i⟩
  · exact .inr (.inr ⟨a, ns, e, h1, h2, h3, h4.fine h3 i⟩)
theorem ok_lenOf {C f fW : Addr} {c : Cs} {fd fdW : FuncData} (F : Fun K "length_of" "Ring.length_of" sRingLengthOf f fd) (T : Bi mg) (R : RingC K mg C) (W : DefAt P w K mg base (L2.CX P w) 4 "want_lot" ["value", "many", "part"] (spWL K c) fW fdW) : FnOk P w K mg base (L2.CX P w) 5 f fd ["self", "lot"] (spLenOf K C c) := by
  refine F.okX scLenOf (fun vs H Q E h => ?_) (fun cdv A outer s H vs Q E hr h => ?_)
  · obtain ⟨r, v, ls, rfl, _⟩ := h
    rfl
  · have nd := scLenOf.nd
    refine ⟨_, pss_cons (ps_set (i := 2) nd rfl (Or.inl rfl) (pe_call W.ok hr rfl W.g W.kp W.b .nil (passes_call (takes_of rfl rfl rfl rfl) (fun _ _ _ _ h => h)) (pa_cons (pv 1) (pa_cons (pe_callB call_len_seq (by rfl) T.len PySem.boot_len (pa_cons (pe_fld (pv 0) rfl) pa_nil)) (pa_cons pe_str pa_nil)))))
      (pss_one (ps_ret (pe_callB (cr_sum rfl) (by rfl) T.sum (by decide +kernel) (pa_cons (pe_lc (own := [("bar", 3)]) (g := gName 3) (tt := tYes) (te := tOp (rIxT K) (tFld K (tVar 0) "lengths") (tVar 3)) rfl nd (pi_tup (pv 2))
        (blkOk_by (N := nLenOf) (sc := defScope sRingLengthOf) (by decide +kernel)) (fun _ _ _ _ _ => pg_name (i := 3) nd rfl (Or.inl rfl)) (fun _ _ _ _ _ => pts_nil) (fun _ _ _ _ _ => pe_ix (r := rIxT K) ix_tup (pe_fld (pv 0) rfl) (pv 3) (fun _ _ => rfl))) pa_nil)))), ?_⟩
    obtain ⟨r, v, ls, rfl, ⟨dx, t, hr0, ht⟩, l8, q⟩ := h
    refine ⟨_, rfl, _, rfl, r, C, dx, _, _, rfl, hr0, R.cl, R.nL, rf_lengths _ _, t, _, rfl, .inr ht, v, ls.length, "lot", by rw [List.length_map]; rfl, q.fine fun ns hns al q => ?_⟩
    intro p ms H1 pm s1 hp
    have hms : ms.length ≤ 1000 := by rw [pm.length_eq]; exact hns
    refine ⟨_, rfl, p, rfl, ⟨_, .inl (.inl hp)⟩, fun D hD => ?_⟩
    have hD0 := s1.free hD
    refine lc_tup (K := K) (a := p) (xs := ms.map V.int) (fun i H' => Same H H' ∧ H' p = some (.tup (ms.map V.int)) ∧ H' D = some (.lst (((ms.take i).map fun b => ls.getD b.toNat 0).map V.int))) ⟨s1.new hD, by rw [upd_ne (ne_of_none hp hD)]; exact hp, upd_same⟩ (fun i H' _ q => .inl (.inl q.2.1)) ?_ ?_
    · rintro i x H' hi ⟨s2, h1, h2⟩
      obtain ⟨z, hz, rfl⟩ := int_at hi
      have hil : i < ms.length := (List.getElem?_eq_some_iff.mp hz).1
      have az := al z (pm.mem_iff.mp (List.mem_of_getElem? hz))
      refine ⟨rfl, _, rfl, r, C, dx, _, _, rfl, s2 _ _ hr0, R.cl, R.nL, rf_lengths _ _, _, rfl, t, _, z, _, rfl, rfl, s2.tup ht, get_len (isBar_iff.mp az).1 (isBar_iff.mp az).2, _, h2, (by rw [List.length_map, List.length_map, List.length_take]; exact sm (by omega)), s2.mut hD0, by rw [upd_ne (ne_of_none hp hD)]; exact h1, ?_⟩
      rw [upd_same, ← take_snoc hz, List.map_append, List.map_append]
      rfl
    · rintro H' ⟨s2, h1, h2⟩
      rw [List.length_map, List.take_length] at h2
      refine ⟨D, _, rfl, SqL.of h2, ?_⟩
      have q2 := q H' s2
      rw [← lsum_perm pm] at q2
      exact q2
def sbV (e : Int) : Str := if e = 0 then "level" else if e < 0 then "short" else "long"
def spSortBy : Sp := fun vs H Q _ => ∃ e : Int, vs = [.int e] ∧ Q (.str (sbV e)) H
theorem scSortBy : FnScope ["excess"] ["excess"] (defScope sSortBy) := ⟨rfl, rfl, rfl, by decide +kernel, rfl, by decide +kernel, by decide +kernel⟩
theorem ok_sortBy {f : Addr} {fd : FuncData} (F : Fun K "sort_by" "sort_by" sSortBy f fd) : FnOk P w K mg base CX0 1 f fd ["excess"] spSortBy := by
  refine F.ok scSortBy (fun vs H Q E h => ?_) (fun cdv A outer s H vs Q E hr h => ?_)
  · obtain ⟨e, rfl, _⟩ := h
    rfl
  · refine ⟨_, pss_cons (ps_if (pt_cmpR op_eq (pv 0) pe_int (nomark _)) (pss_one (ps_ret pe_str)) pss_nil)
      (pss_one (ps_ret (pe_ifExp (pt_cmpR op_lt (pv 0) pe_int (nomark _)) pe_str pe_str))), ?_⟩
    obtain ⟨e, rfl, q⟩ := h
    unfold sbV at q
    refine ⟨_, rfl, rfl, _, rfl, ?_⟩
    by_cases c : e = 0
    · rw [if_pos c] at q
      exact iteDT (congrArg V.int c) q
    · rw [if_neg c] at q
      refine iteDF (fun z => c (V.int.inj z)) ?_
      refine ⟨_, rfl, _, _, rfl, rfl, _, rfl, ?_⟩
      by_cases c2 : e < 0
      · rw [if_pos c2] at q
        exact iteDT c2 q
      · rw [if_neg c2] at q
        exact iteDF c2 q
theorem sbV_sort (ls ns : List Int) : sbV (2 * lsum ls ns - ls.sum) = sortV ls ns := by
  unfold sbV sortV
  by_cases c : 2 * lsum ls ns = ls.sum
  · rw [if_pos c, if_pos (by omega)]
  · rw [if_neg c, if_neg (by omega)]
    by_cases d : 2 * lsum ls ns < ls.sum
    · rw [if_pos d, if_pos (by omega)]
    · rw [if_neg d, if_neg (by omega)]
abbrev nSortOf : List Str := ["self", "lot"]
theorem scSortOf : FnScope nSortOf ["self", "lot"] (defScope sRingSortOf) := ⟨rfl, rfl, rfl, by decide +kernel, rfl, by decide +kernel, by decide +kernel⟩
def spSortOf (K : PySem.W.Frag) (C : Addr) (c : Cs) : Sp := fun vs H Q E => ∃ (r : Addr) (v : V) (ls : List Int), vs = [.ref r, v] ∧ RingW K C H r ls ∧ ls.length ≤ 8 ∧ LotV K H E c ls.length "lot" v fun ns => ∀ H', Same H H' → Q (.str (sortV ls ns)) H'
theorem ok_sortOf {C f fL fB : Addr} {c : Cs} {fd fdL fdB : FuncData} (F : Fun K "sort_of" "Ring.sort_of" sRingSortOf f fd) (R : RingC K mg C) (M : Meth K C "length_of" fL) (L : FnOk P w K mg base (L2.CX P w) 5 fL fdL ["self", "lot"] (spLenOf K C c)) (LB : Binds K fdL ["self", "lot"] []) (SB : DefAt P w K mg base CX0 1 "sort_by" ["excess"] spSortBy fB fdB) : FnOk P w K mg base (L2.CX P w) 6 f fd ["self", "lot"] (spSortOf K C c) := by
  refine F.okX scSortOf (fun vs H Q E h => ?_) (fun cdv A outer s H vs Q E hr h => ?_)
  · obtain ⟨r, v, ls, rfl, _⟩ := h
    rfl
  · have nd := scSortOf.nd
    refine ⟨_, pss_one (ps_ret (pe_call SB.ok (hr.mono (by decide)) rfl SB.g SB.kp SB.b .nil pass0 (pa_cons (pe_op op_sub (pe_op op_mul pe_int (pe_meth (pv 0) R.cl M L hr LB .nil (passes_call (takes_of rfl rfl rfl rfl) (fun _ _ _ _ h => h)) (pa_cons (pv 1) pa_nil))) (pe_fld (pv 0) rfl)) pa_nil))), ?_⟩
    obtain ⟨r, v, ls, rfl, ⟨dx, t, hr0, ht⟩, l8, q⟩ := h
    refine ⟨_, rfl, r, dx, _, rfl, hr0, rf_no _ _ (by decide +kernel) (by decide +kernel) (by decide +kernel) (by decide +kernel), _, rfl, r, v, ls, rfl, ⟨dx, t, hr0, ht⟩, l8, q.imp fun ns q => ?_⟩
    intro H1 s1
    have hr1 := s1 _ _ hr0
    refine ⟨_, _, rfl, rfl, .inl ⟨by decide, by decide⟩, _, rfl, r, C, dx, _, _, rfl, hr1, R.cl, R.nT, rf_total _ _, _, _, rfl, rfl, _, rfl, ?_⟩
    have q1 := q H1 s1
    rw [← sbV_sort] at q1
    exact q1
end
end K
namespace K
open PySem L2 Rg
open Evl (pss_cut)
section
variable {P : Program} {w : World} {K : PySem.W.Frag} {mg : Str → Option Value} {base : Heap}
theorem kit_self {K : PySem.W.Frag} {C : Addr} : PySem.W.kitOne K (.ref C) (.ref C) = some true := by
  unfold PySem.W.kitOne
  simp
/-- what is no ring: a value of a kind that is no Ring -/
def NoR (K : PySem.W.Frag) (C : Addr) (H : Hp) (v : V) : Prop := ∃ k : String, TyX K H v (.type k) ∧ PySem.W.kitOne K (.type k) (.ref C) = some false
theorem NoR.same {C : Addr} {H H' : Hp} {v : V} (h : NoR K C H v) (s : Same H H') : NoR K C H' v := let ⟨k, a, b⟩ := h; ⟨k, tyx_same a s, b⟩
def spWantR (K : PySem.W.Frag) (C cR : Addr) : Sp := fun vs H Q E => ∃ (v : V) (part : Str), vs = [v, .str part] ∧ ((∃ r ls, v = .ref r ∧ RingW K C H r ls ∧ Q .non H) ∨ (NoR K C H v ∧ Errs E cR "part" (.str part) H))
theorem scWantR : FnScope ["value", "part"] ["value", "part"] (defScope sWantRing) := ⟨rfl, rfl, rfl, by decide +kernel, rfl, by decide +kernel, by decide +kernel⟩
theorem ok_wantR {C cR f fI : Addr} {fd fdI : FuncData} (F : Fun K "want_ring" "want_ring" sWantRing f fd) (T : Bi mg) (R : RingC K mg C) (B : ErrAt P w K mg base "BadRing" "part" cR fI fdI) : FnOk P w K mg base (L2.CX P w) 3 f fd ["value", "part"] (spWantR K C cR) := by
  refine F.okX scWantR (fun vs H Q E h => ?_) (fun cdv A outer s H vs Q E hr h => ?_)
  · obtain ⟨v, part, rfl, _⟩ := h
    rfl
  · refine ⟨_, pss_one (ps_if (pt_not (pt_val (pe_callB call_isi (by rfl) T.isinstance (by decide +kernel) (pa_cons (pv 0) (pa_cons (pe_glob (v := .ref C) rfl R.g rfl) pa_nil)))))
      (pss_one (ps_raise rfl (takes_of rfl rfl rfl rfl) (pmk_oex B.oex B.ic B.ti B.ok hr B.b .nil pass0 rfl B.g (pa_cons (pv 1) pa_nil)))) pss_nil), ?_⟩
    obtain ⟨v, part, rfl, h⟩ := h
    rcases h with ⟨r, ls, rfl, ⟨dx, t, hr0, ht⟩, q⟩ | ⟨⟨k, ty, kit⟩, er⟩
    · refine ⟨_, rfl, .ref r, .ref C, _, _, _, rfl, .own C, .base (.ins hr0 R.cl R.ha R.hn R.ht R.hm), kit_self, ?_⟩
      exact ⟨_, rfl, iteF q⟩
    · refine ⟨_, rfl, v, .ref C, _, _, _, rfl, .own C, ty, kit, ?_⟩
      exact ⟨_, rfl, iteT ⟨_, rfl, err_made B.oex B.nf er⟩⟩
end
end K
namespace K
open PySem L2 Rg
open Evl (pss_cut)
/-! ### all lots -/
def lotsN : Nat → List (List Int)
  | 0 => [[]]
  | n + 1 => lotsN n ++ (lotsN n).map (· ++ [(n : Int)])
def barsN : Nat → List Int
  | 0 => []
  | n + 1 => barsN n ++ [(n : Int)]
theorem lotsN_succ (n : Nat) : lotsN (n + 1) = lotsN n ++ (lotsN n).map (· ++ [(n : Int)]) := rfl
theorem barsN_succ (n : Nat) : barsN (n + 1) = barsN n ++ [(n : Int)] := rfl
theorem barsN_length : ∀ n, (barsN n).length = n
  | 0 => rfl
  | n + 1 => by unfold barsN; rw [List.length_append, barsN_length n]; rfl
theorem lotsN_length : ∀ n, (lotsN n).length = 2 ^ n
  | 0 => rfl
  | n + 1 => by unfold lotsN; rw [List.length_append, List.length_map, lotsN_length n, Nat.pow_succ]; omega
theorem lotsN_len : ∀ n, ∀ l ∈ lotsN n, l.length ≤ n
  | 0, l, h => by rw [List.mem_singleton.mp h]; exact Nat.le_refl _
  | n + 1, l, h => by
    rcases List.mem_append.mp h with h | h
    · exact Nat.le_succ_of_le (lotsN_len n l h)
    · obtain ⟨a, ha, rfl⟩ := List.mem_map.mp h
      have := lotsN_len n a ha
      rw [List.length_append, List.length_singleton]
      omega
theorem lotsN_full : ∀ n, ∀ l ∈ lotsN n, l.length = n → l = barsN n
  | 0, l, h, _ => List.mem_singleton.mp h
  | n + 1, l, h, hl => by
    rcases List.mem_append.mp h with h | h
    · have := lotsN_len n l h
      omega
    · obtain ⟨a, ha, rfl⟩ := List.mem_map.mp h
      rw [List.length_append, List.length_singleton] at hl
      rw [lotsN_full n a ha (by omega)]
      rfl
theorem lotsN_in : ∀ n, ∀ l ∈ lotsN n, ∀ b ∈ l, 0 ≤ b ∧ b < n
  | 0, l, h, b, hb => by rw [List.mem_singleton.mp h] at hb; cases hb
  | n + 1, l, h, b, hb => by
    rcases List.mem_append.mp h with h | h
    · have := lotsN_in n l h b hb
      omega
    · obtain ⟨a, ha, rfl⟩ := List.mem_map.mp h
      rcases List.mem_append.mp hb with hb | hb
      · have := lotsN_in n a ha b hb
        omega
      · rw [List.mem_singleton.mp hb]
        omega
theorem lotsN_nodup : ∀ n, ∀ l ∈ lotsN n, l.Nodup
  | 0, l, h => by rw [List.mem_singleton.mp h]; exact List.nodup_nil
  | n + 1, l, h => by
    rcases List.mem_append.mp h with h | h
    · exact lotsN_nodup n l h
    · obtain ⟨a, ha, rfl⟩ := List.mem_map.mp h
      rw [List.nodup_append]
      refine ⟨lotsN_nodup n a ha, by simp, fun x hx y hy => ?_⟩
      have := lotsN_in n a ha x hx
      rw [List.mem_singleton.mp hy]
      omega
theorem lotsN_nil : ∀ n, [] ∈ lotsN n
  | 0 => List.mem_singleton.mpr rfl
  | n + 1 => List.mem_append_left _ (lotsN_nil n)
theorem barsN_mem : ∀ n, barsN n ∈ lotsN n
  | 0 => List.mem_singleton.mpr rfl
  | n + 1 => List.mem_append_right _ (List.mem_map.mpr ⟨_, barsN_mem n, rfl⟩)
/-- the sums of the lengths are those of all lots -/
theorem lots_sums {ls : List Int} : ∀ n, n ≤ ls.length → (lotsN n).map (lsum ls) = sumsOf (ls.take n)
  | 0, _ => rfl
  | n + 1, h => by
    have hz : ls[n]? = some ls[n] := List.getElem?_eq_getElem h
    have ih := lots_sums (ls := ls) n (by omega)
    rw [sums_take hz, ← ih, lotsN_succ, List.map_append, List.map_map, List.map_map]
    congr 1
    refine List.map_congr_left fun l _ => ?_
    show lsum ls (l ++ [(n : Int)]) = lsum ls l + ls[n]
    unfold lsum
    rw [List.map_append, List.sum_append, List.map_singleton, List.sum_singleton, List.getD_eq_getElem?_getD, Int.toNat_natCast, hz]
    rfl
theorem level_lots (ls : List Int) : levelB ls = (lotsN ls.length).any fun l => decide (2 * lsum ls l = ls.sum) := by
  have h := lots_sums (ls := ls) ls.length (Nat.le_refl _)
  rw [List.take_length] at h
  unfold levelB
  rw [← h, List.any_map]
  rfl
theorem sum_bars {ls : List Int} : ∀ n, n ≤ ls.length → lsum ls (barsN n) = (ls.take n).sum
  | 0, _ => rfl
  | n + 1, h => by
    have hz : ls[n]? = some ls[n] := List.getElem?_eq_getElem h
    rw [← take_snoc hz, List.sum_append, ← sum_bars n (by omega), barsN_succ]
    unfold lsum
    rw [List.map_append, List.sum_append, List.map_singleton, List.sum_singleton, List.sum_singleton, List.getD_eq_getElem?_getD, Int.toNat_natCast, hz]
    rfl
section
variable {P : Program} {w : World} {K : PySem.W.Frag} {mg : Str → Option Value} {base : Heap}
/-- lots in a heap: kf tells the bars of each -/
def LotsAt (H : Hp) (xs : List V) (kf : V → List Int) : Prop := ∀ x ∈ xs, ∃ a, x = .ref a ∧ H a = some (.tup ((kf x).map V.int))
theorem LotsAt.same {H H' : Hp} {xs : List V} {kf : V → List Int} (h : LotsAt H xs kf) (s : Same H H') : LotsAt H' xs kf := fun x hx => let ⟨a, e, q⟩ := h x hx; ⟨a, e, s _ _ q⟩
/-- refs to tuples of ints, what they hold -/
def TL (H : Hp) : List V → List (List Int) → Prop := Paired fun x ns => ∃ a, x = V.ref a ∧ H a = some (.tup (ns.map V.int))
def PL (H : Hp) : List V → List (List Int) → Prop := Paired fun x ns => ∃ t b, x = V.ref t ∧ H t = some (.tup [.int (ns.length : Nat), .ref b]) ∧ H b = some (.tup (ns.map V.int))
theorem par_imp {α β : Type} {R S : α → β → Prop} (i : ∀ a b, R a b → S a b) : ∀ {xs : List α} {ys : List β}, Paired R xs ys → Paired S xs ys
  | _, _, .nil => .nil
  | _, _, .cons h t => .cons (i _ _ h) (par_imp i t)
theorem par_app {α β : Type} {R : α → β → Prop} : ∀ {xs : List α} {ys : List β} {zs : List α} {ws : List β}, Paired R xs ys → Paired R zs ws → Paired R (xs ++ zs) (ys ++ ws)
  | _, _, _, _, .nil, q => q
  | _, _, _, _, .cons h t, q => .cons h (par_app t q)
theorem par_len {α β : Type} {R : α → β → Prop} : ∀ {xs : List α} {ys : List β}, Paired R xs ys → xs.length = ys.length
  | _, _, .nil => rfl
  | _, _, .cons _ t => congrArg (· + 1) (par_len t)
theorem par_get {α β : Type} {R : α → β → Prop} : ∀ {xs : List α} {ys : List β}, Paired R xs ys → ∀ {i : Nat} {x : α}, xs[i]? = some x → ∃ y, ys[i]? = some y ∧ R x y
  | _, _, .cons h t, 0, x, e => ⟨_, rfl, by cases e; exact h⟩
  | _, _, .cons h t, i + 1, x, e => par_get t (by simpa using e)
theorem par_mem {α β : Type} {R : α → β → Prop} : ∀ {xs : List α} {ys : List β}, Paired R xs ys → ∀ {x : α}, x ∈ xs → ∃ y ∈ ys, R x y
  | _, _, .cons h t, x, e => by
    rcases List.mem_cons.mp e with rfl | e
    · exact ⟨_, List.mem_cons_self .., h⟩
    · obtain ⟨y, hy, r⟩ := par_mem t e
      exact ⟨y, List.mem_cons_of_mem _ hy, r⟩
theorem par_mem2 {α β : Type} {R : α → β → Prop} : ∀ {xs : List α} {ys : List β}, Paired R xs ys → ∀ {y : β}, y ∈ ys → ∃ x ∈ xs, R x y
  | _, _, .cons h t, y, e => by
    rcases List.mem_cons.mp e with rfl | e
    · exact ⟨_, List.mem_cons_self .., h⟩
    · obtain ⟨x, hx, r⟩ := par_mem2 t e
      exact ⟨x, List.mem_cons_of_mem _ hx, r⟩
theorem par_map {α β : Type} {R : α → β → Prop} {f : α → β} (i : ∀ a b, R a b → f a = b) : ∀ {xs : List α} {ys : List β}, Paired R xs ys → xs.map f = ys
  | _, _, .nil => rfl
  | _, _, .cons h t => by rw [List.map_cons, i _ _ h, par_map i t]
theorem TL.same {H H' : Hp} {xs : List V} {nss : List (List Int)} (h : TL H xs nss) (s : Same H H') : TL H' xs nss := par_imp (fun _ _ ⟨a, e, q⟩ => ⟨a, e, s _ _ q⟩) h
theorem PL.same {H H' : Hp} {xs : List V} {nss : List (List Int)} (h : PL H xs nss) (s : Same H H') : PL H' xs nss := par_imp (fun _ _ ⟨t, b, e, q, r⟩ => ⟨t, b, e, s _ _ q, s _ _ r⟩) h
def vint : V → Int
  | .int z => z
  | _ => 0
theorem vints : ∀ ns : List Int, (ns.map V.int).map vint = ns
  | [] => rfl
  | n :: ns => by rw [List.map_cons, List.map_cons, vints ns]; rfl
def cont (H : Hp) (x : V) : List Int := match x with
  | .ref a => (match H a with
    | some (.tup ys) => ys.map vint
    | _ => [])
  | _ => []
theorem cont_at {H : Hp} {a : Addr} {ns : List Int} (h : H a = some (.tup (ns.map V.int))) : cont H (.ref a) = ns := by
  show (match H a with
    | some (.tup ys) => ys.map vint
    | _ => []) = ns
  rw [h]
  exact vints ns
def lotOf (H : Hp) (x : V) : V := match x with
  | .ref a => (match H a with
    | some (.tup [_, b]) => b
    | _ => .non)
  | _ => .non
theorem lotOf_at {H : Hp} {a : Addr} {x y : V} (h : H a = some (.tup [x, y])) : lotOf H (.ref a) = y := by
  show (match H a with
    | some (.tup [_, b]) => b
    | _ => .non) = y
  rw [h]
/-- what a pair is sorted by -/
def keyOf (H : Hp) (x : V) : Int × List Int := (((cont H (lotOf H x)).length : Nat), cont H (lotOf H x))
theorem keyOf_at {H : Hp} {x : V} {ns : List Int} (h : ∃ t b, x = V.ref t ∧ H t = some (.tup [.int (ns.length : Nat), .ref b]) ∧ H b = some (.tup (ns.map V.int))) : keyOf H x = (((ns.length : Nat) : Int), ns) := by
  obtain ⟨t, b, rfl, h1, h2⟩ := h
  unfold keyOf
  rw [lotOf_at h1, cont_at h2]
theorem sorted_first {ys : List V} {k : V → List Int} (h : ys.Pairwise fun u v => HT.lexLt (((k v).length : Int) :: k v) (((k u).length : Int) :: k u) = false) (h0 : ∃ y ∈ ys, k y = []) : ∀ y, ys[0]? = some y → k y = [] := by
  intro y hy
  cases ys with
  | nil => cases hy
  | cons z zs =>
    obtain rfl : z = y := Option.some.inj hy
    obtain ⟨u, hu, e⟩ := h0
    rcases List.mem_cons.mp hu with rfl | hu
    · exact e
    · have q := (List.pairwise_cons.mp h).1 u hu
      rw [e, HT.lexLt_cons] at q
      by_cases c : (([] : List Int).length : Int) = ((k z).length : Int)
      · exact List.eq_nil_of_length_eq_zero (by simp at c; omega)
      · rw [if_neg c] at q
        have := of_decide_eq_false q
        rw [List.length_nil] at this
        exact List.eq_nil_of_length_eq_zero (by omega)
theorem sorted_last {n : Nat} {ys : List V} {k : V → List Int} (h : ys.Pairwise fun u v => HT.lexLt (((k v).length : Int) :: k v) (((k u).length : Int) :: k u) = false) (hn : ∀ y ∈ ys, (k y).length ≤ n) (h0 : ∃ y ∈ ys, (k y).length = n) : ∀ y, ys[ys.length - 1]? = some y → (k y).length = n := by
  intro y hy
  obtain ⟨u, hu, e⟩ := h0
  obtain ⟨i, hi, eu⟩ := List.mem_iff_getElem.mp hu
  obtain ⟨hj, ey⟩ := List.getElem?_eq_some_iff.mp hy
  by_cases c : i = ys.length - 1
  · subst c
    rw [← ey, eu, e]
  · have q := (List.pairwise_iff_getElem.mp h) i (ys.length - 1) hi hj (by omega)
    rw [eu, ey, HT.lexLt_cons] at q
    have b := hn y (List.mem_of_getElem? hy)
    by_cases d : ((k y).length : Int) = ((k u).length : Int)
    · omega
    · rw [if_neg d] at q
      have := of_decide_eq_false q
      omega
def rLenS (K : PySem.W.Frag) : List V → Hp → VK → Prop := fun xs H Q => ∃ p ys, xs = [.ref p] ∧ (SqL K H p ys ∨ SqT K H p ys) ∧ Q (.int ys.length) H
def spLots (K : PySem.W.Frag) : Sp := fun vs H Q _ => ∃ n : Nat, vs = [.int n] ∧ 1 ≤ n ∧ n ≤ 8 ∧
  ∀ (p : Addr) (xs : List V) (kf : V → List Int) (H' : Hp), Same H H' → H' p = some (.lst xs) → LotsAt H' xs kf → (xs.map kf).Perm (lotsN n) → (xs.Pairwise fun u v => HT.lexLt (((kf v).length : Int) :: kf v) (((kf u).length : Int) :: kf u) = false) → Q (.ref p) H'
abbrev nLots : List Str := ["_law_many", "_law_found", "_law_bar", "_law_lot", "_law_size"]
theorem scLots : FnScope nLots ["_law_many"] (defScope sLwLots) := ⟨rfl, rfl, rfl, by decide +kernel, rfl, by decide +kernel, by decide +kernel⟩
theorem ok_lots {f : Addr} {fd : FuncData} (F : Fun K "_law_lots" "_law_lots" sLwLots f fd) (T : Bi mg) : FnOk P w K mg base CX0 2 f fd ["_law_many"] (spLots K) := by
  refine F.ok scLots (fun vs H Q E h => ?_) (fun cdv A outer s H vs Q E hr h => ?_)
  · obtain ⟨n, rfl, _⟩ := h
    rfl
  · have nd := scLots.nd
    refine ⟨_, pss_cons (ps_set (i := 1) nd rfl (Or.inl rfl) (pe_lst (pa_cons (pe_tup pa_nil) pa_nil)))
      (pss_cons (ps_for PassesOwn.never rfl (pi_range1 (by rfl) T.range (pa_cons (pv 0) pa_nil)) (pg_name (i := 2) nd rfl (Or.inr rfl)) (pss_one (ps_set (i := 1) nd rfl (Or.inl rfl) (pe_op op_cat (pv 1) (pe_lc (own := [("_law_lot", 3)]) (g := gName 3) (tt := tYes) (te := tOp (rCatA K) (tVar 3) (tTup (tCons (tVar 2) tNil))) rfl nd (pi_list (pv 1))
        (blkOk_by (N := nLots) (sc := defScope sLwLots) (by decide +kernel)) (fun _ _ _ _ _ => pg_name (i := 3) nd rfl (Or.inl rfl)) (fun _ _ _ _ _ => pts_nil) (fun _ _ _ _ _ => pe_op op_catA (pv 3) (pe_tup (pa_cons (pv 2) pa_nil))))))))
      (pss_one (ps_ret (pe_lc (own := [("_law_size", 4), ("_law_lot", 3)]) (g := gTup K 2 (gCons (gName 4) (gCons (gName 3) gNil))) (tt := tYes) rfl nd
        (pi_list (pe_callB (cr_sortedN hr.units) (by rfl) T.sorted (by decide +kernel) (pa_cons (pe_lc (own := [("_law_lot", 3)]) (g := gName 3) (tt := tYes) (te := tTup (tCons (tCB (rLenS K) (tCons (tVar 3) tNil)) (tCons (tVar 3) tNil))) rfl nd (pi_list (pv 1))
          (blkOk_by (N := nLots) (sc := defScope sLwLots) (by decide +kernel)) (fun _ _ _ _ _ => pg_name (i := 3) nd rfl (Or.inl rfl)) (fun _ _ _ _ _ => pts_nil) (fun _ _ _ _ _ => pe_tup (pa_cons (pe_callB (r := rLenS K) call_len_seq (by rfl) T.len PySem.boot_len (pa_cons (pv 3) pa_nil)) (pa_cons (pv 3) pa_nil)))) pa_nil)))
        (blkOk_by (N := nLots) (sc := defScope sLwLots) (by decide +kernel)) (fun _ _ _ _ _ => pg_tup rfl (pgs_cons (pg_name (i := 4) nd rfl (Or.inl rfl)) (pgs_cons (pg_name (i := 3) nd rfl (Or.inl rfl)) pgs_nil))) (fun _ _ _ _ _ => pts_nil) (fun _ _ _ _ _ => pv 3))))), ?_⟩
    obtain ⟨n, rfl, n1, n8, q⟩ := h
    refine ⟨(by show 0 ≤ sizeLine; decide), fun e0 he0 => ⟨(by show 1 ≤ sizeLine; decide), fun l0 hl0 => ?_⟩⟩
    have s0 : Same H (upd (upd H e0 (.tup [])) l0 (.lst [.ref e0])) := ((Same.refl H).new he0).new hl0
    have he1 : upd (upd H e0 (.tup [])) l0 (.lst [.ref e0]) e0 = some (.tup []) := by rw [upd_ne (ne_of_none upd_same hl0), upd_same]
    refine ⟨_, rfl, _, rfl, by omega, by omega, ?_⟩
    refine for_range (lo := 0) (n := ((n : Nat) : Int).toNat) (fun i σ H' => ∃ (l : Addr) (t : Option V) (xs : List V), σ = [some (.int n), some (.ref l), t, none, none] ∧ Same H H' ∧ H' l = some (.lst xs) ∧ TL H' xs (lotsN i))
      ⟨l0, none, [.ref e0], rfl, s0, upd_same, .cons ⟨e0, rfl, he1⟩ .nil⟩ ?_ ?_
    · rintro i σ H' hi ⟨l, t, xs, rfl, s1, h1, tl⟩
      have hi8 : i < 8 := by omega
      have hxl : xs.length = 2 ^ i := by rw [par_len tl, lotsN_length]
      have h256 : 2 ^ i ≤ 128 := Nat.pow_le_pow_right (by decide) (show i ≤ 7 by omega)
      rw [Int.zero_add]
      refine ⟨_, rfl, _, rfl, l, rfl, ⟨_, SqL.of h1⟩, fun D hD => ?_⟩
      refine lc_list (K := K) (a := l) (xs := xs) (fun j H2 => Same H' H2 ∧ ∃ ys, H2 D = some (.lst ys) ∧ TL H2 ys (((lotsN i).take j).map (· ++ [(i : Int)]))) ⟨(Same.refl H').new hD, [], upd_same, .nil⟩ (fun j H2 _ p => p.1.seq (SqL.of h1)) ?_ ?_
      · rintro j y H2 hj ⟨s2, ys, h2, yl⟩
        obtain ⟨ns, hns, a, rfl, ha⟩ := par_get tl hj
        have ha2 := s2 _ _ ha
        have hjl : j < (lotsN i).length := (List.getElem?_eq_some_iff.mp hns).1
        have hyl : ys.length < sizeLine := by
          have := lotsN_length i
          rw [par_len yl, List.length_map, List.length_take]
          exact sm (by omega)
        have fin : ∀ (c : Addr) (H3 : Hp), Same H2 H3 → H3 c = some (.tup ((ns ++ [(i : Int)]).map V.int)) → ∃ acc, H3 D = some (.lst acc) ∧ acc.length < sizeLine ∧ (Same H' (upd H3 D (.lst (acc ++ [.ref c]))) ∧ ∃ zs, upd H3 D (.lst (acc ++ [.ref c])) D = some (.lst zs) ∧ TL (upd H3 D (.lst (acc ++ [.ref c]))) zs (((lotsN i).take (j + 1)).map (· ++ [(i : Int)]))) := by
          intro c H3 s3 hc
          have sD : Same H' (upd H3 D (.lst (ys ++ [.ref c]))) := (s2.trans s3).mut hD
          have s4 : ∀ (q : Addr) (zs : List V), H3 q = some (.tup zs) → upd H3 D (.lst (ys ++ [.ref c])) q = some (.tup zs) := fun q zs hq => by
            rw [upd_ne fun e => ?_]
            · exact hq
            · rw [e, s3 _ _ h2] at hq
              cases hq
          refine ⟨ys, s3 _ _ h2, hyl, sD, _, upd_same, ?_⟩
          rw [← take_snoc hns, List.map_append]
          exact par_app (par_imp (fun _ _ ⟨q, e, hq⟩ => ⟨q, e, s4 _ _ hq⟩) (yl.same s3)) (.cons ⟨c, rfl, s4 _ _ hc⟩ .nil)
        refine ⟨rfl, _, rfl, _, rfl, (by show 1 ≤ sizeLine; decide), fun b hb => ⟨a, b, ns.map V.int, [.int i], rfl, rfl, .inl (.inl (by rw [upd_ne (ne_of_none ha2 hb)]; exact ha2)), .inl (.inl upd_same), ?_, fun e => ?_, (fun _ z => by cases z), fun _ _ p hp => ?_⟩⟩
        · have := lotsN_len i ns (List.mem_of_getElem? hns)
          rw [List.length_map, List.length_singleton]
          exact Nat.le_of_lt (sm (by omega))
        · have e' : ns = [] := by cases ns with
            | nil => rfl
            | cons _ _ => cases e
          subst e'
          exact fin b _ ((Same.refl H2).new hb) upd_same
        · refine fin p _ (((Same.refl H2).new hb).new hp) ?_
          rw [upd_same, List.map_append]
          rfl
      · rintro H2 ⟨s2, ys, h2, yl⟩
        have eh : xs.length = (lotsN i).length := par_len tl
        rw [eh, List.take_length] at yl
        refine ⟨l, D, _, _, rfl, rfl, s2 _ _ h1, h2, ?_, fun p hp => ⟨p, _, _, rfl, (s1.trans s2).new hp, upd_same, ?_⟩⟩
        · rw [par_len yl, List.length_map, ← eh]
          exact Nat.le_of_lt (sm (by omega))
        · have s3 : Same H2 (upd H2 p (.lst (xs ++ ys))) := (Same.refl H2).new hp
          rw [lotsN_succ]
          exact par_app (tl.same (s2.trans s3)) (yl.same s3)
    · rintro σ H' ⟨l, t, xs, rfl, s1, h1, tl⟩
      rw [Int.toNat_natCast] at tl
      have hxl : xs.length = 2 ^ n := by rw [par_len tl, lotsN_length]
      have h256 : 2 ^ n ≤ 256 := Nat.pow_le_pow_right (by decide) (show n ≤ 8 by omega)
      -- the pairs
      refine ⟨_, rfl, l, rfl, ⟨_, SqL.of h1⟩, fun D hD => ?_⟩
      refine lc_list (K := K) (a := l) (xs := xs) (fun j H2 => Same H' H2 ∧ ∃ ys, H2 D = some (.lst ys) ∧ PL H2 ys ((lotsN n).take j)) ⟨(Same.refl H').new hD, [], upd_same, .nil⟩ (fun j H2 _ p => p.1.seq (SqL.of h1)) ?_ ?_
      · rintro j y H2 hj ⟨s2, ys, h2, yl⟩
        obtain ⟨ns, hns, a, rfl, ha⟩ := par_get tl hj
        have ha2 := s2 _ _ ha
        refine ⟨rfl, _, rfl, a, _, rfl, .inr (.inl (.inl ha2)), _, rfl, (by show 2 ≤ sizeLine; decide), fun b hb => ⟨ys, by rw [upd_ne (ne_of_none h2 hb)]; exact h2, ?_, ((s2.new hb).mut hD), _, upd_same, ?_⟩⟩
        · have := lotsN_length n
          rw [par_len yl, List.length_take]
          exact sm (by omega)
        · have hbD : b ≠ D := (ne_of_none h2 hb).symm
          have haD : a ≠ D := fun e => by
            rw [e, h2] at ha2
            cases ha2
          have s4 : ∀ (q : Addr) (zs : List V), H2 q = some (.tup zs) → upd (upd H2 b (.tup [.int (ns.map V.int).length, .ref a])) D (.lst (ys ++ [.ref b])) q = some (.tup zs) := fun q zs hq => by
            rw [upd_ne fun e => ?_, upd_ne (ne_of_none hq hb)]
            · exact hq
            · rw [e, h2] at hq
              cases hq
          rw [← take_snoc hns]
          refine par_app (par_imp (fun _ _ ⟨t, b', e, q, r⟩ => ⟨t, b', e, s4 _ _ q, s4 _ _ r⟩) yl) (.cons ⟨b, a, rfl, ?_, s4 _ _ ha2⟩ .nil)
          rw [upd_ne hbD, upd_same, List.length_map]
      · rintro H2 ⟨s2, ys, h2, yl⟩
        have eh : xs.length = (lotsN n).length := par_len tl
        rw [eh, List.take_length] at yl
        have yk : ∀ y ∈ ys, ∃ ns ∈ lotsN n, ∃ t b, y = V.ref t ∧ H2 t = some (.tup [.int (ns.length : Nat), .ref b]) ∧ H2 b = some (.tup (ns.map V.int)) := fun y hy => par_mem yl hy
        refine ⟨D, ys, keyOf H2, rfl, SqL.of h2, fun y hy => ?_, fun zs p hz1 hz2 hp => ?_⟩
        · obtain ⟨ns, _, t, b, e, q1, q2⟩ := yk y hy
          rw [keyOf_at ⟨t, b, e, q1, q2⟩]
          exact ⟨t, b, e, q1, q2⟩
        have s3 : Same H2 (upd H2 p (.lst zs)) := (Same.refl H2).new hp
        have zl : zs.length = 2 ^ n := by rw [hz2.length_eq, par_len yl, lotsN_length]
        have zk : ∀ z ∈ zs, ∃ ns ∈ lotsN n, ∃ t b, z = V.ref t ∧ H2 t = some (.tup [.int (ns.length : Nat), .ref b]) ∧ H2 b = some (.tup (ns.map V.int)) := fun z hz => yk z (hz2.mem_iff.mp hz)
        refine ⟨p, rfl, ⟨_, SqL.of upd_same⟩, fun G hG => ?_⟩
        have hG2 := s3.free hG
        refine lc_list (K := K) (a := p) (xs := zs) (fun j H3 => Same H2 H3 ∧ H3 p = some (.lst zs) ∧ H3 G = some (.lst ((zs.take j).map (lotOf H2)))) ⟨s3.new hG, by rw [upd_ne (ne_of_none upd_same hG)]; exact upd_same, upd_same⟩ (fun j H3 _ q => SqL.of q.2.1) ?_ ?_
        · rintro j z H3 hj ⟨s5, h5, h6⟩
          obtain ⟨ns, _, t, b, rfl, q1, q2⟩ := zk z (List.mem_of_getElem? hj)
          have hjl : j < zs.length := (List.getElem?_eq_some_iff.mp hj).1
          refine ⟨t, _, rfl, .inl (.inl (s5 _ _ q1)), rfl, ⟨_, _, rfl, _, _, rfl, rfl, rfl, _, rfl, _, h6, (by rw [List.length_map, List.length_take]; exact sm (by omega)), s5.mut hG2, by rw [upd_ne (ne_of_none upd_same hG)]; exact h5, ?_⟩⟩
          rw [upd_same, ← take_snoc hj, List.map_append, List.map_singleton, lotOf_at q1]
        · rintro H3 ⟨s5, h5, h6⟩
          rw [List.take_length] at h6
          have kk : ∀ z ∈ zs, ∃ ns ∈ lotsN n, keyOf H2 z = (((ns.length : Nat) : Int), ns) ∧ cont H3 (lotOf H2 z) = ns ∧ ∃ b, lotOf H2 z = .ref b ∧ H3 b = some (.tup (ns.map V.int)) := fun z hz => by
            obtain ⟨ns, m, t, b, e, q1, q2⟩ := zk z hz
            subst e
            refine ⟨ns, m, keyOf_at ⟨t, b, rfl, q1, q2⟩, ?_, b, lotOf_at q1, s5 _ _ q2⟩
            rw [lotOf_at q1, cont_at (s5 _ _ q2)]
          have srt : zs.Pairwise fun u v => HT.lexLt (((cont H3 (lotOf H2 v)).length : Int) :: cont H3 (lotOf H2 v)) (((cont H3 (lotOf H2 u)).length : Int) :: cont H3 (lotOf H2 u)) = false := by
            refine List.Pairwise.imp_of_mem (fun {a b} ha hb r => ?_) hz1
            obtain ⟨na, _, ea, ca, _⟩ := kk a ha
            obtain ⟨nb, _, eb, cb, _⟩ := kk b hb
            dsimp only at r
            rw [ea, eb] at r
            rw [ca, cb]
            exact r
          have mp : (zs.map fun z => cont H3 (lotOf H2 z)).Perm (lotsN n) := by
            have e1 : zs.map (fun z => cont H3 (lotOf H2 z)) = zs.map fun z => (keyOf H2 z).2 := List.map_congr_left fun z hz => by
              obtain ⟨nz, _, ez, cz, _⟩ := kk z hz
              rw [ez, cz]
            have e2 : ys.map (fun z => (keyOf H2 z).2) = lotsN n := par_map (fun a b r => by rw [keyOf_at r]) yl
            rw [e1, ← e2]
            exact hz2.map _
          have zm : ∀ ns ∈ lotsN n, ∃ z ∈ zs, cont H3 (lotOf H2 z) = ns := fun ns m => by
            obtain ⟨z, hz, e⟩ := List.mem_map.mp (mp.mem_iff.mpr m)
            exact ⟨z, hz, e⟩
          refine q G _ (cont H3) H3 ((s1.trans s2).trans s5) h6 (fun x hx => ?_) (by rw [List.map_map]; exact mp) (List.pairwise_map.mpr srt)
          obtain ⟨z, hz, rfl⟩ := List.mem_map.mp hx
          obtain ⟨ns, _, _, c, b, e, h⟩ := kk z hz
          refine ⟨b, e, ?_⟩
          rw [c]
          exact h
end
end K
namespace K
open PySem L2 Rg
open Evl (pss_cut)
/-! ### a lot against all other bars -/
def Lot (n : Nat) (ns : List Int) : Prop := ns.Nodup ∧ ∀ b ∈ ns, 0 ≤ b ∧ b < (n : Int)
def hasB (ns : List Int) (j : Nat) : Bool := ns.any fun y => decide (y = (j : Int))
def oth (ls ns : List Int) (i : Nat) : List Int := ((List.range i).filter fun j => !hasB ns j).map fun j => ls.getD j 0
theorem inV_int (z : Int) : ∀ ns : List Int, inV (.int z) (ns.map V.int) = ns.any fun y => decide (y = z) := by
  intro ns
  unfold inV
  rw [List.any_map]
  rfl
theorem oth_len (ls ns : List Int) (i : Nat) : (oth ls ns i).length ≤ i := by
  unfold oth
  rw [List.length_map]
  exact Nat.le_trans (List.length_filter_le ..) (by rw [List.length_range]; exact Nat.le_refl _)
theorem oth_in {ls ns : List Int} {i : Nat} {z : Int} (hz : ls[i]? = some z) (h : hasB ns i = false) : oth ls ns (i + 1) = oth ls ns i ++ [z] := by
  unfold oth
  rw [List.range_succ, List.filter_append, List.map_append]
  simp [h, List.getD_eq_getElem?_getD, hz]
theorem oth_out {ls ns : List Int} {i : Nat} (h : hasB ns i = true) : oth ls ns (i + 1) = oth ls ns i := by
  unfold oth
  rw [List.range_succ, List.filter_append, List.map_append]
  simp [h]
theorem sum_range (ls : List Int) : ∀ n, n ≤ ls.length → ((List.range n).map fun j => ls.getD j 0).sum = (ls.take n).sum
  | 0, _ => rfl
  | n + 1, h => by
    have hz : ls[n]? = some ls[n] := List.getElem?_eq_getElem h
    rw [← take_snoc hz, List.sum_append, ← sum_range ls n (by omega), List.range_succ, List.map_append, List.sum_append]
    simp [List.getD_eq_getElem?_getD, hz]
theorem sum_split (f : Nat → Int) (p : Nat → Bool) : ∀ l : List Nat, ((l.filter fun j => !p j).map f).sum + ((l.filter p).map f).sum = (l.map f).sum
  | [] => rfl
  | x :: l => by
    have ih := sum_split f p l
    cases e : p x <;> simp [e, List.sum_cons] <;> omega
theorem hasB_iff {ns : List Int} {j : Nat} : hasB ns j = true ↔ (j : Int) ∈ ns := by
  unfold hasB
  rw [List.any_eq_true]
  constructor
  · rintro ⟨y, hy, e⟩
    rw [← of_decide_eq_true e]
    exact hy
  · intro h
    exact ⟨_, h, decide_eq_true rfl⟩
theorem nodup_cast : ∀ {l : List Nat}, l.Nodup → (l.map fun j : Nat => (j : Int)).Nodup
  | [], _ => List.nodup_nil
  | x :: l, h => by
    rw [List.nodup_cons] at h
    rw [List.map_cons, List.nodup_cons]
    refine ⟨fun m => ?_, nodup_cast h.2⟩
    obtain ⟨y, hy, e⟩ := List.mem_map.mp m
    exact h.1 (by rw [show x = y by omega]; exact hy)
theorem lot_sorted {n : Nat} {ns : List Int} (h : Lot n ns) : (((List.range n).filter (hasB ns)).map fun j : Nat => (j : Int)).Perm ns := by
    refine (List.perm_ext_iff_of_nodup (nodup_cast (List.Pairwise.filter _ List.nodup_range)) h.1).mpr fun z => ?_
    constructor
    · intro m
      obtain ⟨j, hj, rfl⟩ := List.mem_map.mp m
      exact hasB_iff.mp (List.mem_filter.mp hj).2
    · intro m
      have b := h.2 z m
      refine List.mem_map.mpr ⟨z.toNat, List.mem_filter.mpr ⟨List.mem_range.mpr (by omega), hasB_iff.mpr ?_⟩, by omega⟩
      rw [show ((z.toNat : Nat) : Int) = z by omega]
      exact m
theorem oth_sum {ls ns : List Int} (h : Lot ls.length ns) : (oth ls ns ls.length).sum + lsum ls ns = ls.sum := by
  have e1 := sum_split (fun j => ls.getD j 0) (hasB ns) (List.range ls.length)
  rw [sum_range ls _ (Nat.le_refl _), List.take_length] at e1
  rw [← e1]
  congr 1
  rw [← lsum_perm (lot_sorted h)]
  unfold lsum
  rw [List.map_map]
  rfl
theorem sort_eq {ls ns : List Int} (h : Lot ls.length ns) : sortV ls ns = (if lsum ls ns = (oth ls ns ls.length).sum then ("level" : Str) else if lsum ls ns < (oth ls ns ls.length).sum then ("short" : Str) else ("long" : Str) : Str) := by
  have e := oth_sum h
  unfold sortV
  by_cases c : 2 * lsum ls ns = ls.sum
  · rw [if_pos c, if_pos (show lsum ls ns = (oth ls ns ls.length).sum by omega)]
  · rw [if_neg c, if_neg (show ¬ lsum ls ns = (oth ls ns ls.length).sum by omega)]
    by_cases d : 2 * lsum ls ns < ls.sum
    · rw [if_pos d, if_pos (show lsum ls ns < (oth ls ns ls.length).sum by omega)]
    · rw [if_neg d, if_neg (show ¬ lsum ls ns < (oth ls ns ls.length).sum by omega)]
theorem lsum_take {ls ns : List Int} {i : Nat} {z : Int} (h : ns[i]? = some z) : (ns.take (i + 1)).map (fun b => ls.getD b.toNat 0) = (ns.take i).map (fun b => ls.getD b.toNat 0) ++ [ls.getD z.toNat 0] := by
  rw [← take_snoc h, List.map_append]
  rfl
end K
namespace K
open PySem L2 Rg
open Evl (pss_cut)
/-! ### a lot that is one -/
theorem ft_none : ∀ {ns seen : List Int}, ns.Nodup → (∀ x ∈ ns, x ∉ seen) → ft seen ns = none
  | [], _, _, _ => rfl
  | x :: ns, seen, h, hs => by
    rw [List.nodup_cons] at h
    show (if x ∈ seen then some x else ft (seen ++ [x]) ns) = none
    rw [if_neg (hs x (List.mem_cons_self ..))]
    refine ft_none h.2 fun y hy m => ?_
    rcases List.mem_append.mp m with m | m
    · exact hs y (List.mem_cons_of_mem _ hy) m
    · rw [List.mem_singleton.mp m] at hy
      exact h.1 hy
theorem res_lot {n : Nat} {ns : List Int} (h : Lot n ns) : res n ns = .ok ns := by
  rw [res_all fun x hx => isBar_iff.mpr (h.2 x hx), ft_none h.1 fun x _ m => by cases m]
theorem lot_perm {n : Nat} {ms ns : List Int} (h : Lot n ns) (p : ms.Perm ns) : Lot n ms := ⟨p.nodup_iff.mpr h.1, fun b hb => h.2 b (p.mem_iff.mp hb)⟩
theorem lot_take {n d : Nat} {ns : List Int} (h : Lot n ns) : Lot n (ns.take d) := ⟨h.1.sublist (List.take_sublist ..), fun b hb => h.2 b (List.mem_of_mem_take hb)⟩
def natB (l : List Nat) : List Int := l.map fun j : Nat => (j : Int)
theorem lot_nat {n : Nat} {p : Nat → Bool} : Lot n (natB ((List.range n).filter p)) := by
  refine ⟨nodup_cast (List.Pairwise.filter _ List.nodup_range), fun b hb => ?_⟩
  obtain ⟨j, hj, rfl⟩ := List.mem_map.mp hb
  have := List.mem_range.mp (List.mem_filter.mp hj).1
  omega
theorem lot_all {n : Nat} : Lot n (natB (List.range n)) := by
  refine ⟨nodup_cast List.nodup_range, fun b hb => ?_⟩
  obtain ⟨j, hj, rfl⟩ := List.mem_map.mp hb
  have := List.mem_range.mp hj
  omega
theorem lot_len {n : Nat} {ns : List Int} (h : Lot n ns) : ns.length ≤ n := by
  have e := lot_sorted h
  rw [e.length_eq.symm, List.length_map]
  exact Nat.le_trans (List.length_filter_le ..) (by rw [List.length_range]; exact Nat.le_refl _)
def restN (n : Nat) (ns : List Int) (i : Nat) : List Int := natB ((List.range i).filter fun j => !hasB ns j)
theorem rest_in {n : Nat} {ns : List Int} {i : Nat} (h : hasB ns i = false) : restN n ns (i + 1) = restN n ns i ++ [(i : Int)] := by
  unfold restN natB
  rw [List.range_succ, List.filter_append, List.map_append]
  simp [h]
theorem rest_out {n : Nat} {ns : List Int} {i : Nat} (h : hasB ns i = true) : restN n ns (i + 1) = restN n ns i := by
  unfold restN natB
  rw [List.range_succ, List.filter_append, List.map_append]
  simp [h]
theorem rest_len {n : Nat} {ns : List Int} {i : Nat} : (restN n ns i).length ≤ i := by
  unfold restN natB
  rw [List.length_map]
  exact Nat.le_trans (List.length_filter_le ..) (by rw [List.length_range]; exact Nat.le_refl _)
theorem rest_lot {n : Nat} {ns : List Int} : Lot n (restN n ns n) := lot_nat
theorem rest_sum {ls ns : List Int} (h : Lot ls.length ns) : lsum ls (restN ls.length ns ls.length) + lsum ls ns = ls.sum := by
  have e : lsum ls (restN ls.length ns ls.length) = (oth ls ns ls.length).sum := by
    unfold lsum restN natB oth
    rw [List.map_map]
    rfl
  rw [e]
  exact oth_sum h
theorem nat_lots (p : Nat → Bool) : ∀ n, natB ((List.range n).filter p) ∈ lotsN n
  | 0 => List.mem_singleton.mpr rfl
  | n + 1 => by
    have ih := nat_lots p n
    rw [List.range_succ, List.filter_append, lotsN_succ]
    unfold natB at ih ⊢
    rw [List.map_append]
    cases e : p n with
    | true => exact List.mem_append_right _ (List.mem_map.mpr ⟨_, ih, by simp [e]⟩)
    | false => exact List.mem_append_left _ (by simpa [e] using ih)
theorem level_of {ls ns : List Int} (h : Lot ls.length ns) (e : 2 * lsum ls ns = ls.sum) : levelB ls = true := by
  rw [level_lots, List.any_eq_true]
  exact ⟨_, nat_lots (hasB ns) ls.length, decide_eq_true (by rw [lsum_perm (show (natB _).Perm ns from lot_sorted h)]; exact e)⟩
/-- the sort of the other bars -/
def opp (z : Str) : Str := if z = "short" then "long" else if z = "long" then "short" else "level"
theorem ne_sl : ¬ (("short" : Str) = "long") := by decide +kernel
theorem ne_sv : ¬ (("short" : Str) = "level") := by decide +kernel
theorem ne_lv : ¬ (("long" : Str) = "level") := by decide +kernel
theorem sort_cases (ls ns : List Int) : (2 * lsum ls ns = ls.sum ∧ sortV ls ns = "level") ∨ (2 * lsum ls ns < ls.sum ∧ sortV ls ns = "short") ∨ (ls.sum < 2 * lsum ls ns ∧ sortV ls ns = "long") := by
  unfold sortV
  by_cases c : 2 * lsum ls ns = ls.sum
  · exact .inl ⟨c, if_pos c⟩
  · by_cases d : 2 * lsum ls ns < ls.sum
    · exact .inr (.inl ⟨d, by rw [if_neg c, if_pos d]⟩)
    · exact .inr (.inr ⟨by omega, by rw [if_neg c, if_neg d]⟩)
theorem sort_rest {ls ns ms : List Int} (h : lsum ls ms + lsum ls ns = ls.sum) : sortV ls ms = opp (sortV ls ns) := by
  unfold opp
  rcases sort_cases ls ns with ⟨a, e⟩ | ⟨a, e⟩ | ⟨a, e⟩ <;> rcases sort_cases ls ms with ⟨b, f⟩ | ⟨b, f⟩ | ⟨b, f⟩ <;> rw [e, f] <;> first | (exfalso; omega) | skip
  · rw [if_neg fun z => ne_sv z.symm, if_neg fun z => ne_lv z.symm]
  · rw [if_pos rfl]
  · rw [if_neg fun z => ne_sl z.symm, if_pos rfl]
theorem perm_ints {ys : List V} {l : List Int} (h : ys.Perm (l.map V.int)) : ∃ ms : List Int, ys = ms.map V.int ∧ ms.Perm l := by
  refine ⟨ys.map vint, ?_, ?_⟩
  · rw [List.map_map]
    refine (List.map_id ys).symm.trans (List.map_congr_left fun y hy => ?_)
    obtain ⟨i, _, rfl⟩ := List.mem_map.mp (h.mem_iff.mp hy)
    rfl
  · have := h.map vint
    rw [vints] at this
    exact this
theorem rg_nat (n : Nat) : rgV 0 (n : Int) = (natB (List.range n)).map V.int := by
  unfold rgV natB
  rw [List.map_map, show (((n : Nat) : Int) - 0).toNat = n by omega]
  refine List.map_congr_left fun j _ => ?_
  show V.int (0 + (j : Int)) = V.int (j : Int)
  rw [Int.zero_add]
section
variable {P : Program} {w : World} {K : PySem.W.Frag} {mg : Str → Option Value} {base : Heap}
theorem LotV.lst {H : Hp} {E : XK} {c : Cs} {n : Nat} {part : Str} {a : Addr} {ns : List Int} {k : List Int → Prop} (h : H a = some (.lst (ns.map V.int))) (l : Lot n ns) (hn : ns.length ≤ 8) (q : k ns) : LotV K H E c n part (.ref a) k := by
  refine .inr (.inl ⟨a, ns.map V.int, fun _ => "int", rfl, ⟨.base (.lst h), by decide⟩, SqL.of h, by rw [List.length_map]; omega, fun x hx => ?_, .inr ⟨ns, rfl, List.all_eq_true.mpr fun _ _ => rfl, ?_⟩⟩)
  · obtain ⟨i, _, rfl⟩ := List.mem_map.mp hx
    exact Knd.int
  · rw [res_lot l]
    exact q
theorem LotV.tpl {H : Hp} {E : XK} {c : Cs} {n : Nat} {part : Str} {a : Addr} {ns : List Int} {k : List Int → Prop} (h : H a = some (.tup (ns.map V.int))) (l : Lot n ns) (hn : ns.length ≤ 8) (q : k ns) : LotV K H E c n part (.ref a) k := by
  refine .inr (.inr ⟨a, ns, rfl, ⟨.base (.tup h), by decide⟩, .inl (.inl h), by omega, ?_⟩)
  rw [res_lot l]
  exact q
theorem RingAt.but {C p : Addr} {e : Addr × List Int} {n : Nat} {H H' : Hp} {r : Addr} {ls : List Int} (h : RingAt K C H r ls) (b : But p H H') (pen : PenAt K H p e n) : RingAt K C H' r ls := by
  obtain ⟨dx, t, h1, h2, o, h3, h4⟩ := h
  obtain ⟨_, _, hp, _⟩ := pen.ex
  have nr : r ≠ p := fun z => by rw [z, hp] at h1; cases h1
  have nt : t ≠ p := fun z => by rw [z, hp] at h3; cases h3
  exact ⟨dx, t, b _ _ nr h1, .inl (.inr ⟨o, b _ _ nt h3⟩), o, b _ _ nt h3, h4⟩
end
/-! ### a whole ring -/
def isLong (ls : List Int) (j : Nat) : Bool := decide (ls.sum < 2 * ls.getD j 0)
def alone (ls : List Int) (i : Nat) : List Int := natB ((List.range i).filter (isLong ls))
theorem alone_in {ls : List Int} {i : Nat} (h : isLong ls i = true) : alone ls (i + 1) = alone ls i ++ [(i : Int)] := by
  unfold alone natB
  rw [List.range_succ, List.filter_append, List.map_append]
  simp [h]
theorem alone_out {ls : List Int} {i : Nat} (h : isLong ls i = false) : alone ls (i + 1) = alone ls i := by
  unfold alone natB
  rw [List.range_succ, List.filter_append, List.map_append]
  simp [h]
theorem alone_len {ls : List Int} {i : Nat} : (alone ls i).length ≤ i := by
  unfold alone natB
  rw [List.length_map]
  exact Nat.le_trans (List.length_filter_le ..) (by rw [List.length_range]; exact Nat.le_refl _)
theorem sort_one {ls : List Int} {i : Nat} : decide (V.str (sortV ls [(i : Int)]) = V.str "long") = isLong ls i := by
  have e : lsum ls [(i : Int)] = ls.getD i 0 := by
    unfold lsum
    rw [List.map_singleton, List.sum_singleton, Int.toNat_natCast]
  unfold isLong
  rcases sort_cases ls [(i : Int)] with ⟨a, h⟩ | ⟨a, h⟩ | ⟨a, h⟩ <;> rw [h] <;> rw [e] at a
  · rw [decide_eq_false fun z => ne_lv (V.str.inj z).symm, decide_eq_false (by omega)]
  · rw [decide_eq_false fun z => ne_sl (V.str.inj z), decide_eq_false (by omega)]
  · rw [decide_eq_true rfl, decide_eq_true (by omega)]
theorem sum_pos : ∀ {l : List Int}, (∀ z ∈ l, 0 ≤ z) → 0 ≤ l.sum
  | [], _ => by simp
  | a :: l, q => by
    rw [List.sum_cons]
    have := sum_pos (l := l) fun z hz => q z (List.mem_cons_of_mem _ hz)
    have := q a (List.mem_cons_self ..)
    omega
theorem get_sum : ∀ {l : List Int} {k : Nat}, (∀ z ∈ l, 0 ≤ z) → k < l.length → l.getD k 0 ≤ l.sum
  | a :: l, 0, q, _ => by
    have := sum_pos (l := l) fun z hz => q z (List.mem_cons_of_mem _ hz)
    rw [List.sum_cons, List.getD_cons_zero]
    omega
  | a :: l, k + 1, q, h => by
    have := get_sum (l := l) (k := k) (fun z hz => q z (List.mem_cons_of_mem _ hz)) (by simpa using h)
    have := q a (List.mem_cons_self ..)
    rw [List.sum_cons, List.getD_cons_succ]
    omega
theorem sum_two : ∀ {l : List Int} {i j : Nat}, (∀ z ∈ l, 0 ≤ z) → i < j → j < l.length → l.getD i 0 + l.getD j 0 ≤ l.sum
  | a :: l, 0, j + 1, q, _, h => by
    have := get_sum (l := l) (k := j) (fun z hz => q z (List.mem_cons_of_mem _ hz)) (by simpa using h)
    rw [List.sum_cons, List.getD_cons_zero, List.getD_cons_succ]
    omega
  | a :: l, i + 1, j + 1, q, hij, h => by
    have := sum_two (l := l) (i := i) (j := j) (fun z hz => q z (List.mem_cons_of_mem _ hz)) (by omega) (by simpa using h)
    have := q a (List.mem_cons_self ..)
    rw [List.sum_cons, List.getD_cons_succ, List.getD_cons_succ]
    omega
theorem long_uniq {ls : List Int} (h0 : ∀ x ∈ ls, 0 ≤ x) {i j : Nat} (hi : i < ls.length) (hj : j < ls.length) (a : isLong ls i = true) (b : isLong ls j = true) : i = j := by
  have a' := of_decide_eq_true a
  have b' := of_decide_eq_true b
  rcases Nat.lt_trichotomy i j with h | h | h
  · have := sum_two h0 h hj
    omega
  · exact h
  · have := sum_two h0 h hi
    omega
theorem filter_uniq {p : Nat → Bool} {j : Nat} : ∀ n, j < n → p j = true → (∀ i, i < n → p i = true → i = j) → (List.range n).filter p = [j]
  | 0, h, _, _ => by omega
  | n + 1, h, hp, u => by
    rw [List.range_succ, List.filter_append]
    by_cases e : n = j
    · have h1 : (List.range n).filter p = [] := List.filter_eq_nil_iff.mpr fun i hi q => by
        have := u i (by have := List.mem_range.mp hi; omega) q
        have := List.mem_range.mp hi
        omega
      rw [h1, e]
      simp [hp]
    · have h1 := filter_uniq n (by omega) hp fun i hi q => u i (by omega) q
      have h2 : p n = false := by
        cases q : p n with
        | false => rfl
        | true => exact absurd (u n (by omega) q) e
      rw [h1]
      simp [h2]
/-- what is due of closes, of too_long and of the bars that are long alone -/
theorem alone_two {ls : List Int} (h0 : ∀ x ∈ ls, 0 ≤ x) : (closesB ls = true ∧ alone ls ls.length = []) ∨ (closesB ls = false ∧ ∃ j : Nat, j < ls.length ∧ isLong ls j = true ∧ alone ls ls.length = [(j : Int)]) := by
  cases e : closesB ls with
  | true =>
    refine .inl ⟨rfl, ?_⟩
    unfold alone
    rw [show (List.range ls.length).filter (isLong ls) = [] from List.filter_eq_nil_iff.mpr fun i hi q => ?_]
    · rfl
    · have hi' := List.mem_range.mp hi
      have c := List.all_eq_true.mp e ls[i] (List.getElem_mem hi')
      have q' := of_decide_eq_true q
      rw [List.getD_eq_getElem?_getD, List.getElem?_eq_getElem hi'] at q'
      have c' := of_decide_eq_true c
      simp only [Option.getD_some] at q'
      omega
  | false =>
    unfold closesB at e
    rw [List.all_eq_false] at e
    obtain ⟨x, hx, nx⟩ := e
    obtain ⟨j, hjl, rfl⟩ := List.mem_iff_getElem.mp hx
    have hxs : ¬ 2 * ls[j] ≤ ls.sum := fun z => nx (decide_eq_true z)
    have lj : isLong ls j = true := by
      refine decide_eq_true ?_
      rw [List.getD_eq_getElem?_getD, List.getElem?_eq_getElem hjl]
      simp only [Option.getD_some]
      omega
    refine .inr ⟨rfl, j, hjl, lj, ?_⟩
    unfold alone
    rw [filter_uniq ls.length hjl lj fun i hi q => long_uniq h0 hi hjl q lj]
    rfl
theorem alone_c {ls : List Int} (h0 : ∀ x ∈ ls, 0 ≤ x) : closesB ls = (alone ls ls.length).isEmpty ∧ (alone ls ls.length).length ≤ 1 := by
  rcases alone_two h0 with ⟨e, a⟩ | ⟨e, j, _, _, a⟩
  · rw [e, a]
    exact ⟨rfl, by decide⟩
  · rw [e, a]
    exact ⟨rfl, Nat.le_refl _⟩
theorem lotsN_lot {n : Nat} {l : List Int} (h : l ∈ lotsN n) : Lot n l := ⟨lotsN_nodup n l h, lotsN_in n l h⟩
theorem level_any {ls : List Int} {xs : List V} {kf : V → List Int} (p : (xs.map kf).Perm (lotsN ls.length)) : inV (.str "level") (xs.map fun x => V.str (sortV ls (kf x))) = levelB ls := by
  rw [level_lots]
  have e1 : (lotsN ls.length).any (fun l => decide (2 * lsum ls l = ls.sum)) = (xs.map kf).any fun l => decide (2 * lsum ls l = ls.sum) := by
    rw [Bool.eq_iff_iff, List.any_eq_true, List.any_eq_true]
    exact ⟨fun ⟨x, hx, q⟩ => ⟨x, p.mem_iff.mpr hx, q⟩, fun ⟨x, hx, q⟩ => ⟨x, p.mem_iff.mp hx, q⟩⟩
  rw [e1, List.any_map]
  unfold inV
  rw [List.any_map]
  congr 1
  funext x
  show decide (sortV ls (kf x) = "level") = decide (2 * lsum ls (kf x) = ls.sum)
  rcases sort_cases ls (kf x) with ⟨a, e⟩ | ⟨a, e⟩ | ⟨a, e⟩ <;> rw [e]
  · rw [decide_eq_true rfl, decide_eq_true a]
  · rw [decide_eq_false ne_sv, decide_eq_false (by omega)]
  · rw [decide_eq_false ne_lv, decide_eq_false (by omega)]
theorem even_of {ls : List Int} (h : levelB ls = true) : ls.sum % 2 = 0 := by
  rw [level_lots, List.any_eq_true] at h
  obtain ⟨l, _, q⟩ := h
  have := of_decide_eq_true q
  omega
theorem ne_bb {a b : Bool} (h : a = b) : (!decide (V.bl a = V.bl b)) = false := by rw [h, decide_eq_true rfl]; rfl
theorem ne_vv (v : V) : (!decide (v = v)) = false := by rw [decide_eq_true rfl]; rfl
theorem at_back {α : Type} {xs : List α} {v : α} (hl : 0 < xs.length) (h : xs[xs.length - 1]? = some v) : atI xs (-1) = some v := by
  unfold atI ixN
  rw [if_neg (by decide), if_pos (by omega), show ((-1 : Int) + (xs.length : Int)).toNat = xs.length - 1 by omega]
  exact h
theorem shaped_nil : SeqAt.shaped (.list []) = true := shaped_ints []
end K
namespace K
open PySem L2 Rg
open Evl (pss_cut)
theorem Bd.app {m : Int} {a b : List Int} (h : Bd m a) (k : Bd m b) : Bd m (a ++ b) := fun x hx => (List.mem_append.mp hx).elim (h x) (k x)
theorem Bd.take {m : Int} {a : List Int} (i : Nat) (h : Bd m a) : Bd m (a.take i) := fun x hx => h x (List.mem_of_mem_take hx)
theorem Bd.drop {m : Int} {a : List Int} (i : Nat) (h : Bd m a) : Bd m (a.drop i) := fun x hx => h x (List.mem_of_mem_drop hx)
theorem Bd.one {m x : Int} (h1 : 1 ≤ x) (h2 : x ≤ m) : Bd m [x] := fun y hy => by rw [List.mem_singleton.mp hy]; exact ⟨h1, h2⟩
theorem getD_mem {ls : List Int} {i : Nat} (h : i < ls.length) : ls.getD i 0 ∈ ls := by
  rw [List.getD_eq_getElem?_getD, List.getElem?_eq_getElem h]
  exact List.getElem_mem h
theorem Bd.get {m : Int} {ls : List Int} (h : Bd m ls) {i : Nat} (hi : i < ls.length) : 1 ≤ ls.getD i 0 ∧ ls.getD i 0 ≤ m := h _ (getD_mem hi)
theorem cut_from (xs : List V) {z : Int} {k : Nat} (hz : z = (k : Int)) : cutV xs (some z) none = xs.drop k := by
  subst hz
  unfold cutV
  rw [HT.sIx_nat, HT.sIx_none]
  by_cases h : k ≤ xs.length
  · rw [Nat.min_eq_left h, List.take_of_length_le (by rw [List.length_drop]; omega)]
  · rw [Nat.min_eq_right (by omega), List.drop_eq_nil_of_le (Nat.le_refl _), List.drop_eq_nil_of_le (show xs.length ≤ k by omega), List.take_nil]
theorem getL {ls : List Int} {z : Int} {i : Nat} (hz : z = (i : Int)) (h1 : i < ls.length) : atI (ls.map V.int) z = some (V.int (ls.getD i 0)) := by
  subst hz
  have h : (ls.map V.int)[i]? = some (V.int (ls.getD i 0)) := by rw [int_get h1, List.getD_eq_getElem?_getD, List.getElem?_eq_getElem h1]; rfl
  exact atI_nat h
theorem natB_len (n : Nat) : (natB (List.range n)).length = n := by unfold natB; rw [List.length_map, List.length_range]
theorem natB_sorted (n : Nat) : (natB (List.range n)).Pairwise (· ≤ ·) := by
  unfold natB
  rw [List.pairwise_map]
  exact List.pairwise_lt_range.imp fun h => by omega
theorem sorted_eq {a b : List Int} (p : a.Perm b) (ha : a.Pairwise (· ≤ ·)) (hb : b.Pairwise (· ≤ ·)) : a = b := List.Perm.eq_of_pairwise (fun x y _ _ h1 h2 => Int.le_antisymm h1 h2) ha hb p
theorem natB_mem {n : Nat} {x : Int} (h : x ∈ natB (List.range n)) : 0 ≤ x ∧ x < n := by
  obtain ⟨j, hj, rfl⟩ := List.mem_map.mp h
  have := List.mem_range.mp hj
  omega
def ordL (ls ns : List Int) : List Int := ns.map fun b => ls.getD b.toNat 0
theorem ordL_take {ls ns : List Int} {i : Nat} {z : Int} (h : ns[i]? = some z) : ordL ls (ns.take (i + 1)) = ordL ls (ns.take i) ++ [ls.getD z.toNat 0] := by
  unfold ordL
  rw [← take_snoc h, List.map_append]
  rfl
theorem ordL_len (ls ns : List Int) : (ordL ls ns).length = ns.length := List.length_map ..
theorem ordL_bd {ls ns : List Int} {m : Int} (b : Bd m ls) (p : ns.Perm (natB (List.range ls.length))) : Bd m (ordL ls ns) := fun x hx => by
  obtain ⟨z, hz, rfl⟩ := List.mem_map.mp hx
  have := natB_mem (p.mem_iff.mp hz)
  exact b.get (by omega)
theorem get_z {ls : List Int} {z : Int} (h0 : 0 ≤ z) (h1 : z < ls.length) : atI (ls.map V.int) z = some (V.int (ls.getD z.toNat 0)) := getL (i := z.toNat) (by omega) (by omega)
theorem eqvA_pd (a b : List Int) : PyData.eqv (.list (a.map PyData.int)) (.list (b.map PyData.int)) = decide (a = b) := by
  simp [PyData.eqv, Rg.eqvA_ints8]
section
variable {P : Program} {w : World} {K : PySem.W.Frag} {mg : Str → Option Value} {base : Heap}
theorem RingW.same {C : Addr} {H H' : Hp} {r : Addr} {ls : List Int} (h : RingW K C H r ls) (s : Same H H') : RingW K C H' r ls := by
  obtain ⟨dx, t, h1, h2⟩ := h
  exact ⟨dx, t, s _ _ h1, s.tup h2⟩
/-- a new ring is told, all that was tracked stands -/
def NewA (K : PySem.W.Frag) (C : Addr) (ls : List Int) (H : Hp) (Q : VK) : Prop := ∀ r H', RingAt K C H' r ls → Same H H' → H r = none → Q (.ref r) H'
theorem NewA.later {C : Addr} {ls : List Int} {H H1 : Hp} {Q : VK} (h : NewA K C ls H Q) (s : Same H H1) : NewA K C ls H1 Q := fun r H' a b c => h r H' a (s.trans b) (s.free c)
/-! ### want_bar, want_number of what is one -/
def spBarV : Sp := fun vs H Q _ => ∃ (v many : Int), vs = [.int v, .int many] ∧ 0 ≤ v ∧ v < many ∧ Q .non H
theorem ok_barV {f fW : Addr} {fd fdW : FuncData} (F : Fun K "want_bar" "want_bar" sWantBar f fd) (W : DefAt P w K mg base CX0 2 "is_within" ["value", "least", "most"] spWithin fW fdW) : FnOk P w K mg base CX0 3 f fd ["value", "many"] spBarV := by
  refine F.ok scWantBar (fun vs H Q E h => ?_) (fun cdv A outer s H vs Q E hr h => ?_)
  · obtain ⟨v, many, rfl, _⟩ := h
    rfl
  · refine ⟨_, pss_one (ps_if (pt_not (pt_val (pe_call W.ok hr rfl W.g W.kp W.b .nil pass0 (pa_cons (pv 0) (pa_cons pe_int (pa_cons (pe_op op_sub (pv 1) pe_int) pa_nil)))))) (pss_one ps_never) pss_nil), ?_⟩
    obtain ⟨v, many, rfl, h0, h1, q⟩ := h
    refine ⟨_, rfl, _, rfl, _, _, rfl, rfl, v, 0, many - 1, rfl, _, rfl, ?_⟩
    refine iteBF ?_ q
    simp only [decide_eq_true h0, decide_eq_true (show v ≤ many - 1 by omega)]
    rfl
def spNumV : Sp := fun vs H Q _ => ∃ (v lo hi : Int) (part : Str), vs = [.int v, .int lo, .int hi, .str part] ∧ lo ≤ v ∧ v ≤ hi ∧ Q .non H
theorem scWantNum : FnScope ["value", "least", "most", "part"] ["value", "least", "most", "part"] (defScope sWantNumber) := ⟨rfl, rfl, rfl, by decide +kernel, rfl, by decide +kernel, by decide +kernel⟩
theorem ok_numV {f fW : Addr} {fd fdW : FuncData} (F : Fun K "want_number" "want_number" sWantNumber f fd) (W : DefAt P w K mg base CX0 2 "is_within" ["value", "least", "most"] spWithin fW fdW) : FnOk P w K mg base CX0 3 f fd ["value", "least", "most", "part"] spNumV := by
  refine F.ok scWantNum (fun vs H Q E h => ?_) (fun cdv A outer s H vs Q E hr h => ?_)
  · obtain ⟨v, lo, hi, part, rfl, _⟩ := h
    rfl
  · refine ⟨_, pss_one (ps_if (pt_not (pt_val (pe_call W.ok hr rfl W.g W.kp W.b .nil pass0 (pa_cons (pv 0) (pa_cons (pv 1) (pa_cons (pv 2) pa_nil)))))) (pss_one ps_never) pss_nil), ?_⟩
    obtain ⟨v, lo, hi, part, rfl, h0, h1, q⟩ := h
    refine ⟨_, rfl, _, rfl, _, rfl, v, lo, hi, rfl, _, rfl, ?_⟩
    refine iteBF ?_ q
    simp only [decide_eq_true h0, decide_eq_true h1]
    rfl
/-! ### is_within of anything -/
/-- what is_within tells of a value of the kind k -/
def winB (k : String) (lo hi : Int) (v : V) : Bool := decide (k = "int") && match v with
  | .int i => decide (lo ≤ i) && decide (i ≤ hi)
  | _ => false
def spWithinO (K : PySem.W.Frag) : Sp := fun vs H Q _ => ∃ (v : V) (k : String) (lo hi : Int), vs = [v, .int lo, .int hi] ∧ Knd K H v k ∧ k ≠ "int" ∧ Q (.bl false) H
theorem ok_withinO {f fI : Addr} {fd fdI : FuncData} (F : Fun K "is_within" "is_within" sIsWithin f fd) (G : DefAt P w K mg base CX0 1 "is_integer" ["value"] (spIsInt K) fI fdI) : FnOk P w K mg base CX0 2 f fd ["value", "least", "most"] (spWithinO K) := by
  refine F.ok scWithin (fun vs H Q E h => ?_) (fun cdv A outer s H vs Q E hr h => ?_)
  · obtain ⟨v, k, lo, hi, rfl, _⟩ := h
    rfl
  · refine ⟨_, pss_cons (ps_if (pt_not (pt_val (pe_call G.ok hr rfl G.g G.kp G.b .nil pass0 (pa_cons (pv 0) pa_nil)))) (pss_one (ps_ret pe_bl)) pss_nil) (pss_one ps_never), ?_⟩
    obtain ⟨v, k, lo, hi, rfl, hk, nk, q⟩ := h
    refine ⟨_, rfl, v, k, rfl, hk, _, rfl, ?_⟩
    rw [decide_eq_false nk]
    exact iteT q
/-- a value, of a kind, that is an int just if the kind says so -/
def KndI (K : PySem.W.Frag) (H : Hp) (v : V) (k : String) : Prop := Knd K H v k ∧ (k = "int" → ∃ i, v = .int i)
def spWithinG (K : PySem.W.Frag) : Sp := fun vs H Q _ => ∃ (v : V) (k : String) (lo hi : Int), vs = [v, .int lo, .int hi] ∧ KndI K H v k ∧ Q (.bl (winB k lo hi v)) H
theorem ok_withinG {f fI : Addr} {fd fdI : FuncData} (F : Fun K "is_within" "is_within" sIsWithin f fd) (G : DefAt P w K mg base CX0 1 "is_integer" ["value"] (spIsInt K) fI fdI) : FnOk P w K mg base CX0 2 f fd ["value", "least", "most"] (spWithinG K) := by
  refine (fn_or (ok_within F G) (ok_withinO F G)).imp fun vs H Q E h => ?_
  obtain ⟨v, k, lo, hi, rfl, ⟨hk, hi'⟩, q⟩ := h
  by_cases c : k = "int"
  · obtain ⟨i, rfl⟩ := hi' c
    refine .inl ⟨i, lo, hi, rfl, ?_⟩
    unfold winB at q
    rw [decide_eq_true c, Bool.true_and] at q
    exact q
  · refine .inr ⟨v, k, lo, hi, rfl, hk, c, ?_⟩
    unfold winB at q
    rw [decide_eq_false c, Bool.false_and] at q
    exact q
/-! ### want_bar, want_number of anything -/
def spBarG (K : PySem.W.Frag) (C : Addr) : Sp := fun vs H Q E => ∃ (v : V) (k : String) (many : Int), vs = [v, .int many] ∧ KndI K H v k ∧ ((winB k 0 (many - 1) v = true ∧ Q .non H) ∨ (winB k 0 (many - 1) v = false ∧ Errs E C "value" v H))
theorem ok_barG {f fW C fI : Addr} {fd fdW fdI : FuncData} (F : Fun K "want_bar" "want_bar" sWantBar f fd) (W : DefAt P w K mg base CX0 2 "is_within" ["value", "least", "most"] (spWithinG K) fW fdW) (B : ErrAt P w K mg base "NoBar" "value" C fI fdI) :
    FnOk P w K mg base (L2.CX P w) 3 f fd ["value", "many"] (spBarG K C) := by
  refine F.okX scWantBar (fun vs H Q E h => ?_) (fun cdv A outer s H vs Q E hr h => ?_)
  · obtain ⟨v, k, many, rfl, _⟩ := h
    rfl
  · refine ⟨_, pss_one (ps_if (pt_not (pt_val (pe_call W.ok hr rfl W.g W.kp W.b .nil pass0 (pa_cons (pv 0) (pa_cons pe_int (pa_cons (pe_op op_sub (pv 1) pe_int) pa_nil))))))
      (pss_one (ps_raise rfl (takes_of rfl rfl rfl rfl) (pmk_oex B.oex B.ic B.ti B.ok hr B.b .nil pass0 rfl B.g (pa_cons (pv 0) pa_nil)))) pss_nil), ?_⟩
    obtain ⟨v, k, many, rfl, hk, h⟩ := h
    refine ⟨_, rfl, _, rfl, _, _, rfl, rfl, v, k, 0, many - 1, rfl, hk, _, rfl, ?_⟩
    rcases h with ⟨e, q⟩ | ⟨e, q⟩
    · rw [e]; exact iteF q
    · rw [e]; exact iteT ⟨_, rfl, err_made B.oex B.nf q⟩
theorem madeL2 {C l : Addr} {E : XK} {H : Hp} {ls : List Int} {R : Addr → VK} (hs : H l = some (.lst (ls.map V.int))) (l3 : 3 ≤ ls.length) (l8 : ls.length ≤ 8) (bd : Bd 1000000 ls) (h : ∀ r H', RingAt K C H' r ls → Same H H' → H r = none → R r .non H') :
    ∀ x dx, H x = none → H dx = none → dx ≠ x → spRI K C (.ref x :: ([.ref l] ++ [])) (upd (upd H dx (.own x)) x (.ins C dx [])) (R x) E := by
  intro x dx hx hdx _
  have s0 : Same H (upd (upd H dx (.own x)) x (.ins C dx [])) := fun b o q => by
    rw [upd_ne (ne_of_none q hx), upd_ne (ne_of_none q hdx)]
    exact q
  exact ⟨x, l, dx, ls, rfl, upd_same, ⟨.base (.lst (s0 _ _ hs)), by decide⟩, SqL.of (s0 _ _ hs), l3, l8, bd, fun H' ring kp => h x H' ring (fun b o e => kp b o (s0 b o e) (ne_of_none e hx)) hx⟩
/-- the making of a Ring of a right list -/
structure RingP (P : Program) (w : World) (K : PySem.W.Frag) (mg : Str → Option Value) (base : Heap) (C fI : Addr) (fdI : FuncData) : Prop where
  made : Mk K C fI
  ok : FnOk P w K mg base CX0 4 fI fdI ["self", "lengths"] (spRI K C)
  b : Binds K fdI ["self", "lengths"] []
theorem sl_to {a : Addr} {ls : List Int} {i : Nat} {H : Hp} {Q : VK} (hs : SqT K H a (ls.map V.int)) (hi : i < ls.length) (k : ∀ t, H t = none → Q (.ref t) (upd H t (.tup ((ls.take i).map V.int)))) : rSlA K (.ref a) none (some (i : Int)) H Q := by
  refine ⟨a, _, rfl, hs, fun ⟨_, e2⟩ => ?_, fun _ p hp => ?_⟩
  · rw [HT.sIx_nat, List.length_map] at e2
    omega
  · rw [cutV_to, ← List.map_take]
    exact k p hp
theorem sl_from {a : Addr} {ls : List Int} {z : Int} {i : Nat} {H : Hp} {Q : VK} (hs : SqT K H a (ls.map V.int)) (hz : z = ((i + 1 : Nat) : Int)) (h0 : 0 < ls.length) (k : ∀ t, H t = none → Q (.ref t) (upd H t (.tup ((ls.drop (i + 1)).map V.int)))) : rSlA K (.ref a) (some z) none H Q := by
  refine ⟨a, _, rfl, hs, fun ⟨e1, _⟩ => ?_, fun _ p hp => ?_⟩
  · subst hz
    rw [HT.sIx_nat, List.length_map] at e1
    omega
  · rw [cut_from _ hz, ← List.map_drop]
    exact k p hp
theorem catI {a b : Addr} {xs ys : List Int} {H : Hp} {Q : VK} (ha : H a = some (.tup (xs.map V.int))) (hb : H b = some (.tup (ys.map V.int))) (hl : xs.length + ys.length ≤ 1000) (k : ∀ t H', H' t = some (.tup ((xs ++ ys).map V.int)) → Same H H' → Q (.ref t) H') : rCatA K (.ref a) (.ref b) H Q := by
  refine ⟨a, b, _, _, rfl, rfl, .inl (.inl ha), .inl (.inl hb), by rw [List.length_map, List.length_map]; exact Nat.le_of_lt (sm (by omega)), fun e => k b H ?_ (Same.refl H), fun _ e => k a H ?_ (Same.refl H), fun _ _ p hp => k p _ ?_ ((Same.refl H).new hp)⟩
  · rw [List.map_eq_nil_iff.mp e]; exact hb
  · rw [List.map_eq_nil_iff.mp e, List.append_nil]; exact ha
  · rw [upd_same, List.map_append]
end
end K
namespace K
open PySem L2 Rg LamX
open Evl (pss_cut)
/-! ### tables -/
abbrev qLaw : Str := "law.<locals>.<lambda>"
abbrev qIO : Str := "in_order.<locals>.<lambda>"
abbrev T2 (P1 P2 : Addr) : List (Addr × Str) := [(P1, qLaw), (P2, qIO)]
/-- a def whose code object stands at c -/
structure FunC (K : PySem.W.Frag) (x qual : Str) (st : Stmt) (f : Addr) (fd : FuncData) (c : Addr) : Prop where
  ex : ∃ (oc : Value) (od : Option Addr) (kV doc pm : Value) (an : Option Addr) (ct : Value) (osl : Array (Option Value)),
    fd = PySem.W.fnOf x qual (defArgs st) (defBody st) (defScope st) .none kV doc pm an (.ref c) ct ∧ K.lookup f = some ⟨oc, od, .func fd, osl⟩ ∧ PySem.W.codeIn K (.ref c) qual = true
theorem FunC.ok {P : Program} {w : World} {K : PySem.W.Frag} {mg : Str → Option Value} {base : Heap} {x qual : Str} {st : Stmt} {f c : Addr} {fd : FuncData} {N ps : List Str} {k : Nat} {sp : Sp} (F : FunC K x qual st f fd c) (S : FnScope N ps (defScope st)) (len : ∀ vs H Q E, sp vs H Q E → vs.length = ps.length)
    (hbody : ∀ (A : Around) (outer : List Env) (s : Shared) (H : Hp) (vs : List V) (Q : VK) (E : XK), Room k (A.deeper (PyProof.Rows.envOfC qual (defScope st) s.heap.objs.size f (.ref c))) → sp vs H Q E →
      ∃ t, PSs (cxOf CX0 P w K mg base N qual (defScope st) f (.ref c) A outer s H E).nox (defBody st) t ∧ t { nx := fun _ H' => Q .non H', rt := Q } (L2.start N vs) H) : FnOk P w K mg base CX0 (k + 1) f fd ps sp := by
  obtain ⟨oc, od, kV, doc, pm, an, ct, osl, rfl, lk, hcd⟩ := F.ex
  exact fn_of lk hcd S len fun A outer s H vs Q E hr hsp => by
    obtain ⟨t, h, q⟩ := hbody A outer s H vs Q E hr hsp
    exact ⟨t, h.nox, q⟩
/-- a promise that no error is told in -/
theorem fn_calm {P : Program} {w : World} {K : PySem.W.Frag} {mg : Str → Option Value} {base : Heap} {k : Nat} {f : Addr} {fd : FuncData} {ps : List Str} {sp : Sp} (F : FnOk P w K mg base (L2.CX P w) k f fd ps sp) : FnOk P w K mg base CX0 k f fd ps (fun vs H Q _ => sp vs H Q fun _ _ _ => False) :=
  ⟨fun vs H Q E h => F.len _ _ _ _ h, fun A outer s H args us vs Q E hr e0 hb hv h => codeAny_mono (F.run A outer s H args us vs Q (fun _ _ _ => False) hr e0 hb hv h) fun r s' hq => by
    cases r with
    | ok fl => cases fl <;> exact hq
    | error e =>
      obtain ⟨_, _, _, _, _, _, _, _, _, _, _, _, z⟩ := hq
      exact z⟩
section
variable {P : Program} {w : World} {K : PySem.W.Frag} {mg : Str → Option Value} {base : Heap}
/-! ### in_order -/
def spInOrd (K : PySem.W.Frag) (T : List (Addr × Str)) : Sp := fun vs H Q _ => ∃ (a : Addr) (xs : List V) (k : V → List Int), vs = [.ref a] ∧ SqL K H a xs ∧ (∀ x ∈ xs, ∃ t, x = V.ref t ∧ H t = some (.tup ((k x).map V.int))) ∧ Tabs T H ∧
  ∀ H' p ys, ExtN H H' → Tabs T H' → ys.Perm xs → (ys.Pairwise fun u v => lotLe (k u) (k v) = true) → H' p = some (.tup ys) → Q (.ref p) H'
theorem scInOrd : FnScope ["lots"] ["lots"] (defScope sInOrder) := ⟨rfl, rfl, rfl, by decide +kernel, rfl, by decide +kernel, by decide +kernel⟩
theorem ok_inOrd {cd P1 P2 f : Addr} {fd : FuncData} (F : FunC K "in_order" "in_order" sInOrder f fd cd) (T : Bi mg) (TB : TabB base mg cd P2) (hmT : (P2, qIO) ∈ T2 P1 P2) (hu : ∀ p ∈ T2 P1 P2, p.1 = P2 → p.2 = qIO) : FnOk P w K mg base CX0 2 f fd ["lots"] (spInOrd K (T2 P1 P2)) := by
  refine F.ok scInOrd (fun vs H Q E h => ?_) (fun A outer s H vs Q E hr h => ?_)
  · obtain ⟨a, xs, k, rfl, _⟩ := h
    rfl
  · refine ⟨_, pss_one (ps_ret (pe_callTy call_tuple_of (by rfl) T.tuple (by decide +kernel) (pa_cons (pe_sortLots hr.depth hr.units (by rfl) T.sorted T.len (pv 0) TB rfl hmT hu rfl rfl rfl rfl (by decide +kernel) rfl rfl rfl (fun _ _ _ _ _ => rfl)) pa_nil))), ?_⟩
    obtain ⟨a, xs, k, rfl, hs, hx, hT, q⟩ := h
    refine ⟨_, rfl, a, xs, k, rfl, hs, hx, hT, fun H2 p ys eN tb pm pw np => ⟨p, ys, rfl, .inl ⟨SqL.of upd_same, fun t ht => ?_⟩⟩⟩
    have s1 : Same H2 (upd (upd H2 p (.lst ys)) t (.tup ys)) := ((Same.refl H2).new np).new ht
    exact q _ t ys (eN.trans (ExtN.of s1)) (tb.ext s1) pm pw upd_same
/-! ### lots_of -/
def spLotsOf (K : PySem.W.Frag) (T : List (Addr × Str)) : Sp := fun vs H Q _ => ∃ n : Nat, vs = [.int n] ∧ 1 ≤ n ∧ n ≤ 8 ∧ Tabs T H ∧
  ∀ (p : Addr) (xs : List V) (kf : V → List Int) (H' : Hp), ExtN H H' → Tabs T H' → H' p = some (.tup xs) → LotsAt H' xs kf → (xs.map kf).Perm (lotsN n) → (xs.Pairwise fun u v => lotLe (kf u) (kf v) = true) → Q (.ref p) H'
abbrev nLotsOf : List Str := ["many", "lots", "bar", "lot"]
theorem scLotsOf : FnScope nLotsOf ["many"] (defScope sLotsOf) := ⟨rfl, rfl, rfl, by decide +kernel, rfl, by decide +kernel, by decide +kernel⟩
theorem ok_lotsOf {P1 P2 f fN fI : Addr} {fd fdN fdI : FuncData} (F : Fun K "lots_of" "lots_of" sLotsOf f fd) (T : Bi mg) (N : Nm mg) (NV : DefAt P w K mg base CX0 3 "want_number" ["value", "least", "most", "part"] spNumV fN fdN) (IO : DefAt P w K mg base CX0 2 "in_order" ["lots"] (spInOrd K (T2 P1 P2)) fI fdI) : FnOk P w K mg base CX0 4 f fd ["many"] (spLotsOf K (T2 P1 P2)) := by
  refine F.ok scLotsOf (fun vs H Q E h => ?_) (fun cdv A outer s H vs Q E hr h => ?_)
  · obtain ⟨n, rfl, _⟩ := h
    rfl
  · have nd := scLotsOf.nd
    obtain ⟨t8, h8⟩ := N.mostB
    refine ⟨_, pss_cons (ps_expr (pe_call NV.ok hr rfl NV.g NV.kp NV.b .nil pass0 (pa_cons (pv 0) (pa_cons pe_int (pa_cons (pe_glob (v := .int 8) rfl h8 ⟨_, rfl⟩) (pa_cons pe_str pa_nil))))))
      (pss_cons (ps_set (i := 1) nd rfl (Or.inl rfl) (pe_lst (pa_cons (pe_tup pa_nil) pa_nil)))
      (pss_cons (ps_for PassesOwn.never rfl (pi_range1 (by rfl) T.range (pa_cons (pv 0) pa_nil)) (pg_name (i := 2) nd rfl (Or.inr rfl)) (pss_one (ps_set (i := 1) nd rfl (Or.inl rfl) (pe_op op_cat (pv 1) (pe_lc (own := [("lot", 3)]) (g := gName 3) (tt := tYes) (te := tOp (rCatA K) (tVar 3) (tTup (tCons (tVar 2) tNil))) rfl nd (pi_list (pv 1))
        (blkOk_by (N := nLotsOf) (sc := defScope sLotsOf) (by decide +kernel)) (fun _ _ _ _ _ => pg_name (i := 3) nd rfl (Or.inl rfl)) (fun _ _ _ _ _ => pts_nil) (fun _ _ _ _ _ => pe_op op_catA (pv 3) (pe_tup (pa_cons (pv 2) pa_nil))))))))
      (pss_one (ps_ret (pe_call IO.ok (hr.mono (by decide)) rfl IO.g IO.kp IO.b .nil pass0 (pa_cons (pv 1) pa_nil)))))), ?_⟩
    obtain ⟨n, rfl, n1, n8, tab, q⟩ := h
    refine ⟨_, rfl, n, 1, 8, "many", rfl, by omega, by omega, ?_⟩
    refine ⟨(by show 0 ≤ sizeLine; decide), fun e0 he0 => ⟨(by show 1 ≤ sizeLine; decide), fun l0 hl0 => ?_⟩⟩
    have s0 : Same H (upd (upd H e0 (.tup [])) l0 (.lst [.ref e0])) := ((Same.refl H).new he0).new hl0
    have he1 : upd (upd H e0 (.tup [])) l0 (.lst [.ref e0]) e0 = some (.tup []) := by rw [upd_ne (ne_of_none upd_same hl0), upd_same]
    refine ⟨_, rfl, _, rfl, by omega, by omega, ?_⟩
    refine for_range (lo := 0) (n := ((n : Nat) : Int).toNat) (fun i σ H' => ∃ (l : Addr) (t : Option V) (xs : List V), σ = [some (.int n), some (.ref l), t, none] ∧ Same H H' ∧ H' l = some (.lst xs) ∧ TL H' xs (lotsN i))
      ⟨l0, none, [.ref e0], rfl, s0, upd_same, .cons ⟨e0, rfl, he1⟩ .nil⟩ ?_ ?_
    · rintro i σ H' hi ⟨l, t, xs, rfl, s1, h1, tl⟩
      have hi8 : i < 8 := by omega
      have hxl : xs.length = 2 ^ i := by rw [par_len tl, lotsN_length]
      have h256 : 2 ^ i ≤ 128 := Nat.pow_le_pow_right (by decide) (show i ≤ 7 by omega)
      rw [Int.zero_add]
      refine ⟨_, rfl, _, rfl, l, rfl, ⟨_, SqL.of h1⟩, fun D hD => ?_⟩
      refine lc_list (K := K) (a := l) (xs := xs) (fun j H2 => Same H' H2 ∧ ∃ ys, H2 D = some (.lst ys) ∧ TL H2 ys (((lotsN i).take j).map (· ++ [(i : Int)]))) ⟨(Same.refl H').new hD, [], upd_same, .nil⟩ (fun j H2 _ p => p.1.seq (SqL.of h1)) ?_ ?_
      · rintro j y H2 hj ⟨s2, ys, h2, yl⟩
        obtain ⟨ns, hns, a, rfl, ha⟩ := par_get tl hj
        have ha2 := s2 _ _ ha
        have hjl : j < (lotsN i).length := (List.getElem?_eq_some_iff.mp hns).1
        have hyl : ys.length < sizeLine := by
          have := lotsN_length i
          rw [par_len yl, List.length_map, List.length_take]
          exact sm (by omega)
        have fin : ∀ (c : Addr) (H3 : Hp), Same H2 H3 → H3 c = some (.tup ((ns ++ [(i : Int)]).map V.int)) → ∃ acc, H3 D = some (.lst acc) ∧ acc.length < sizeLine ∧ (Same H' (upd H3 D (.lst (acc ++ [.ref c]))) ∧ ∃ zs, upd H3 D (.lst (acc ++ [.ref c])) D = some (.lst zs) ∧ TL (upd H3 D (.lst (acc ++ [.ref c]))) zs (((lotsN i).take (j + 1)).map (· ++ [(i : Int)]))) := by
          intro c H3 s3 hc
          have s4 : ∀ (q : Addr) (us : List V), H3 q = some (.tup us) → upd H3 D (.lst (ys ++ [.ref c])) q = some (.tup us) := fun q us hq => by
            rw [upd_ne fun e => ?_]
            · exact hq
            · rw [e, s3 _ _ h2] at hq
              cases hq
          refine ⟨ys, s3 _ _ h2, hyl, (s2.trans s3).mut hD, _, upd_same, ?_⟩
          rw [← take_snoc hns, List.map_append]
          exact par_app (par_imp (fun _ _ ⟨q, e, hq⟩ => ⟨q, e, s4 _ _ hq⟩) (yl.same s3)) (.cons ⟨c, rfl, s4 _ _ hc⟩ .nil)
        refine ⟨rfl, _, rfl, _, rfl, (by show 1 ≤ sizeLine; decide), fun b hb => ⟨a, b, ns.map V.int, [.int i], rfl, rfl, .inl (.inl (by rw [upd_ne (ne_of_none ha2 hb)]; exact ha2)), .inl (.inl upd_same), ?_, fun e => ?_, (fun _ z => by cases z), fun _ _ p hp => ?_⟩⟩
        · have := lotsN_len i ns (List.mem_of_getElem? hns)
          rw [List.length_map, List.length_singleton]
          exact Nat.le_of_lt (sm (by omega))
        · have e' : ns = [] := by cases ns with
            | nil => rfl
            | cons _ _ => cases e
          subst e'
          exact fin b _ ((Same.refl H2).new hb) upd_same
        · refine fin p _ (((Same.refl H2).new hb).new hp) ?_
          rw [upd_same, List.map_append]
          rfl
      · rintro H2 ⟨s2, ys, h2, yl⟩
        have eh : xs.length = (lotsN i).length := par_len tl
        rw [eh, List.take_length] at yl
        refine ⟨l, D, _, _, rfl, rfl, s2 _ _ h1, h2, ?_, fun p hp => ⟨p, _, _, rfl, (s1.trans s2).new hp, upd_same, ?_⟩⟩
        · rw [par_len yl, List.length_map, ← eh]
          exact Nat.le_of_lt (sm (by omega))
        · have s3 : Same H2 (upd H2 p (.lst (xs ++ ys))) := (Same.refl H2).new hp
          rw [lotsN_succ]
          exact par_app (tl.same (s2.trans s3)) (yl.same s3)
    · rintro σ H' ⟨l, t, xs, rfl, s1, h1, tl⟩
      rw [Int.toNat_natCast] at tl
      refine ⟨_, rfl, l, xs, cont H', rfl, SqL.of h1, fun x hx => ?_, tab.ext s1, fun H2 p ys eN tb pm pw hp => ?_⟩
      · obtain ⟨ns, _, a, rfl, ha⟩ := par_mem tl hx
        exact ⟨a, rfl, by rw [cont_at ha]; exact ha⟩
      · have e2 : xs.map (cont H') = lotsN n := par_map (fun a b ⟨t, e, h⟩ => by rw [e, cont_at h]) tl
        refine q p ys (cont H') H2 ((ExtN.of s1).trans eN) tb hp (fun x hx => ?_) (by rw [← e2]; exact pm.map _) pw
        obtain ⟨ns, _, a, rfl, ha⟩ := par_mem tl (pm.mem_iff.mp hx)
        exact ⟨a, rfl, by rw [cont_at ha]; exact eN _ _ ha (fun _ z => nomatch z)⟩
/-! ### lots_less -/
def lessN (ns : List Int) (i : Nat) : List (List Int) := (List.range i).map fun j => ns.take j ++ ns.drop (j + 1)
theorem lessN_succ (ns : List Int) (i : Nat) : lessN ns (i + 1) = lessN ns i ++ [ns.take i ++ ns.drop (i + 1)] := by
  unfold lessN
  rw [List.range_succ, List.map_append]
  rfl
theorem lessN_len (ns : List Int) (i : Nat) : (lessN ns i).length = i := by unfold lessN; rw [List.length_map, List.length_range]
end
end K
namespace K
open PySem L2 Rg LamX
/-! ### one order of all lots -/
theorem dec_str (a b : Str) : decide (V.str a = V.str b) = decide (a = b) := by
  by_cases e : a = b
  · rw [e]; simp
  · rw [decide_eq_false e, decide_eq_false fun z => e (V.str.inj z)]
def lotK (l : List Int) : List Int := (l.length : Int) :: l
def LLe (u v : List Int) : Prop := HT.lexLt (lotK v) (lotK u) = false
theorem lex_nil2 : HT.lexLt [] [] = false := rfl
theorem lex_nc (y : Int) (ys : List Int) : HT.lexLt [] (y :: ys) = true := rfl
theorem lexLt_anti : ∀ a b : List Int, HT.lexLt a b = false → HT.lexLt b a = false → a = b
  | [], [], _, _ => rfl
  | [], _ :: _, h, _ => by rw [lex_nc] at h; cases h
  | _ :: _, [], _, h => by rw [lex_nc] at h; cases h
  | x :: a, y :: b, h, g => by
    rw [HT.lexLt_cons] at h g
    by_cases e : x = y
    · subst e
      rw [if_pos rfl] at h g
      rw [lexLt_anti a b h g]
    · rw [if_neg e] at h
      rw [if_neg fun z => e z.symm] at g
      have := of_decide_eq_false h
      have := of_decide_eq_false g
      omega
theorem LLe.anti {u v : List Int} (h : LLe u v) (g : LLe v u) : u = v := by
  have := lexLt_anti _ _ g h
  unfold lotK at this
  exact (List.cons.inj this).2
theorem ints_lt : ∀ a b : List Int, PyProof.Rows.lexLt PyProof.Rows.itemOrd (PySem.W.keyToksAll (a.map PyData.int)) (PySem.W.keyToksAll (b.map PyData.int)) = HT.lexLt a b
  | [], [] => by rw [lex_nil2]; exact PyProof.Rows.lex_irrefl _
  | [], y :: b => by
    rw [lex_nc, List.map_nil, List.map_cons, PySem.W.keyToksAll, PySem.W.keyToksAll, PyProof.Rows.lex_diff (by simp)]
    decide +kernel
  | x :: a, [] => by
    rw [HT.lexLt_cons_nil, List.map_nil, List.map_cons, PySem.W.keyToksAll, PySem.W.keyToksAll, PyProof.Rows.lex_diff (by simp)]
    decide +kernel
  | x :: a, y :: b => by
    rw [List.map_cons, List.map_cons, PySem.W.dataLt_cons (by simp [PySem.W.alike]), HT.lexLt_cons, PySem.W.dataLt_int, ints_lt a b]
    by_cases e : x = y
    · rw [if_pos e, if_pos (by simp [PyData.eqv, e])]
    · rw [if_neg e, if_neg (by simp [PyData.eqv, e])]
theorem lot_lt (a b : List Int) : PySem.W.dataLt (lotKey a) (lotKey b) = HT.lexLt (lotK a) (lotK b) := by
  unfold lotKey lotK
  rw [PySem.W.dataLt_pair (by simp [PySem.W.alike]) (by simp [PySem.W.alike, PySem.W.alike_ints]), HT.lexLt_cons, PySem.W.dataLt_int, PySem.W.dataLt_tuple, ints_lt]
  by_cases e : (a.length : Int) = (b.length : Int)
  · rw [if_pos (by simp only [PyData.eqv]; exact beq_iff_eq.mpr e), if_pos e]
    by_cases c : a = b
    · subst c
      rw [if_pos (by simp [PyData.eqv, Rg.eqvA_ints8])]
      rw [← ints_lt]
      exact (PyProof.Rows.lex_irrefl _).symm
    · rw [if_neg (by simp [PyData.eqv, Rg.eqvA_ints8, c])]
  · rw [if_neg (by simp only [PyData.eqv]; exact fun z => e (eq_of_beq z)), if_neg e]
theorem lotLe_iff {u v : List Int} : lotLe u v = true ↔ LLe u v := by
  unfold lotLe LLe
  rw [lot_lt]
  cases HT.lexLt (lotK v) (lotK u) <;> simp
theorem uniq_of {α : Type} {R : α → α → Prop} (anti : ∀ a b, R a b → R b a → a = b) : ∀ {xs ys : List α}, xs.Perm ys → xs.Pairwise R → ys.Pairwise R → xs = ys
  | [], ys, p, _, _ => (List.nil_perm.mp p).symm
  | x :: xs, [], p, _, _ => by cases p.length_eq
  | x :: xs, y :: ys, p, hx, hy => by
    rw [List.pairwise_cons] at hx hy
    have e : x = y := by
      have m1 : y ∈ x :: xs := p.mem_iff.mpr (List.mem_cons_self ..)
      have m2 : x ∈ y :: ys := p.mem_iff.mp (List.mem_cons_self ..)
      rcases List.mem_cons.mp m1 with z | z
      · exact z.symm
      · rcases List.mem_cons.mp m2 with z' | z'
        · exact z'
        · exact anti _ _ (hx.1 _ z) (hy.1 _ z')
    subst e
    rw [uniq_of anti p.cons_inv hx.2 hy.2]
/-- all lots, in order -/
structure AllL (n : Nat) (L : List (List Int)) : Prop where
  pm : L.Perm (lotsN n)
  od : L.Pairwise LLe
theorem AllL.eq {n : Nat} {L M : List (List Int)} (a : AllL n L) (b : AllL n M) : L = M := uniq_of (fun _ _ => LLe.anti) (a.pm.trans b.pm.symm) a.od b.od
theorem AllL.filter {n : Nat} {L M : List (List Int)} (a : AllL n L) {p : List Int → Bool} (pm : M.Perm ((lotsN n).filter p)) (od : M.Pairwise LLe) : M = L.filter p := uniq_of (fun _ _ => LLe.anti) (pm.trans (a.pm.filter _).symm) od (a.od.filter _)
theorem AllL.len {n : Nat} {L : List (List Int)} (a : AllL n L) : L.length = 2 ^ n := by rw [a.pm.length_eq, lotsN_length]
/-! ### unlike lots -/
def unl (ls ms l : List Int) : Bool := !decide (sortV ls l = sortV ms l)
def shortB (ls l : List Int) : Bool := decide (sortV ls l = "short")
theorem unl_sym (ls ms l : List Int) : unl ls ms l = unl ms ls l := by
  unfold unl
  congr 1
  by_cases e : sortV ls l = sortV ms l
  · rw [decide_eq_true e, decide_eq_true e.symm]
  · rw [decide_eq_false e, decide_eq_false fun z => e z.symm]
theorem rest_short {ls l : List Int} (h : Lot ls.length l) : (sortV ls (restN ls.length l ls.length) = "short" ↔ sortV ls l = "long") := by
  rw [sort_rest (rest_sum h)]
  unfold opp
  rcases sort_cases ls l with ⟨_, e⟩ | ⟨_, e⟩ | ⟨_, e⟩ <;> rw [e]
  · simp only [if_neg (show ¬ (("level" : Str) = "short") from fun z => ne_sv z.symm), if_neg (show ¬ (("level" : Str) = "long") from fun z => ne_lv z.symm)]
    exact ⟨fun z => absurd z.symm ne_sv, fun z => absurd z.symm ne_lv⟩
  · simp only [if_pos]
    exact ⟨fun z => absurd z.symm ne_sl, fun z => absurd z ne_sl⟩
  · simp only [if_neg (show ¬ (("long" : Str) = "short") from fun z => ne_sl z.symm), if_pos]
theorem same_sorts {ls ms : List Int} (e : ls.length = ms.length) (h : ∀ l ∈ lotsN ls.length, shortB ls l = shortB ms l) : ∀ l ∈ lotsN ls.length, sortV ls l = sortV ms l := fun l hl => by
  have lot := lotsN_lot hl
  have lot2 : Lot ms.length l := by rw [← e]; exact lot
  have s1 : sortV ls l = "short" ↔ sortV ms l = "short" := by
    have := h l hl
    unfold shortB at this
    rw [decide_eq_decide] at this
    exact this
  have s2 : sortV ls l = "long" ↔ sortV ms l = "long" := by
    rw [← rest_short lot, ← rest_short lot2]
    have := h _ (nat_lots (fun j => !hasB l j) ls.length)
    unfold shortB at this
    rw [decide_eq_decide] at this
    rw [← e]
    exact this
  rcases sort_cases ls l with ⟨_, a⟩ | ⟨_, a⟩ | ⟨_, a⟩
  · rcases sort_cases ms l with ⟨_, b⟩ | ⟨_, b⟩ | ⟨_, b⟩
    · rw [a, b]
    · exact absurd (a.symm.trans (s1.mpr b)).symm ne_sv
    · exact absurd (a.symm.trans (s2.mpr b)).symm ne_lv
  · rw [a, s1.mp a]
  · rw [a, s2.mp a]
theorem filter_same {p q : List Int → Bool} {L : List (List Int)} (h : L.filter p = L.filter q) : ∀ l ∈ L, p l = q l := fun l hl => by
  cases c : p l with
  | true =>
    have m : l ∈ L.filter p := List.mem_filter.mpr ⟨hl, c⟩
    rw [h] at m
    exact (List.mem_filter.mp m).2.symm
  | false =>
    cases d : q l with
    | false => rfl
    | true =>
      have m : l ∈ L.filter q := List.mem_filter.mpr ⟨hl, d⟩
      rw [← h] at m
      rw [(List.mem_filter.mp m).2] at c
      cases c
/-- the books are the same just if no lot is unlike -/
theorem books {ls ms : List Int} {L : List (List Int)} (e : ls.length = ms.length) (a : AllL ls.length L) : decide (L.filter (shortB ls) = L.filter (shortB ms)) = (L.filter (unl ls ms)).isEmpty := by
  by_cases c : L.filter (shortB ls) = L.filter (shortB ms)
  · rw [decide_eq_true c]
    have h := same_sorts e fun l hl => filter_same c l (a.pm.mem_iff.mpr hl)
    have z : L.filter (unl ls ms) = [] := List.filter_eq_nil_iff.mpr fun l hl => by
      unfold unl
      rw [decide_eq_true (h l (a.pm.mem_iff.mp hl))]
      decide
    rw [z]
    rfl
  · rw [decide_eq_false c]
    cases d : L.filter (unl ls ms) with
    | cons _ _ => rfl
    | nil =>
      exfalso
      refine c (List.filter_congr fun l hl => ?_)
      have := List.filter_eq_nil_iff.mp d l hl
      unfold unl at this
      have e2 : sortV ls l = sortV ms l := by
        by_cases z : sortV ls l = sortV ms l
        · exact z
        · rw [decide_eq_false z] at this
          exact absurd rfl this
      unfold shortB
      rw [e2]
end K
namespace K
open PySem L2 Rg LamX
open Evl (pss_cut)
/-! ### lists of tuples of numbers, as data -/
theorem tl_dp {K : PySem.W.Frag} {H : Hp} : ∀ {xs : List V} {nss : List (List Int)}, TL H xs nss → DpAll K H xs (nss.map fun ns => PyData.tuple (ns.map PyData.int))
  | _, _, .nil => .nil
  | _, _, .cons ⟨a, e, h⟩ t => by
    subst e
    exact .cons (.tup (.inl (.inl h)) (dp_ints _)) (tl_dp t)
theorem tl_lay : ∀ nss : List (List Int), PyData.canLayAll0 (nss.map fun ns => PyData.tuple (ns.map PyData.int)) = true
  | [] => by simp [PyData.canLayAll0]
  | ns :: nss => by simp [PyData.canLayAll0, PyData.canLay0, lay_ints ns, tl_lay nss]
theorem tl_deep : ∀ nss : List (List Int), PyData.depthAll (nss.map fun ns => PyData.tuple (ns.map PyData.int)) ≤ 1
  | [] => by simp [PyData.depthAll]
  | ns :: nss => by
    have := tl_deep nss
    simp [PyData.depthAll, PyData.depth, deep_ints ns]
    omega
theorem tl_shaped (nss : List (List Int)) : SeqAt.shaped (.list (nss.map fun ns => PyData.tuple (ns.map PyData.int))) = true := by
  have := tl_deep nss
  simp [SeqAt.shaped, PyData.canLay0, PyData.depth, tl_lay nss]
  omega
theorem eqv_tup (a b : List Int) : PyData.eqv (.tuple (a.map PyData.int)) (.tuple (b.map PyData.int)) = decide (a = b) := by
  simp [PyData.eqv, Rg.eqvA_ints8]
theorem sh_tup (l : List Int) : SeqAt.shaped (.tuple (l.map PyData.int)) = true := by
  simp [SeqAt.shaped, PyData.canLay0, PyData.depth, lay_ints l, deep_ints l]
theorem TL.ext {H H' : Hp} {xs : List V} {nss : List (List Int)} (h : TL H xs nss) (e : ExtN H H') : TL H' xs nss := par_imp (fun _ _ ⟨a, q, z⟩ => ⟨a, q, e _ _ z (fun _ z => nomatch z)⟩) h
theorem TL.mut {H : Hp} {D : Addr} {us ws : List V} {xs : List V} {nss : List (List Int)} (h : TL H xs nss) (hD : H D = some (.lst us)) : TL (upd H D (.lst ws)) xs nss := par_imp (fun _ _ ⟨a, q, z⟩ => ⟨a, q, by
  rw [upd_ne fun e => ?_]
  · exact z
  · rw [e, hD] at z
    cases z⟩) h
theorem tl_at {H : Hp} {xs : List V} {nss : List (List Int)} (h : TL H xs nss) {i : Nat} {ns : List Int} (e : nss[i]? = some ns) : ∃ a, xs[i]? = some (.ref a) ∧ H a = some (.tup (ns.map V.int)) := by
  have hi : i < xs.length := by rw [par_len h]; exact (List.getElem?_eq_some_iff.mp e).1
  obtain ⟨y, h1, a, h2, h3⟩ := par_get h (List.getElem?_eq_getElem hi)
  rw [e] at h1
  cases h1
  exact ⟨a, by rw [List.getElem?_eq_getElem hi, h2], h3⟩

theorem tl_nil (nss : List (List Int)) : PyData.eqv (.list (nss.map fun ns => PyData.tuple (ns.map PyData.int))) (.list []) = nss.isEmpty := by
  cases nss <;> simp [PyData.eqv, PyData.eqvAll] <;> rfl
theorem tl_eqA : ∀ nss mss : List (List Int), PyData.eqvAll (nss.map fun ns => PyData.tuple (ns.map PyData.int)) (mss.map fun ns => PyData.tuple (ns.map PyData.int)) = decide (nss = mss)
  | [], [] => by simp [PyData.eqvAll]
  | [], _ :: _ => by simp [PyData.eqvAll]
  | _ :: _, [] => by simp [PyData.eqvAll]
  | ns :: nss, ms :: mss => by
    have e := eqv_tup ns ms
    rw [List.map_cons, List.map_cons, PyData.eqvAll, e, tl_eqA nss mss]
    by_cases c : ns = ms <;> by_cases d : nss = mss <;> simp [c, d]
theorem tl_eqT (nss mss : List (List Int)) : PyData.eqv (.tuple (nss.map fun ns => PyData.tuple (ns.map PyData.int))) (.tuple (mss.map fun ns => PyData.tuple (ns.map PyData.int))) = decide (nss = mss) := by
  rw [← tl_eqA]
  simp [PyData.eqv]
theorem tl_shapedT (nss : List (List Int)) : SeqAt.shaped (.tuple (nss.map fun ns => PyData.tuple (ns.map PyData.int))) = true := by
  have := tl_deep nss
  simp [SeqAt.shaped, PyData.canLay0, PyData.depth, tl_lay nss]
  omega

theorem tl_any (L : List (List Int)) (m : List Int) : ((L.map fun ns => PyData.tuple (ns.map PyData.int)).any fun z => PyData.eqv z (.tuple (m.map PyData.int))) = decide (m ∈ L) := by
  rw [List.any_map]
  by_cases h : m ∈ L
  · rw [decide_eq_true h, List.any_eq_true]
    exact ⟨m, h, by rw [Function.comp_apply, eqv_tup]; exact decide_eq_true rfl⟩
  · rw [decide_eq_false h, List.any_eq_false]
    intro x hx
    rw [Function.comp_apply, eqv_tup]
    intro z
    rw [of_decide_eq_true z] at hx
    exact h hx
theorem less_lot {n : Nat} {ns : List Int} (h : Lot n ns) {i : Nat} {m : List Int} (hm : m ∈ lessN ns i) : Lot n m ∧ m.length ≤ ns.length := by
  obtain ⟨j, _, rfl⟩ := List.mem_map.mp hm
  have sub : (ns.take j ++ ns.drop (j + 1)).Sublist ns := by
    have e : ns.take j ++ ns.drop j = ns := List.take_append_drop j ns
    have d : (ns.drop (j + 1)).Sublist (ns.drop j) := by
      rw [← List.drop_drop]
      exact List.drop_sublist ..
    have z := List.Sublist.append (List.Sublist.refl (ns.take j)) d
    rw [e] at z
    exact z
  exact ⟨⟨h.1.sublist sub, fun b hb => h.2 b (sub.subset hb)⟩, sub.length_le⟩
def longB (ls l : List Int) : Bool := decide (sortV ls l = "long")
def levB (ls l : List Int) : Bool := decide (sortV ls l = "level")
/-- those within which no other one lies, by one bar less -/
def leastF (G : List (List Int)) : List (List Int) := G.filter fun l => !((lessN l l.length).any fun m => decide (m ∈ G))
/-- those that are not another one less a bar -/
def greatF (G : List (List Int)) : List (List Int) := G.filter fun l => !decide (l ∈ G.flatMap fun s => lessN s s.length)
theorem lots_tl {H : Hp} {kf : V → List Int} : ∀ {xs : List V}, LotsAt H xs kf → TL H xs (xs.map kf)
  | [], _ => .nil
  | x :: xs, h => .cons (h x (List.mem_cons_self ..)) (lots_tl fun y hy => h y (List.mem_cons_of_mem _ hy))
theorem AllL.of_lots {n : Nat} {xs : List V} {kf : V → List Int} (pm : (xs.map kf).Perm (lotsN n)) (pw : xs.Pairwise fun u v => lotLe (kf u) (kf v) = true) : AllL n (xs.map kf) := ⟨pm, List.pairwise_map.mpr (pw.imp fun h => lotLe_iff.mp h)⟩
section
variable {P : Program} {w : World} {K : PySem.W.Frag} {mg : Str → Option Value} {base : Heap}
theorem RingW.ext {C : Addr} {H H' : Hp} {r : Addr} {ls : List Int} (h : RingW K C H r ls) (s : ExtN H H') : RingW K C H' r ls := by
  obtain ⟨dx, t, h1, h2⟩ := h
  refine ⟨dx, t, s _ _ h1 (fun _ z => nomatch z), ?_⟩
  rcases h2 with (h2 | ⟨o, h2⟩) | h2
  · exact .inl (.inl (s _ _ h2 (fun _ z => nomatch z)))
  · exact .inl (.inr ⟨o, s _ _ h2 (fun _ z => nomatch z)⟩)
  · exact .inr h2
structure MethV (P : Program) (w : World) (K : PySem.W.Frag) (mg : Str → Option Value) (base : Heap) (C : Addr) (x : Str) (ps : List Str) (sp : Sp) (f : Addr) (fd : FuncData) : Prop where
  m : Meth K C x f
  ok : FnOk P w K mg base CX0 6 f fd ps sp
  b : Binds K fd ps []
def spSortV (K : PySem.W.Frag) (C : Addr) : Sp := fun vs H Q _ => ∃ (r a : Addr) (ls ns : List Int), vs = [.ref r, .ref a] ∧ RingW K C H r ls ∧ ls.length ≤ 8 ∧ H a = some (.tup (ns.map V.int)) ∧ Lot ls.length ns ∧ ns.length ≤ 8 ∧ ∀ H', Same H H' → Q (.str (sortV ls ns)) H'
theorem ok_sortVal {C f : Addr} {c : Cs} {fd : FuncData} (F : FnOk P w K mg base (L2.CX P w) 6 f fd ["self", "lot"] (spSortOf K C c)) : FnOk P w K mg base CX0 6 f fd ["self", "lot"] (spSortV K C) :=
  (fn_calm F).imp fun vs H Q E ⟨r, a, ls, ns, hv, ring, l8, ha, lot, n8, q⟩ => ⟨r, .ref a, ls, hv, ring, l8, LotV.tpl ha lot n8 q⟩
/-! ### lots_by_sort -/
def spBy (K : PySem.W.Frag) (C : Addr) (T : List (Addr × Str)) : Sp := fun vs H Q _ => ∃ (r : Addr) (ls : List Int) (z : Str), vs = [.ref r, .str z] ∧ RingW K C H r ls ∧ 3 ≤ ls.length ∧ ls.length ≤ 8 ∧ Tabs T H ∧
  ∀ (p : Addr) (xs : List V) (kf : V → List Int) (H' : Hp), ExtN H H' → Tabs T H' → H' p = some (.tup xs) → LotsAt H' xs kf → (xs.map kf).Perm ((lotsN ls.length).filter fun l => decide (sortV ls l = z)) → (xs.Pairwise fun u v => lotLe (kf u) (kf v) = true) → Q (.ref p) H'
abbrev nBy : List Str := ["ring", "sort", "lot"]
theorem scBy : FnScope nBy ["ring", "sort"] (defScope sLotsBySort) := ⟨rfl, rfl, rfl, by decide +kernel, rfl, by decide +kernel, by decide +kernel⟩
theorem ok_by {C f fA fS fN : Addr} {fd fdA fdS fdN : FuncData} {P1 P2 : Addr} (F : Fun K "lots_by_sort" "lots_by_sort" sLotsBySort f fd) (T : Bi mg) (R : RingC K mg C) (LO : DefAt P w K mg base CX0 4 "lots_of" ["many"] (spLotsOf K (T2 P1 P2)) fA fdA)
    (M : MethV P w K mg base C "sort_of" ["self", "lot"] (spSortV K C) fS fdS) (NM : Meth K C "__len__" fN) (NL : FnOk P w K mg base CX0 1 fN fdN ["self"] (spRLen K C)) (NB : Binds K fdN ["self"] []) : FnOk P w K mg base CX0 7 f fd ["ring", "sort"] (spBy K C (T2 P1 P2)) := by
  refine F.ok scBy (fun vs H Q E h => ?_) (fun cdv A outer s H vs Q E hr h => ?_)
  · obtain ⟨r, ls, z, rfl, _⟩ := h
    rfl
  · have nd := scBy.nd
    refine ⟨_, pss_one (ps_ret (pe_callTy call_tuple_of (by rfl) T.tuple (by decide +kernel) (pa_cons (pe_lc (own := [("lot", 2)]) (g := gName 2) (te := tVar 2) rfl nd (pi_tup (pe_call LO.ok (hr.mono (by decide)) rfl LO.g LO.kp LO.b .nil pass0 (pa_cons (pe_callB (call_lenO NL (hr.mono (by decide)) NB) (by rfl) T.len PySem.boot_len (pa_cons (pv 0) pa_nil)) pa_nil)))
        (blkOk_by (N := nBy) (sc := defScope sLotsBySort) (by decide +kernel)) (fun _ _ _ _ _ => pg_name (i := 2) nd rfl (Or.inl rfl)) (fun _ _ _ _ _ => pts_one (pt_cmpR op_eq (pe_meth (pv 0) R.cl M.m M.ok hr M.b .nil pass0 (pa_cons (pv 2) pa_nil)) (pv 1) (nomark _))) (fun _ _ _ _ _ => pv 2)) pa_nil))), ?_⟩
    obtain ⟨r, ls, z, rfl, ring, l3, l8, tab, q⟩ := h
    obtain ⟨dx, t, hr0, ht⟩ := id ring
    have noS : (rf t ls).lookup ("sort_of" : Str) = none := rf_no _ _ (by decide +kernel) (by decide +kernel) (by decide +kernel) (by decide +kernel)
    refine ⟨_, rfl, r, C, dx, _, rfl, hr0, NM.at_, NM.fn, r, ls, rfl, ring, _, rfl, by omega, by omega, ?_⟩
    refine ⟨ls.length, rfl, by omega, l8, tab, fun p xs kf H1 e1 tab1 hp la pm pw => ⟨p, rfl, ⟨_, .inl (.inl hp)⟩, fun D hD => ?_⟩⟩
    have ring1 := ring.ext e1
    have hr1 := e1 _ _ hr0 (fun _ z => nomatch z)
    have xl : xs.length ≤ 256 := by
      have e := pm.length_eq
      rw [List.length_map, lotsN_length] at e
      rw [e]
      exact Nat.pow_le_pow_right (by decide) (show ls.length ≤ 8 from l8)
    refine lc_tup (K := K) (a := p) (xs := xs) (fun i H' => Same H1 H' ∧ H' D = some (.lst ((xs.take i).filter fun x => decide (sortV ls (kf x) = z)))) ⟨(Same.refl H1).new hD, upd_same⟩ (fun i H' _ q => .inl (.inl (q.1 _ _ hp))) ?_ ?_
    · rintro i x H' hi ⟨s2, h2⟩
      have hx := List.mem_of_getElem? hi
      have hil : i < xs.length := (List.getElem?_eq_some_iff.mp hi).1
      obtain ⟨a, rfl, ha⟩ := la x hx
      have lot := lotsN_lot (pm.mem_iff.mp (List.mem_map.mpr ⟨_, hx, rfl⟩))
      refine ⟨rfl, _, rfl, r, dx, _, rfl, s2 _ _ hr1, noS, _, rfl, r, a, ls, kf (.ref a), rfl, ring1.same s2, l8, s2 _ _ ha, lot, Nat.le_trans (lot_len lot) l8, fun H6 s6 => ⟨_, rfl, rfl, _, rfl, ?_⟩⟩
      rw [dec_str, ← take_snoc hi, List.filter_append]
      have h6 := s6 _ _ h2
      cases e : decide (sortV ls (kf (.ref a)) = z) with
      | true =>
        refine iteT ⟨_, rfl, _, h6, ?_, (s2.trans s6).mut hD, ?_⟩
        · have := List.length_filter_le (fun x => decide (sortV ls (kf x) = z)) (xs.take i)
          rw [List.length_take] at this
          exact sm (by omega)
        · rw [upd_same]
          simp [List.filter, e]
      | false =>
        refine iteF ⟨s2.trans s6, ?_⟩
        rw [h6]
        simp [List.filter, e]
    · rintro H2 ⟨s2, h2⟩
      rw [List.take_length] at h2
      refine ⟨D, _, rfl, .inl ⟨SqL.of h2, fun t2 ht2 => ?_⟩⟩
      have s3 : Same H1 (upd H2 t2 (.tup (xs.filter fun x => decide (sortV ls (kf x) = z)))) := s2.trans ((Same.refl H2).new ht2)
      refine q t2 _ kf _ (e1.trans (ExtN.of s3)) (tab1.ext s3) upd_same (fun x hx => ?_) ?_ (List.Pairwise.filter _ pw)
      · obtain ⟨a, e, ha⟩ := la x (List.mem_filter.mp hx).1
        exact ⟨a, e, s3 _ _ ha⟩
      · rw [show (fun x => decide (sortV ls (kf x) = z)) = (fun l => decide (sortV ls l = z)) ∘ kf from rfl, ← List.filter_map]
        exact pm.filter _
/-! ### the lots that are told of a ring -/
def spTold (K : PySem.W.Frag) (C cR : Addr) (T : List (Addr × Str)) (f : List Int → List (List Int) → List (List Int)) : Sp := fun vs H Q E => ∃ v : V, vs = [v] ∧ ((∃ (r : Addr) (ls : List Int), v = .ref r ∧ RingW K C H r ls ∧ 3 ≤ ls.length ∧ ls.length ≤ 8 ∧ Tabs T H ∧
  ∀ (p : Addr) (xs : List V) (nss : List (List Int)) (H' : Hp), ExtN H H' → Tabs T H' → H' p = some (.tup xs) → TL H' xs nss → (∀ L, AllL ls.length L → nss = f ls L) → Q (.ref p) H') ∨ (NoR K C H v ∧ Errs E cR "part" (.str "ring") H))
theorem scLevel : FnScope ["ring"] ["ring"] (defScope sLevelLots) := ⟨rfl, rfl, rfl, by decide +kernel, rfl, by decide +kernel, by decide +kernel⟩
theorem ok_level {C cR f fW fB : Addr} {fd fdW fdB : FuncData} {P1 P2 : Addr} (F : Fun K "level_lots" "level_lots" sLevelLots f fd) (W : DefAt P w K mg base (L2.CX P w) 3 "want_ring" ["value", "part"] (spWantR K C cR) fW fdW) (BY : DefAt P w K mg base CX0 7 "lots_by_sort" ["ring", "sort"] (spBy K C (T2 P1 P2)) fB fdB) : FnOk P w K mg base (L2.CX P w) 8 f fd ["ring"] (spTold K C cR (T2 P1 P2) fun ls L => L.filter (levB ls)) := by
  refine F.okX scLevel (fun vs H Q E h => ?_) (fun cdv A outer s H vs Q E hr h => ?_)
  · obtain ⟨v, rfl, _⟩ := h
    rfl
  · refine ⟨_, pss_cons (ps_expr (pe_call W.ok (hr.mono (by decide)) rfl W.g W.kp W.b .nil (passes_call (takes_of rfl rfl rfl rfl) (fun _ _ _ _ h => h)) (pa_cons (pv 0) (pa_cons pe_str pa_nil))))
      (pss_one (ps_ret (pe_call BY.ok hr rfl BY.g BY.kp BY.b .nil pass0 (pa_cons (pv 0) (pa_cons pe_str pa_nil))))), ?_⟩
    obtain ⟨v, rfl, ⟨r, ls, rfl, ring, l3, l8, tab, q⟩ | ⟨no, er⟩⟩ := h
    · refine ⟨_, rfl, _, "ring", rfl, .inl ⟨r, ls, rfl, ring, _, rfl, r, ls, "level", rfl, ring, l3, l8, tab, fun p xs kf H' e t hp la pm pw => ?_⟩⟩
      exact q p xs (xs.map kf) H' e t hp (lots_tl la) fun L aL => aL.filter pm (List.pairwise_map.mpr (pw.imp fun h => lotLe_iff.mp h))
    · exact ⟨_, rfl, _, "ring", rfl, .inr ⟨no, er⟩⟩
theorem walk_any {J : It} {n : Nat} {G : Hp → Prop} {Y : Nat → Hp → V → Hp → Prop} (w : Walk J n G Y) {T : V → Hp → (Hp → Prop) → Prop} {H0 : Hp} {Qd : Hp → Prop} (Pv : Nat → Hp → Prop) (h0 : Pv 0 H0) (hG : ∀ i H, i ≤ n → Pv i H → G H)
    (hs : ∀ i x H H', i < n → Pv i H → Y i H x H' → T x H' (Pv (i + 1))) (hd : ∀ H, Pv n H → Qd H) :
    ∃ W : Nat → Nat → Hp → Prop, (∃ m, W 0 m H0) ∧ ∀ i m H, W i m H →
      (J.stop i H ∧ Qd H) ∨ (J.go i H ∧ ∃ Nx : Hp → Prop, (∀ H', Nx H' → ∃ m', m' < m ∧ W (i + 1) m' H') ∧ ∀ x H', J.yld i H x H' → T x H' Nx) := by
  refine ⟨fun i m H => m = n - i ∧ i ≤ n ∧ Pv i H, ⟨n, by simp, Nat.zero_le _, h0⟩, ?_⟩
  rintro i m H ⟨rfl, hi, p⟩
  have q := hG i H hi p
  by_cases hlt : i < n
  · exact .inr ⟨w.goes i H hlt q, Pv (i + 1), fun H' p' => ⟨n - (i + 1), by omega, rfl, hlt, p'⟩, fun x H' y => hs i x H H' hlt p (w.yields i H x H' hlt q y)⟩
  · have e : i = n := by omega
    subst e
    exact .inl ⟨w.stops H q, hd H p⟩
end
end K
namespace K
open PySem L2 Rg LamX
open Evl (pss_cut)
theorem allL_ex (n : Nat) : ∃ L, AllL n L := by
  have z := PySem.W.sortLe_total (PyProof.Rows.listOrd PyProof.Rows.itemOrd) false (fun x : List Int => PySem.W.keyToks (lotKey x))
  have pw := List.pairwise_mergeSort (le := PySem.W.dataLe false fun x : List Int => lotKey x) (fun a b c => z.trans a b c) (fun a b => Bool.or_eq_true _ _ |>.mpr (z.total a b)) (lotsN n)
  refine ⟨_, List.mergeSort_perm _ _, pw.imp fun {u v} h => ?_⟩
  have h2 : (!PySem.W.dataLt (lotKey v) (lotKey u)) = true := h
  rw [lot_lt] at h2
  show HT.lexLt (lotK v) (lotK u) = false
  simpa using h2
/-- the error that tells the first level lot -/
def LevX (E : XK) (C : Addr) (ls : List Int) (T : List (Addr × Str)) (H : Hp) : Prop := ∀ J t l0, ExtN H J → Tabs T J → J t = some (.tup (l0.map V.int)) → (∀ L, AllL ls.length L → (L.filter (levB ls))[0]? = some l0) → Errs E C "lot" (.ref t) J
theorem LevX.ext {E : XK} {C : Addr} {ls : List Int} {T : List (Addr × Str)} {H H' : Hp} (h : LevX E C ls T H) (s : ExtN H H') : LevX E C ls T H' := fun J t l0 x y => h J t l0 (s.trans x) y
section
variable {P : Program} {w : World} {K : PySem.W.Frag} {mg : Str → Option Value} {base : Heap}
theorem scLevelI : FnScope ["self", "lot"] ["self", "lot"] (defScope sLevelInit) := ⟨rfl, rfl, rfl, by decide +kernel, rfl, by decide +kernel, by decide +kernel⟩
theorem ok_levelI {f : Addr} {fd : FuncData} (F : Fun K "__init__" "Level.__init__" sLevelInit f fd) : FnOk P w K mg base CX0 1 f fd ["self", "lot"] (spIni K "lot") := by
  refine F.ok scLevelI (fun vs H Q E h => ?_) (fun cdv A outer s H vs Q E hr h => ?_)
  · obtain ⟨a, C, v, rfl, _⟩ := h
    rfl
  · refine ⟨_, pss_one (ps_ost (pv 0) (pv 1)), ?_⟩
    obtain ⟨a, C, v, rfl, o, n, ha, k⟩ := h
    exact ⟨_, rfl, _, rfl, a, C, rfl, o, n, .inl ⟨ha, fun d h1 h2 => k d h1 h2⟩⟩
def spWNL (K : PySem.W.Frag) (C cV : Addr) (T : List (Addr × Str)) : Sp := fun vs H Q E => ∃ (r : Addr) (ls : List Int), vs = [.ref r] ∧ RingAt K C H r ls ∧ 3 ≤ ls.length ∧ ls.length ≤ 8 ∧ Tabs T H ∧ ((levelB ls = false ∧ Q .non H) ∨ (levelB ls = true ∧ LevX E cV ls T H))
theorem scWNL : FnScope ["ring"] ["ring"] (defScope sWantNoLevel) := ⟨rfl, rfl, rfl, by decide +kernel, rfl, by decide +kernel, by decide +kernel⟩
theorem ok_wnl {C cR cV f fV fI P1 P2 : Addr} {fd fdV fdI : FuncData} (F : Fun K "want_no_level" "want_no_level" sWantNoLevel f fd) (R : RingC K mg C) (LV : DefAt P w K mg base (L2.CX P w) 8 "level_lots" ["ring"] (spTold K C cR (T2 P1 P2) fun ls L => L.filter (levB ls)) fV fdV) (B : ErrAt P w K mg base "Level" "lot" cV fI fdI) : FnOk P w K mg base (L2.CX P w) 9 f fd ["ring"] (spWNL K C cV (T2 P1 P2)) := by
  refine F.okX scWNL (fun vs H Q E h => ?_) (fun cdv A outer s H vs Q E hr h => ?_)
  · obtain ⟨r, ls, rfl, _⟩ := h
    rfl
  · refine ⟨_, (pss_one (ps_if (pt_not (pt_val (pe_fld (pv 0) rfl))) (pss_one (ps_raise rfl (takes_of rfl rfl rfl rfl) (pmk_oex B.oex B.ic B.ti B.ok (hr.mono (by decide)) B.b .nil pass0 rfl B.g (pa_cons (pe_ix (r := rIxT K) ix_tup (pe_call LV.ok hr rfl LV.g LV.kp LV.b .nil (passes_call (takes_of rfl rfl rfl rfl) (fun _ _ _ _ h => h)) (pa_cons (pv 0) pa_nil)) pe_int (fun _ _ => rfl)) pa_nil)))) pss_nil)), ?_⟩
    obtain ⟨r, ls, rfl, ra, l3, l8, tab, h⟩ := h
    obtain ⟨dx, t, hr0, ht, hf⟩ := id ra
    refine ⟨_, rfl, r, C, dx, _, _, rfl, hr0, R.cl, R.nI, rf_clear _ _, _, rfl, ?_⟩
    rcases h with ⟨c, q⟩ | ⟨c, q⟩
    · rw [c]
      exact iteF q
    · rw [c]
      refine iteT ?_
      refine ⟨_, rfl, _, rfl, .inl ⟨r, ls, rfl, ra.weak, l3, l8, tab, fun p xs nss H1 e1 tab1 hp tl ord => ?_⟩⟩
      obtain ⟨L, aL⟩ := allL_ex ls.length
      have en := ord L aL
      have ne : ∃ l0, nss[0]? = some l0 := by
        rw [level_lots, List.any_eq_true] at c
        obtain ⟨l, hl, hl2⟩ := c
        have hm : l ∈ nss := by
          rw [en]
          refine List.mem_filter.mpr ⟨aL.pm.mem_iff.mpr hl, decide_eq_true ?_⟩
          rcases sort_cases ls l with ⟨_, z⟩ | ⟨z, _⟩ | ⟨z, _⟩
          · exact z
          · have := of_decide_eq_true hl2; omega
          · have := of_decide_eq_true hl2; omega
        cases nss with
        | nil => cases hm
        | cons a b => exact ⟨a, rfl⟩
      obtain ⟨l0, h0⟩ := ne
      obtain ⟨t0, x0, ht0⟩ := tl_at tl h0
      refine ⟨p, xs, 0, _, rfl, rfl, .inl (.inl hp), atI_nat (j := 0) x0, ?_⟩
      refine err_made B.oex B.nf (q H1 t0 l0 e1 tab1 ht0 fun L2 aL2 => ?_)
      have e2 : nss = L2.filter (levB ls) := ord L2 aL2
      rw [← e2]
      exact h0
end
end K
namespace K
open PySem L2 Rg LamX
open Evl (pss_cut)
theorem head_of {p : List Int → Bool} : ∀ {L : List (List Int)} {i : Nat} {l : List Int}, (∀ m ∈ L.take i, p m = false) → L[i]? = some l → p l = true → (L.filter p).head? = some l
  | [], _, _, _, h, _ => by simp at h
  | x :: L, 0, l, _, h, c => by
    have e : x = l := by simpa using h
    subst e
    rw [List.filter_cons_of_pos c]
    rfl
  | x :: L, i + 1, l, a, h, c => by
    have hx : p x = false := a x (by simp)
    rw [List.filter_cons_of_neg (by rw [hx]; decide)]
    exact head_of (i := i) (fun m hm => a m (by rw [List.take_succ_cons]; exact List.mem_cons_of_mem _ hm)) (by simpa using h) c
section
variable {P : Program} {w : World} {K : PySem.W.Frag} {mg : Str → Option Value} {base : Heap}
/-! ### want_as_many -/
def spAsM (cM : Addr) : Sp := fun vs H Q E => ∃ a b : Int, vs = [.int a, .int b] ∧ ((a = b ∧ Q .non H) ∨ (a ≠ b ∧ Errs E cM "part" (.str "bars") H))
theorem scAsM : FnScope ["one", "other"] ["one", "other"] (defScope sWantAsMany) := ⟨rfl, rfl, rfl, by decide +kernel, rfl, by decide +kernel, by decide +kernel⟩
theorem ok_asM {f cM fI : Addr} {fd fdI : FuncData} (F : Fun K "want_as_many" "want_as_many" sWantAsMany f fd) (B : ErrAt P w K mg base "Misfit" "part" cM fI fdI) : FnOk P w K mg base (L2.CX P w) 3 f fd ["one", "other"] (spAsM cM) := by
  refine F.okX scAsM (fun vs H Q E h => ?_) (fun cdv A outer s H vs Q E hr h => ?_)
  · obtain ⟨a, b, rfl, _⟩ := h
    rfl
  · refine ⟨_, pss_one (ps_if (pt_cmpR op_ne (pv 0) (pv 1) (nomark _))
      (pss_one (ps_raise rfl (takes_of rfl rfl rfl rfl) (pmk_oex B.oex B.ic B.ti B.ok hr B.b .nil pass0 rfl B.g (pa_cons pe_str pa_nil)))) pss_nil), ?_⟩
    obtain ⟨a, b, rfl, h⟩ := h
    refine ⟨_, rfl, _, rfl, rfl, _, rfl, ?_⟩
    rcases h with ⟨e, q⟩ | ⟨e, q⟩
    · rw [e, decide_eq_true rfl]; exact iteF q
    · rw [decide_eq_false fun z => e (V.int.inj z)]; exact iteT (err_made B.oex B.nf q)
/-! ### first_unlike -/
def FUV (ls ms : List Int) (x : V) (H : Hp) : Prop := (∃ L, AllL ls.length L) ∧ ∀ L, AllL ls.length L → (x = .non ∧ L.filter (unl ls ms) = []) ∨ ∃ (t : Addr) (l : List Int), x = .ref t ∧ H t = some (.tup (l.map V.int)) ∧ (L.filter (unl ls ms)).head? = some l
theorem FUV.ext {ls ms : List Int} {x : V} {H H' : Hp} (h : FUV ls ms x H) (e : ExtN H H') : FUV ls ms x H' := ⟨h.1, fun L a => by
  rcases h.2 L a with z | ⟨t, l, h1, h2, h3⟩
  · exact .inl z
  · exact .inr ⟨t, l, h1, e _ _ h2 (fun _ z => nomatch z), h3⟩⟩
/-- what two values are: rings of as many bars, or not -/
def Two (K : PySem.W.Frag) (C cR cM : Addr) (T : List (Addr × Str)) (v u : V) (H : Hp) (E : XK) (k : List Int → List Int → Prop) : Prop :=
  (∃ (r s : Addr) (ls ms : List Int), v = .ref r ∧ u = .ref s ∧ RingW K C H r ls ∧ RingW K C H s ms ∧ ls.length = ms.length ∧ 3 ≤ ls.length ∧ ls.length ≤ 8 ∧ Tabs T H ∧ k ls ms) ∨
  (NoR K C H v ∧ Errs E cR "part" (.str "one") H) ∨ (∃ (r : Addr) (ls : List Int), v = .ref r ∧ RingW K C H r ls ∧ NoR K C H u ∧ Errs E cR "part" (.str "other") H) ∨
  (∃ (r s : Addr) (ls ms : List Int), v = .ref r ∧ u = .ref s ∧ RingW K C H r ls ∧ RingW K C H s ms ∧ ls.length ≤ 8 ∧ ms.length ≤ 8 ∧ ls.length ≠ ms.length ∧ Errs E cM "part" (.str "bars") H)
def spFU (K : PySem.W.Frag) (C cR cM : Addr) (T : List (Addr × Str)) : Sp := fun vs H Q E => ∃ v u : V, vs = [v, u] ∧ Two K C cR cM T v u H E fun ls ms => ∀ x H', ExtN H H' → Tabs T H' → FUV ls ms x H' → Q x H'
abbrev nFU : List Str := ["one", "other", "lot"]
theorem scFU : FnScope nFU ["one", "other"] (defScope sFirstUnlike) := ⟨rfl, rfl, rfl, by decide +kernel, rfl, by decide +kernel, by decide +kernel⟩
theorem ok_fu {C cR cM f fW fM fA fS fN : Addr} {fd fdW fdM fdA fdS fdN : FuncData} {P1 P2 : Addr} (F : Fun K "first_unlike" "first_unlike" sFirstUnlike f fd) (T : Bi mg) (R : RingC K mg C) (W : DefAt P w K mg base (L2.CX P w) 3 "want_ring" ["value", "part"] (spWantR K C cR) fW fdW) (AM : DefAt P w K mg base (L2.CX P w) 3 "want_as_many" ["one", "other"] (spAsM cM) fM fdM)
    (LO : DefAt P w K mg base CX0 4 "lots_of" ["many"] (spLotsOf K (T2 P1 P2)) fA fdA) (M : MethV P w K mg base C "sort_of" ["self", "lot"] (spSortV K C) fS fdS) (NM : Meth K C "__len__" fN) (NL : FnOk P w K mg base CX0 1 fN fdN ["self"] (spRLen K C)) (NB : Binds K fdN ["self"] []) : FnOk P w K mg base (L2.CX P w) 7 f fd ["one", "other"] (spFU K C cR cM (T2 P1 P2)) := by
  refine F.okX scFU (fun vs H Q E h => ?_) (fun cdv A outer s H vs Q E hr h => ?_)
  · obtain ⟨v, u, rfl, _⟩ := h
    rfl
  · have nd := scFU.nd
    refine ⟨_, pss_cons (ps_expr (pe_call W.ok (hr.mono (by decide)) rfl W.g W.kp W.b .nil (passes_call (takes_of rfl rfl rfl rfl) (fun _ _ _ _ h => h)) (pa_cons (pv 0) (pa_cons pe_str pa_nil))))
      (pss_cons (ps_expr (pe_call W.ok (hr.mono (by decide)) rfl W.g W.kp W.b .nil (passes_call (takes_of rfl rfl rfl rfl) (fun _ _ _ _ h => h)) (pa_cons (pv 1) (pa_cons pe_str pa_nil))))
      (pss_cons (ps_expr (pe_call AM.ok (hr.mono (by decide)) rfl AM.g AM.kp AM.b .nil (passes_call (takes_of rfl rfl rfl rfl) (fun _ _ _ _ h => h)) (pa_cons (pe_callB (call_lenO NL (hr.mono (by decide)) NB) (by rfl) T.len PySem.boot_len (pa_cons (pv 0) pa_nil)) (pa_cons (pe_callB (call_lenO NL (hr.mono (by decide)) NB) (by rfl) T.len PySem.boot_len (pa_cons (pv 1) pa_nil)) pa_nil))))
      (pss_cons (ps_for (passes_of rfl) rfl (pi_tup (pe_call LO.ok (hr.mono (by decide)) rfl LO.g LO.kp LO.b .nil pass0 (pa_cons (pe_callB (call_lenO NL (hr.mono (by decide)) NB) (by rfl) T.len PySem.boot_len (pa_cons (pv 0) pa_nil)) pa_nil))) (pg_name (i := 2) nd rfl (Or.inl rfl))
        (pss_one (ps_if (pt_cmpR op_ne (pe_meth (pv 0) R.cl M.m M.ok hr M.b .nil pass0 (pa_cons (pv 2) pa_nil)) (pe_meth (pv 1) R.cl M.m M.ok hr M.b .nil pass0 (pa_cons (pv 2) pa_nil)) (nomark _)) (pss_one (ps_ret (pv 2))) pss_nil)))
      (pss_one (ps_ret pe_non))))), ?_⟩
    obtain ⟨v, u, rfl, h⟩ := h
    rcases h with ⟨r, s', ls, ms, rfl, rfl, ring, rins, len, l3, l8, tab, q⟩ | ⟨no, er⟩ | ⟨r, ls, rfl, ring, no, er⟩ | ⟨r, s', ls, ms, rfl, rfl, ring, rins, l8, m8, ne, er⟩
    · obtain ⟨dx, t, hr0, _⟩ := id ring
      obtain ⟨dy, t', hs0, _⟩ := id rins
      have noS : ∀ (t : Addr) (ls : List Int), (rf t ls).lookup ("sort_of" : Str) = none := fun t ls => rf_no _ _ (by decide +kernel) (by decide +kernel) (by decide +kernel) (by decide +kernel)
      refine ⟨_, rfl, _, "one", rfl, .inl ⟨r, ls, rfl, ring, ?_⟩⟩
      refine ⟨_, rfl, _, "other", rfl, .inl ⟨s', ms, rfl, rins, ?_⟩⟩
      refine ⟨_, rfl, r, C, dx, _, rfl, hr0, NM.at_, NM.fn, r, ls, rfl, ring, _, rfl, by omega, by omega, ?_⟩
      refine ⟨_, rfl, s', C, dy, _, rfl, hs0, NM.at_, NM.fn, s', ms, rfl, rins, _, rfl, by omega, by omega, ?_⟩
      refine ⟨_, _, rfl, .inl ⟨by omega, ?_⟩⟩
      refine ⟨_, rfl, r, C, dx, _, rfl, hr0, NM.at_, NM.fn, r, ls, rfl, ring, _, rfl, by omega, by omega, ?_⟩
      refine ⟨ls.length, rfl, by omega, l8, tab, fun p xs kf H1 e1 tab1 hp la pm pw => ⟨p, rfl, ⟨_, .inl (.inl hp)⟩, ?_⟩⟩
      have ring1 := ring.ext e1
      have rins1 := rins.ext e1
      have hr1 := e1 _ _ hr0 (fun _ z => nomatch z)
      have hs1 := e1 _ _ hs0 (fun _ z => nomatch z)
      have al := AllL.of_lots pm pw
      refine for_tup (K := K) (a := p) (xs := xs) (fun i σ H' => ∃ z : Option V, σ = [some (.ref r), some (.ref s'), z] ∧ Same H1 H' ∧ ∀ m ∈ (xs.map kf).take i, unl ls ms m = false) ⟨none, rfl, Same.refl H1, fun x hx => nomatch hx⟩ (fun i σ H' _ ⟨_, _, s, _⟩ => .inl (.inl (s _ _ hp))) ?_ ?_
      · rintro i x σ H' hi ⟨z, rfl, s2, ax⟩
        have hx := List.mem_of_getElem? hi
        obtain ⟨a, rfl, ha⟩ := la x hx
        have lot := lotsN_lot (pm.mem_iff.mp (List.mem_map.mpr ⟨_, hx, rfl⟩))
        have lot2 : Lot ms.length (kf (.ref a)) := by rw [← len]; exact lot
        have hk : (xs.map kf)[i]? = some (kf (.ref a)) := by rw [List.getElem?_map, hi]; rfl
        refine ⟨_, rfl, r, dx, _, rfl, s2 _ _ hr1, noS _ _, _, rfl, r, a, ls, kf (.ref a), rfl, ring1.same s2, l8, s2 _ _ ha, lot, Nat.le_trans (lot_len lot) l8, fun H3 s3 => ?_⟩
        have s23 := s2.trans s3
        refine ⟨_, rfl, s', dy, _, rfl, s23 _ _ hs1, noS _ _, _, rfl, s', a, ms, kf (.ref a), rfl, rins1.same s23, by omega, s23 _ _ ha, lot2, Nat.le_trans (lot_len lot) l8, fun H4 s4 => ⟨rfl, _, rfl, ?_⟩⟩
        have s24 := s23.trans s4
        rw [dec_str]
        cases e : unl ls ms (kf (.ref a)) with
        | false =>
          have e' : (!decide (sortV ls (kf (.ref a)) = sortV ms (kf (.ref a)))) = false := e
          rw [e']
          refine iteF ⟨_, rfl, s24, fun m hm => ?_⟩
          rw [← take_snoc hk] at hm
          rcases List.mem_append.mp hm with z | z
          · exact ax m z
          · rw [List.mem_singleton.mp z]
            exact e
        | true =>
          have e' : (!decide (sortV ls (kf (.ref a)) = sortV ms (kf (.ref a)))) = true := e
          rw [e']
          refine iteT ⟨_, rfl, q _ H4 (e1.trans (ExtN.of s24)) (tab1.ext s24) ⟨⟨_, al⟩, fun L aL => .inr ⟨a, _, rfl, s24 _ _ ha, ?_⟩⟩⟩
          rw [aL.eq al]
          exact head_of ax hk e
      · rintro σ H' ⟨z, rfl, s2, ax⟩
        refine q _ H' (e1.trans (ExtN.of s2)) (tab1.ext s2) ⟨⟨_, al⟩, fun L aL => .inl ⟨rfl, ?_⟩⟩
        rw [aL.eq al]
        rw [show xs.length = (xs.map kf).length by rw [List.length_map], List.take_length] at ax
        exact List.filter_eq_nil_iff.mpr fun l hl => by rw [ax l hl]; decide
    · exact ⟨_, rfl, _, "one", rfl, .inr ⟨no, er⟩⟩
    · exact ⟨_, rfl, _, "one", rfl, .inl ⟨r, ls, rfl, ring, _, rfl, _, "other", rfl, .inr ⟨no, er⟩⟩⟩
    · obtain ⟨dx, t, hr0, _⟩ := id ring
      obtain ⟨dy, t', hs0, _⟩ := id rins
      refine ⟨_, rfl, _, "one", rfl, .inl ⟨r, ls, rfl, ring, ?_⟩⟩
      refine ⟨_, rfl, _, "other", rfl, .inl ⟨s', ms, rfl, rins, ?_⟩⟩
      refine ⟨_, rfl, r, C, dx, _, rfl, hr0, NM.at_, NM.fn, r, ls, rfl, ring, _, rfl, by omega, by omega, ?_⟩
      refine ⟨_, rfl, s', C, dy, _, rfl, hs0, NM.at_, NM.fn, s', ms, rfl, rins, _, rfl, by omega, by omega, ?_⟩
      exact ⟨_, _, rfl, .inr ⟨by omega, er⟩⟩
/-! ### same_book -/
def spSB (K : PySem.W.Frag) (C cR cM : Addr) (T : List (Addr × Str)) : Sp := fun vs H Q E => ∃ v u : V, vs = [v, u] ∧ Two K C cR cM T v u H E fun ls ms => ∀ b H', ExtN H H' → Tabs T H' → (∃ L, AllL ls.length L) → (∀ L, AllL ls.length L → b = (L.filter (unl ls ms)).isEmpty) → Q (.bl b) H'
theorem scSB : FnScope ["one", "other"] ["one", "other"] (defScope sSameBook) := ⟨rfl, rfl, rfl, by decide +kernel, rfl, by decide +kernel, by decide +kernel⟩
theorem ok_sb {C cR cM f fU : Addr} {fd fdU : FuncData} {P1 P2 : Addr} (F : Fun K "same_book" "same_book" sSameBook f fd) (T : Bi mg) (FU : DefAt P w K mg base (L2.CX P w) 7 "first_unlike" ["one", "other"] (spFU K C cR cM (T2 P1 P2)) fU fdU) : FnOk P w K mg base (L2.CX P w) 8 f fd ["one", "other"] (spSB K C cR cM (T2 P1 P2)) := by
  refine F.okX scSB (fun vs H Q E h => ?_) (fun cdv A outer s H vs Q E hr h => ?_)
  · obtain ⟨v, u, rfl, _⟩ := h
    rfl
  · refine ⟨_, pss_one (ps_ret (pe_cmpR op_isN (pe_call FU.ok hr rfl FU.g FU.kp FU.b .nil (passes_call (takes_of rfl rfl rfl rfl) (fun _ _ _ _ h => h)) (pa_cons (pv 0) (pa_cons (pv 1) pa_nil))) pe_non (nomark _))), ?_⟩
    obtain ⟨v, u, rfl, h⟩ := h
    refine ⟨_, rfl, _, rfl, v, u, rfl, ?_⟩
    rcases h with ⟨r, s', ls, ms, rfl, rfl, ring, rins, len, l3, l8, tab, q⟩ | h | h | h
    · refine .inl ⟨r, s', ls, ms, rfl, rfl, ring, rins, len, l3, l8, tab, fun x H' e t fu => ⟨rfl, ?_⟩⟩
      refine q _ H' e t fu.1 fun L aL => ?_
      rcases fu.2 L aL with ⟨rfl, z⟩ | ⟨t, l, rfl, _, z⟩
      · rw [z]
        rfl
      · cases c : L.filter (unl ls ms) with
        | nil => rw [c] at z; cases z
        | cons _ _ => rfl
    · exact .inr (.inl h)
    · exact .inr (.inr (.inl h))
    · exact .inr (.inr (.inr h))
/-! ### short_lots -/
end
end K
namespace K
open PySem L2 Rg LamX
open Evl (pss_cut)
theorem ix_or {X : Cx} {r1 r2 : R2} (h1 : IxR X r1) (h2 : IxR X r2) : IxR X (fun x y H Q => r1 x y H Q ∨ r2 x y H Q) := fun value slice pins s σ H x y v u Q I rx ry h => h.elim (h1 value slice pins s σ H x y v u Q I rx ry) (h2 value slice pins s σ H x y v u Q I rx ry)
/-- a list, or a tuple of whatever kind -/
def SqB (K : PySem.W.Frag) (H : Hp) (l : Addr) (xs : List V) : Prop := H l = some (.lst xs) ∨ SqT K H l xs
theorem SqB.same {K : PySem.W.Frag} {H H' : Hp} {l : Addr} {xs : List V} (h : SqB K H l xs) (s : Same H H') : SqB K H' l xs := h.imp (s _ _) s.tup
section
variable {K : PySem.W.Frag}
theorem SqB.ix {H : Hp} {l : Addr} {xs : List V} {i : Int} {v : V} {Q : VK} (h : SqB K H l xs) (e : atI xs i = some v) (q : Q v H) : rIxL K (.ref l) (.int i) H Q ∨ rIxT K (.ref l) (.int i) H Q := by
  rcases h with h | h
  · exact .inl ⟨l, xs, i, v, rfl, rfl, SqL.of h, e, q⟩
  · exact .inr ⟨l, xs, i, v, rfl, rfl, h, e, q⟩
end
/-- what bars are beyond all others -/
def gapE (ls ns : List Int) : Int := 2 * lsum ls ns - ls.sum
section
variable {P : Program} {w : World} {K : PySem.W.Frag} {mg : Str → Option Value} {base : Heap}
/-! ### excess_of -/
def spEx (K : PySem.W.Frag) : Sp := fun vs H Q _ => ∃ (l m : Addr) (ls ns : List Int), vs = [.ref l, .ref m] ∧ SqB K H l (ls.map V.int) ∧ H m = some (.tup (ns.map V.int)) ∧ ls.length ≤ 8 ∧ ns.length ≤ 8 ∧ Lot ls.length ns ∧ ∀ H', Same H H' → Q (.int (gapE ls ns)) H'
abbrev nEx : List Str := ["lengths", "lot", "bar"]
theorem scEx : FnScope nEx ["lengths", "lot"] (defScope sExcessOf) := ⟨rfl, rfl, rfl, by decide +kernel, rfl, by decide +kernel, by decide +kernel⟩
theorem ok_ex {f : Addr} {fd : FuncData} (F : Fun K "excess_of" "excess_of" sExcessOf f fd) (T : Bi mg) : FnOk P w K mg base CX0 2 f fd ["lengths", "lot"] (spEx K) := by
  refine F.ok scEx (fun vs H Q E h => ?_) (fun cdv A outer s H vs Q E hr h => ?_)
  · obtain ⟨l, m, ls, ns, rfl, _⟩ := h
    rfl
  · have nd := scEx.nd
    refine ⟨_, pss_one (ps_ret (pe_op op_sub (pe_op op_mul pe_int (pe_callB (cr_sum rfl) (by rfl) T.sum (by decide +kernel) (pa_cons (pe_lc (own := [("bar", 2)]) (g := gName 2) (tt := tYes) (te := tOp (fun x y H Q => rIxL K x y H Q ∨ rIxT K x y H Q) (tVar 0) (tVar 2)) rfl nd (pi_tup (pv 1)) (blkOk_by (N := nEx) (sc := defScope sExcessOf) (by decide +kernel)) (fun _ _ _ _ _ => pg_name (i := 2) nd rfl (Or.inl rfl)) (fun _ _ _ _ _ => pts_nil)
        (fun _ _ _ _ _ => pe_ix (r := fun x y H Q => rIxL K x y H Q ∨ rIxT K x y H Q) (ix_or ix_list ix_tup) (pv 0) (pv 2) (fun _ _ => rfl))) pa_nil))) (pe_callB (call_or (cr_sum rfl) (cr_sumT rfl)) (by rfl) T.sum (by decide +kernel) (pa_cons (pv 0) pa_nil)))), ?_⟩
    obtain ⟨l, m, ls, ns, rfl, hl, hm, l8, n8, lot, q⟩ := h
    refine ⟨_, rfl, m, rfl, ⟨_, .inl (.inl hm)⟩, fun D hD => ?_⟩
    refine lc_tup (K := K) (a := m) (xs := ns.map V.int) (fun i H' => Same H H' ∧ H' D = some (.lst (((ns.take i).map fun b => ls.getD b.toNat 0).map V.int))) ⟨(Same.refl H).new hD, upd_same⟩ (fun i H' _ q => .inl (.inl (q.1 _ _ hm))) ?_ ?_
    · rintro i x H' hi ⟨s2, h2⟩
      obtain ⟨z, hz, rfl⟩ := int_at hi
      have zl := lot.2 z (List.mem_of_getElem? hz)
      have hil : i < ns.length := (List.getElem?_eq_some_iff.mp hz).1
      refine ⟨rfl, _, rfl, _, rfl, (hl.same s2).ix (get_z zl.1 zl.2) ⟨_, h2, ?_, s2.mut hD, ?_⟩⟩
      · rw [List.length_map, List.length_map, List.length_take]
        exact sm (by omega)
      · rw [upd_same, lsum_take hz, List.map_append]
        rfl
    · rintro H' ⟨s2, h2⟩
      rw [List.length_map, List.take_length] at h2
      have s3 := hl.same s2
      refine ⟨D, _, rfl, SqL.of h2, _, _, rfl, rfl, .inl ⟨by decide, by decide⟩, _, rfl, ?_⟩
      have fin : Q (.int (gapE ls ns)) H' := q H' s2
      rcases s3 with z | z
      · exact .inl ⟨l, ls, rfl, SqL.of z, _, _, rfl, rfl, fin⟩
      · exact .inr ⟨l, ls, rfl, z, _, _, rfl, rfl, fin⟩
end
end K
namespace K
open PySem L2 Rg LamX
open Evl (pss_cut)
theorem short_gap (ls l : List Int) : shortB ls l = decide (gapE ls l < 0) := by
  unfold shortB gapE
  rcases sort_cases ls l with ⟨a, e⟩ | ⟨a, e⟩ | ⟨a, e⟩ <;> rw [e]
  · rw [decide_eq_false (fun z => ne_sv z.symm), decide_eq_false (by omega)]
  · rw [decide_eq_true rfl, decide_eq_true (by omega)]
  · rw [decide_eq_false (fun z => ne_sl z.symm), decide_eq_false (by omega)]
theorem gap_rest {ls l : List Int} (h : l ∈ lotsN ls.length) : restN ls.length l ls.length ∈ lotsN ls.length ∧ gapE ls (restN ls.length l ls.length) = -gapE ls l := by
  refine ⟨nat_lots _ _, ?_⟩
  have := rest_sum (lotsN_lot h)
  unfold gapE
  omega
def sgnL (ls ns : List Int) (i : Nat) : List Int := (List.range i).map fun j => if hasB ns j = true then ls.getD j 0 else -(ls.getD j 0)
theorem sgn_succ (ls ns : List Int) (i : Nat) : sgnL ls ns (i + 1) = sgnL ls ns i ++ [if hasB ns i = true then ls.getD i 0 else -(ls.getD i 0)] := by
  unfold sgnL
  rw [List.range_succ, List.map_append]
  rfl
theorem sgn_len (ls ns : List Int) (i : Nat) : (sgnL ls ns i).length = i := by unfold sgnL; rw [List.length_map, List.length_range]
theorem sgn_sum (f : Nat → Int) (p : Nat → Bool) : ∀ l : List Nat, (l.map fun j => if p j = true then f j else -(f j)).sum = ((l.filter p).map f).sum - ((l.filter fun j => !p j).map f).sum
  | [] => rfl
  | x :: l => by
    have ih := sgn_sum f p l
    cases e : p x <;> simp [e, List.sum_cons] <;> omega
theorem sgn_gap {ls ns : List Int} (h : Lot ls.length ns) : (sgnL ls ns ls.length).sum = gapE ls ns := by
  unfold sgnL
  rw [sgn_sum]
  have e1 := oth_sum h
  have e2 : (((List.range ls.length).filter (hasB ns)).map fun j => ls.getD j 0).sum = lsum ls ns := by
    rw [← lsum_perm (lot_sorted h)]
    unfold lsum
    rw [List.map_map]
    rfl
  unfold oth at e1
  unfold gapE
  rw [e2]
  omega
section
variable {P : Program} {w : World} {K : PySem.W.Frag} {mg : Str → Option Value} {base : Heap}
/-! ### by how much a lot is longer -/
def spGap (K : PySem.W.Frag) : Sp := fun vs H Q _ => ∃ (l m : Addr) (ls ns : List Int), vs = [.ref l, .ref m] ∧ H l = some (.lst (ls.map V.int)) ∧ H m = some (.tup (ns.map V.int)) ∧ ls.length ≤ 8 ∧ Lot ls.length ns ∧ ∀ H', Same H H' → Q (.int (gapE ls ns)) H'
abbrev nGap : List Str := ["_law_lengths_here", "_law_lot", "_law_bar", "_law_length"]
theorem scGap : FnScope nGap ["_law_lengths_here", "_law_lot"] (defScope sLwGap) := ⟨rfl, rfl, rfl, by decide +kernel, rfl, by decide +kernel, by decide +kernel⟩
theorem ok_gap {f : Addr} {fd : FuncData} (F : Fun K "_law_gap" "_law_gap" sLwGap f fd) (T : Bi mg) : FnOk P w K mg base CX0 2 f fd ["_law_lengths_here", "_law_lot"] (spGap K) := by
  refine F.ok scGap (fun vs H Q E h => ?_) (fun cdv A outer s H vs Q E hr h => ?_)
  · obtain ⟨l, m, ls, ns, rfl, _⟩ := h
    rfl
  · have nd := scGap.nd
    refine ⟨_, pss_one (ps_ret (pe_callB (cr_sum rfl) (by rfl) T.sum (by decide +kernel) (pa_cons (pe_lc (own := [("_law_bar", 2), ("_law_length", 3)]) (g := gTup K 2 (gCons (gName 2) (gCons (gName 3) gNil))) (tt := tYes) (te := tIf (tTest (tOp (rIn K false) (tVar 2) (tVar 1))) (tVar 3) (tUn (rU fun i => .int (-i)) (tVar 3))) rfl nd (pi_enum (by rfl) T.enumerate (pa_cons (pv 0) pa_nil))
        (blkOk_by (N := nGap) (sc := defScope sLwGap) (by decide +kernel)) (fun _ _ _ _ _ => pg_tup rfl (pgs_cons (pg_name (i := 2) nd rfl (Or.inl rfl)) (pgs_cons (pg_name (i := 3) nd rfl (Or.inl rfl)) pgs_nil))) (fun _ _ _ _ _ => pts_nil) (fun _ _ _ _ _ => pe_ifExp (pt_cmpR op_in_seq (pv 2) (pv 1) (by rfl)) (pv 3) (pe_un un_neg (pv 3)))) pa_nil))), ?_⟩
    obtain ⟨l, m, ls, ns, rfl, hl, hm, l8, lot, q⟩ := h
    refine ⟨_, rfl, l, _, rfl, SqL.of hl, fun D hD => ?_⟩
    refine lc_it walk_enum (fun i H' => Same H H' ∧ H' D = some (.lst ((sgnL ls ns i).map V.int))) ⟨(Same.refl H).new hD, upd_same⟩ (fun i H' _ p => p.1.seq (SqL.of hl)) ?_ ?_
    · rintro i x H2 H3 hi ⟨s2, h2⟩ ⟨U, x1, x2, rfl, hU, rfl, e1, e2⟩
      obtain rfl := (Option.some.inj e1).symm
      obtain ⟨z, hz, rfl⟩ := int_at e2
      rw [List.length_map] at hi
      have hDU : D ≠ U := ne_of_none h2 hU
      have s3 : Same H (upd H2 U (.tup [.int (i : Nat), .int z])) := s2.new hU
      have ez : ls.getD i 0 = z := by rw [List.getD_eq_getElem?_getD, hz]; rfl
      have put : ∀ y, y = (if hasB ns i = true then ls.getD i 0 else -(ls.getD i 0)) → ∃ acc, upd H2 U (.tup [.int (i : Nat), .int z]) D = some (.lst acc) ∧ acc.length < sizeLine ∧ (Same H (upd (upd H2 U (.tup [.int (i : Nat), .int z])) D (.lst (acc ++ [.int y]))) ∧ upd (upd H2 U (.tup [.int (i : Nat), .int z])) D (.lst (acc ++ [.int y])) D = some (.lst ((sgnL ls ns (i + 1)).map V.int))) := by
        intro y hy
        refine ⟨_, by rw [upd_ne hDU]; exact h2, by rw [List.length_map, sgn_len]; exact sm (by omega), s3.mut hD, ?_⟩
        rw [upd_same, sgn_succ, List.map_append, hy]
        rfl
      refine ⟨U, _, rfl, .inl (.inl upd_same), rfl, _, _, rfl, _, _, rfl, rfl, rfl, _, rfl, _, rfl, m, _, rfl, .inr (.inl (.inl (s3 _ _ hm))), rfl, flat_ints _, _, rfl, ?_⟩
      have eb : inV (.int (i : Nat)) (ns.map V.int) = hasB ns i := inV_int _ _
      show (if inV (.int (i : Nat)) (ns.map V.int) = true then _ else _)
      rw [eb]
      cases e : hasB ns i with
      | true =>
        refine iteT ⟨_, rfl, ?_⟩
        exact put z (by rw [e, if_pos rfl, ez])
      | false =>
        refine iteF ⟨_, rfl, z, rfl, ?_⟩
        exact put (-z) (by rw [e, if_neg (by decide), ez])
    · rintro H2 ⟨s2, h2⟩
      rw [List.length_map] at h2
      refine ⟨D, _, rfl, SqL.of h2, ?_⟩
      rw [sgn_gap lot]
      exact q H2 s2
end
end K
namespace K
open PySem L2 Rg LamX
open Evl (pss_cut)
theorem pi_or {X : Cx} {tg e : Expr} {w1 w2 : TI} (h1 : PI X tg e w1) (h2 : PI X tg e w2) : PI X tg e (fun σ H R => w1 σ H R ∨ w2 σ H R) := ⟨fun pins s σ H R I h => h.elim (h1.run pins s σ H R I) (h2.run pins s σ H R I)⟩
/-! ### nested tuples (and lists) of numbers, texts and None -/
def Atm (v : V) (d : PyData) : Prop := (∃ i : Int, v = .int i ∧ d = .int i) ∨ (v = .non ∧ d = .none) ∨ ∃ z : {z : Str // PyData.strOk z = true}, v = .str z.1 ∧ d = .str z.1
def FV (H : Hp) (b : Bool) : Nat → V → PyData → Prop
  | 0, v, d => Atm v d
  | n + 1, v, d => Atm v d ∨ ∃ (a : Addr) (xs : List V) (ds : List PyData), v = .ref a ∧ (H a = some (.tup xs) ∨ (b = true ∧ H a = some (.lst xs))) ∧ d = .tuple ds ∧ xs.length ≤ 1000 ∧ Paired (FV H b n) xs ds
theorem FV.atm {H : Hp} {b : Bool} {v : V} {d : PyData} (h : Atm v d) : ∀ n, FV H b n v d
  | 0 => h
  | _ + 1 => .inl h
theorem FV.int {H : Hp} {b : Bool} {n : Nat} (i : Int) : FV H b n (.int i) (.int i) := FV.atm (.inl ⟨i, rfl, rfl⟩) n
theorem FV.non {H : Hp} {b : Bool} {n : Nat} : FV H b n .non .none := FV.atm (.inr (.inl ⟨rfl, rfl⟩)) n
theorem FV.tup {H : Hp} {b : Bool} {n : Nat} {a : Addr} {xs : List V} {ds : List PyData} (h : H a = some (.tup xs)) (l : xs.length ≤ 1000) (p : Paired (FV H b n) xs ds) : FV H b (n + 1) (.ref a) (.tuple ds) := .inr ⟨a, xs, ds, rfl, .inl h, rfl, l, p⟩
theorem FV.up {H : Hp} {b : Bool} : ∀ {n : Nat} {v : V} {d : PyData}, FV H b n v d → FV H b (n + 1) v d
  | 0, v, d, h => .inl h
  | n + 1, v, d, h => by
    rcases h with h | ⟨a, xs, ds, e, ha, ed, l, p⟩
    · exact .inl h
    · exact .inr ⟨a, xs, ds, e, ha, ed, l, par_imp (fun _ _ k => k.up) p⟩
theorem FV.ext {H H' : Hp} {b : Bool} (s : ExtN H H') : ∀ {n : Nat} {v : V} {d : PyData}, FV H b n v d → FV H' b n v d
  | 0, v, d, h => h
  | n + 1, v, d, h => by
    rcases h with h | ⟨a, xs, ds, e, ha, ed, l, p⟩
    · exact .inl h
    · exact .inr ⟨a, xs, ds, e, ha.imp (fun z => s _ _ z (fun _ q => nomatch q)) (fun z => ⟨z.1, s _ _ z.2 (fun _ q => nomatch q)⟩), ed, l, par_imp (fun _ _ k => k.ext s) p⟩
theorem FV.same {H H' : Hp} {b : Bool} {n : Nat} {v : V} {d : PyData} (h : FV H b n v d) (s : Same H H') : FV H' b n v d := h.ext (ExtN.of s)
theorem FV.mut {H : Hp} {D : Addr} {us ws : List V} (hD : H D = some (.lst us)) : ∀ {n : Nat} {v : V} {d : PyData}, FV H false n v d → FV (upd H D (.lst ws)) false n v d
  | 0, v, d, h => h
  | n + 1, v, d, h => by
    rcases h with h | ⟨a, xs, ds, e, ha, ed, l, p⟩
    · exact .inl h
    · refine .inr ⟨a, xs, ds, e, ?_, ed, l, par_imp (fun _ _ k => k.mut hD) p⟩
      rcases ha with ha | ⟨z, _⟩
      · exact .inl (by rw [upd_ne fun k => by rw [k, hD] at ha; cases ha]; exact ha)
      · cases z
theorem FV.any {H : Hp} : ∀ {n : Nat} {v : V} {d : PyData}, FV H false n v d → FV H true n v d
  | 0, v, d, h => h
  | n + 1, v, d, h => by
    rcases h with h | ⟨a, xs, ds, e, ha, ed, l, p⟩
    · exact .inl h
    · refine .inr ⟨a, xs, ds, e, ?_, ed, l, par_imp (fun _ _ k => k.any) p⟩
      rcases ha with ha | ⟨z, _⟩
      · exact .inl ha
      · cases z
theorem fv_ints {H : Hp} {b : Bool} {n : Nat} : ∀ l : List Int, Paired (FV H b n) (l.map V.int) (l.map PyData.int)
  | [] => .nil
  | i :: l => .cons (FV.int i) (fv_ints l)
section
variable {P : Program} {w : World} {K : PySem.W.Frag} {mg : Str → Option Value} {base : Heap}
def spFz (n : Nat) : Sp := fun vs H Q _ => ∃ (v : V) (d : PyData), vs = [v] ∧ FV H true n v d ∧ ∀ v' H', Same H H' → FV H' false n v' d → Q v' H'
abbrev nFz : List Str := ["value", "one"]
theorem scFz : FnScope nFz ["value"] (defScope sFixed) := ⟨rfl, rfl, rfl, by decide +kernel, rfl, by decide +kernel, by decide +kernel⟩
theorem atm_ty {H : Hp} {v : V} {d : PyData} (h : Atm v d) : ∃ k : String, TyX K H v (.type k) ∧ kitB k "list" = some false ∧ kitB k "tuple" = some false := by
  rcases h with ⟨i, rfl, _⟩ | ⟨rfl, _⟩ | ⟨z, rfl, _⟩
  · exact ⟨"int", .base (.int i), by decide +kernel, by decide +kernel⟩
  · exact ⟨"NoneType", .base .non, by decide +kernel, by decide +kernel⟩
  · exact ⟨"str", .base (.str z.1), by decide +kernel, by decide +kernel⟩
theorem ok_fz0 {f : Addr} {fd : FuncData} (F : Fun K "fixed" "fixed" sFixed f fd) (T : Bi mg) : FnOk P w K mg base CX0 1 f fd ["value"] (spFz 0) := by
  refine F.ok scFz (fun vs H Q E h => ?_) (fun cdv A outer s H vs Q E hr h => ?_)
  · obtain ⟨v, d, rfl, _⟩ := h
    rfl
  · refine ⟨_, pss_cons (ps_if (pt_val (pe_callB call_isiT (by rfl) T.isinstance (by decide +kernel) (pa_cons (pv 0) (pa_cons (pe_tup (pa_cons (pe_bltn (v := .ty "list") (u := .type "list") (by rfl) T.list (by decide +kernel) rfl) (pa_cons (pe_bltn (v := .ty "tuple") (u := .type "tuple") (by rfl) T.tuple (by decide +kernel) rfl) pa_nil))) pa_nil)))) (pss_one ps_never) pss_nil)
      (pss_one (ps_ret (pv 0))), ?_⟩
    obtain ⟨v, d, rfl, h, q⟩ := h
    refine ⟨_, rfl, (by show 2 ≤ sizeLine; decide), fun p hp => ?_⟩
    have s1 : Same H (upd H p (.tup [.ty "list", .ty "tuple"])) := (Same.refl H).new hp
    obtain ⟨k, ty, k1, k2⟩ := atm_ty (K := K) (H := upd H p (.tup [.ty "list", .ty "tuple"])) h
    refine ⟨v, p, [.ty "list", .ty "tuple"], .type k, _, false, rfl, upd_same, .cons (.ty _) (.cons (.ty _) .nil), ty, kitAny_cons (kit_ty k1) (fun e => kitAny_cons (b := false) (r := false) (kit_ty k2) (fun _ => kitAny_nil) fun e' => nomatch e') (fun e => nomatch e), _, rfl, iteF ?_⟩
    exact ⟨_, rfl, q _ _ s1 h⟩
theorem ok_fz1 {n : Nat} {f : Addr} {fd : FuncData} (F : Fun K "fixed" "fixed" sFixed f fd) (T : Bi mg) (FX : DefAt P w K mg base CX0 (n + 1) "fixed" ["value"] (spFz n) f fd) : FnOk P w K mg base CX0 (n + 2) f fd ["value"] (spFz (n + 1)) := by
  refine F.ok scFz (fun vs H Q E h => ?_) (fun cdv A outer s H vs Q E hr h => ?_)
  · obtain ⟨v, d, rfl, _⟩ := h
    rfl
  · have nd := scFz.nd
    refine ⟨_, pss_cons (ps_if (pt_val (pe_callB call_isiT (by rfl) T.isinstance (by decide +kernel) (pa_cons (pv 0) (pa_cons (pe_tup (pa_cons (pe_bltn (v := .ty "list") (u := .type "list") (by rfl) T.list (by decide +kernel) rfl) (pa_cons (pe_bltn (v := .ty "tuple") (u := .type "tuple") (by rfl) T.tuple (by decide +kernel) rfl) pa_nil))) pa_nil))))
        (pss_one (ps_ret (pe_callTy call_tuple_of (by rfl) T.tuple (by decide +kernel) (pa_cons (pe_lc (own := [("one", 1)]) (g := gName 1) (tt := tYes) rfl nd (pi_or (pi_list (pv 0)) (pi_tup (pv 0))) (blkOk_by (N := nFz) (sc := defScope sFixed) (by decide +kernel)) (fun _ _ _ _ _ => pg_name (i := 1) nd rfl (Or.inl rfl)) (fun _ _ _ _ _ => pts_nil) (fun _ _ _ _ _ => pe_call FX.ok hr rfl FX.g FX.kp FX.b .nil pass0 (pa_cons (pv 1) pa_nil))) pa_nil)))) pss_nil)
      (pss_one (ps_ret (pv 0))), ?_⟩
    obtain ⟨v, d, rfl, h, q⟩ := h
    refine ⟨_, rfl, (by show 2 ≤ sizeLine; decide), fun p hp => ?_⟩
    have s1 : Same H (upd H p (.tup [.ty "list", .ty "tuple"])) := (Same.refl H).new hp
    have hpp : upd H p (.tup [.ty "list", .ty "tuple"]) p = some (.tup [.ty "list", .ty "tuple"]) := upd_same
    generalize upd H p (.tup [.ty "list", .ty "tuple"]) = H1 at s1 hpp ⊢
    rcases h with h | ⟨a, xs, ds, rfl, ha, rfl, l, px⟩
    · obtain ⟨k, ty, k1, k2⟩ := atm_ty (K := K) (H := H1) h
      refine ⟨v, p, [.ty "list", .ty "tuple"], .type k, _, false, rfl, hpp, .cons (.ty _) (.cons (.ty _) .nil), ty, kitAny_cons (kit_ty k1) (fun e => kitAny_cons (b := false) (r := false) (kit_ty k2) (fun _ => kitAny_nil) fun e' => nomatch e') (fun e => nomatch e), _, rfl, iteF ?_⟩
      exact ⟨_, rfl, q _ _ s1 (.inl h)⟩
    have px1 := par_imp (fun _ _ k => FV.same k s1) px
    have body : ∀ (wi : It) (Gd : Hp → Prop), Walk wi xs.length Gd (YAt xs) → (∀ H', Same H1 H' → Gd H') → ∀ D, H1 D = none → ∀ (tt : TT) (R : VK), (∀ D' us H', Same H1 H' → H' D' = some (.lst us) → us.length = xs.length → Paired (FV H' false n) us ds → R (.ref D') H') → True := fun _ _ _ _ _ _ _ _ _ => trivial
    have fin : ∀ (D : Addr) (us : List V) (H' : Hp), Same H1 H' → H' D = some (.lst us) → us.length = xs.length → Paired (FV H' false n) us ds → ∀ t, H' t = none → Q (.ref t) (upd H' t (.tup us)) := fun D us H' s2 h2 ul pu t nt => by
      have s3 : Same H' (upd H' t (.tup us)) := (Same.refl H').new nt
      exact q _ _ ((s1.trans s2).trans s3) (.inr ⟨t, us, ds, rfl, .inl upd_same, rfl, by omega, par_imp (fun _ _ k => k.same s3) pu⟩)
    have step : ∀ (D : Addr) (j : Nat) (y : V) (H' : Hp) (us : List V), xs[j]? = some y → Same H1 H' → H1 D = none → H' D = some (.lst us) → us.length = j → Paired (FV H' false n) us (ds.take j) →
        spFz n [y] H' (fun v H2 => ∃ acc, H2 D = some (.lst acc) ∧ acc.length < sizeLine ∧ (Same H1 (upd H2 D (.lst (acc ++ [v]))) ∧ ∃ us, upd H2 D (.lst (acc ++ [v])) D = some (.lst us) ∧ us.length = j + 1 ∧ Paired (FV (upd H2 D (.lst (acc ++ [v]))) false n) us (ds.take (j + 1)))) E0 := fun D j y H' us hj s2 nD h2 ul pu => by
      obtain ⟨e, he, fv⟩ := par_get px1 hj
      have jl : j < xs.length := (List.getElem?_eq_some_iff.mp hj).1
      refine ⟨y, e, rfl, fv.same s2, fun v' H3 s3 fv' => ?_⟩
      have h3 := s3 _ _ h2
      refine ⟨us, h3, by rw [ul]; exact sm (by omega), (s2.trans s3).mut nD, us ++ [v'], upd_same, by rw [List.length_append, ul]; rfl, ?_⟩
      rw [← take_snoc he]
      exact par_app (par_imp (fun _ _ k => (k.same s3).mut h3) pu) (.cons (fv'.mut h3) .nil)
    rcases ha with ha | ⟨_, ha⟩
    · have ha1 := s1 _ _ ha
      refine ⟨.ref a, p, [.ty "list", .ty "tuple"], .type "tuple", _, true, rfl, hpp, .cons (.ty _) (.cons (.ty _) .nil), .base (.tup ha1), kitAny_cons (b := false) (kit_ty (by decide +kernel)) (fun _ => kitAny_cons (b := true) (r := true) (kit_ty (by decide +kernel)) (fun e => nomatch e) fun _ => rfl) (fun e => nomatch e), _, rfl, iteT ?_⟩
      refine .inr ⟨_, rfl, a, rfl, ⟨_, .inl (.inl ha1)⟩, fun D hD => ?_⟩
      refine lc_it (walk_tup (K := K) (a := a) (xs := xs)) (fun j H' => Same H1 H' ∧ ∃ us, H' D = some (.lst us) ∧ us.length = j ∧ Paired (FV H' false n) us (ds.take j)) ⟨(Same.refl H1).new hD, [], upd_same, rfl, .nil⟩ (fun j H' _ r => .inl (.inl (r.1 _ _ ha1))) ?_ ?_
      · rintro j y H2 H3 hj ⟨s2, us, h2, ul, pu⟩ ⟨rfl, hy⟩
        exact ⟨rfl, _, rfl, step D j y _ us hy s2 hD h2 ul pu⟩
      · rintro H2 ⟨s2, us, h2, ul, pu⟩
        rw [par_len px, List.take_length] at pu
        exact ⟨D, _, rfl, .inl ⟨SqL.of h2, fin D us H2 s2 h2 ul pu⟩⟩
    · have ha1 := s1 _ _ ha
      refine ⟨.ref a, p, [.ty "list", .ty "tuple"], .type "list", _, true, rfl, hpp, .cons (.ty _) (.cons (.ty _) .nil), .base (.lst ha1), kitAny_cons (b := true) (r := true) (kit_ty (kit_list "list" (by decide))) (fun e => nomatch e) (fun _ => rfl), _, rfl, iteT ?_⟩
      refine .inl ⟨_, rfl, a, rfl, ⟨_, SqL.of ha1⟩, fun D hD => ?_⟩
      refine lc_it (walk_list (K := K) (a := a) (xs := xs)) (fun j H' => Same H1 H' ∧ ∃ us, H' D = some (.lst us) ∧ us.length = j ∧ Paired (FV H' false n) us (ds.take j)) ⟨(Same.refl H1).new hD, [], upd_same, rfl, .nil⟩ (fun j H' _ r => SqL.of (r.1 _ _ ha1)) ?_ ?_
      · rintro j y H2 H3 hj ⟨s2, us, h2, ul, pu⟩ ⟨rfl, hy⟩
        exact ⟨rfl, _, rfl, step D j y _ us hy s2 hD h2 ul pu⟩
      · rintro H2 ⟨s2, us, h2, ul, pu⟩
        rw [par_len px, List.take_length] at pu
        exact ⟨D, _, rfl, .inl ⟨SqL.of h2, fin D us H2 s2 h2 ul pu⟩⟩
/-- fixed, to any depth -/
theorem at_fz {f : Addr} {fd : FuncData} (F : Fun K "fixed" "fixed" sFixed f fd) (T : Bi mg) (g : mg "fixed" = some (.ref f)) (kp : PySem.W.keepIn K (.ref f) = true) (b : Binds K fd ["value"] []) : ∀ n, DefAt P w K mg base CX0 (n + 1) "fixed" ["value"] (spFz n) f fd
  | 0 => ⟨ok_fz0 F T, g, kp, b⟩
  | n + 1 => ⟨ok_fz1 F T (at_fz F T g kp b n), g, kp, b⟩
end
end K
namespace K
open PySem L2 Rg LamX NdefX
open Evl (pss_cut)
/-! ### papers -/
/-- a class of papers: no own word, no own parts -/
structure PapC (K : PySem.W.Frag) (C : Addr) : Prop where
  cl : Cls K C
  nw : NoAttr K C "word"
  np : NoAttr K C "parts"
/-- a def that closes over __class__ -/
structure FunS (K : PySem.W.Frag) (x qual : Str) (st : Stmt) (f c cc : Addr) (fd : FuncData) : Prop where
  ex : ∃ (oc : Value) (od : Option Addr) (kV doc pm : Value) (an : Option Addr) (ct : Value) (osl : Array (Option Value)),
    fd = PySem.W.fnX x qual (defArgs st) (defBody st) (defScope st) [(("__class__" : Str), cc)] .none kV doc pm an (.ref c) ct ∧ K.lookup f = some ⟨oc, od, .func fd, osl⟩ ∧ PySem.W.codeIn K (.ref c) qual = true
  kp : PySem.W.keepIn K (.ref f) = true
theorem FunS.binds {K : PySem.W.Frag} {x qual : Str} {st : Stmt} {f c cc : Addr} {fd : FuncData} {ps : List Str} (F : FunS K x qual st f c cc fd)
    (h : ∀ (kV doc pm : Value) (an : Option Addr) (ct : Value) (us : List Value), us.length = ps.length → bindArgs (PySem.W.fnX x qual (defArgs st) (defBody st) (defScope st) [(("__class__" : Str), cc)] .none kV doc pm an (.ref c) ct) ⟨us, []⟩ = pure (ps.zip us)) : Binds K fd ps [] := by
  obtain ⟨oc, od, kV, doc, pm, an, ct, osl, rfl, lk, hcd⟩ := F.ex
  refine fun s us KX hl => ?_
  rw [List.append_nil] at hl ⊢
  intro A R E Q q
  rw [h kV doc pm an ct us hl]
  exact wpAny_pure q
section
variable {P : Program} {w : World} {K : PySem.W.Frag} {mg : Str → Option Value} {base : Heap}
def spPI (n : Nat) : Sp := fun vs H Q _ => ∃ (r C dx p : Addr) (word : Str) (xs : List V) (ds : List PyData), vs = [.ref r, .str word, .ref p] ∧ H r = some (.ins C dx []) ∧ PapC K C ∧ H p = some (.tup xs) ∧ Paired (FV H true n) xs ds ∧ xs.length ≤ 1000 ∧
  ∀ t H', But r H H' → FV H' false (n + 1) (.ref t) (.tuple ds) → H' r = some (.ins C dx [("word", .str word), ("parts", .ref t)]) → Q .non H'
def spPIR (K : PySem.W.Frag) (n : Nat) : Sp := fun vs H Q _ => ∃ (r C dx : Addr) (word : Str) (xs : List V) (ds : List PyData), vs = .ref r :: .str word :: xs ∧ H r = some (.ins C dx []) ∧ PapC K C ∧ Paired (FV H true n) xs ds ∧ xs.length ≤ 1000 ∧
  ∀ t H', But r H H' → FV H' false (n + 1) (.ref t) (.tuple ds) → H' r = some (.ins C dx [("word", .str word), ("parts", .ref t)]) → Q .non H'
abbrev nPI : List Str := ["self", "word", "parts"]
theorem scPI : FnScope nPI ((["self", "word"] : List Str) ++ (["parts"] : List Str)) (defScope sPaperInit) := ⟨rfl, rfl, rfl, by decide +kernel, rfl, by decide +kernel, by decide +kernel⟩
theorem FV.but {H H' : Hp} {r C dx : Addr} {fs : List (Str × V)} {b : Bool} (hr : H r = some (.ins C dx fs)) (s : But r H H') : ∀ {n : Nat} {v : V} {d : PyData}, FV H b n v d → FV H' b n v d
  | 0, v, d, h => h
  | n + 1, v, d, h => by
    rcases h with h | ⟨a, xs, ds, e, ha, ed, l, p⟩
    · exact .inl h
    · refine .inr ⟨a, xs, ds, e, ?_, ed, l, par_imp (fun _ _ k => k.but hr s) p⟩
      exact ha.imp (fun z => s _ _ (fun q => by rw [q, hr] at z; cases z) z) (fun z => ⟨z.1, s _ _ (fun q => by rw [q, hr] at z; cases z.2) z.2⟩)
/-- a def with a star parameter, by its body -/
theorem fn_starF {x qual : Str} {st : Stmt} {f : Addr} {fd : FuncData} {N ps : List Str} {pv : Str} {k : Nat} {sp : Sp} (F : Fun K x qual st f fd) (S : FnScope N (ps ++ [pv]) (defScope st))
    (hb : ∀ (kV doc pm : Value) (an : Option Addr) (cdv ct : Value) (us rest : List Value), us.length = ps.length → bindArgs (PySem.W.fnOf x qual (defArgs st) (defBody st) (defScope st) .none kV doc pm an cdv ct) ⟨us ++ rest, []⟩ = (newTuple rest >>= fun t => pure (ps.zip us ++ [(pv, t)])))
    (hbody : ∀ (cdv : Value) (A : Around) (outer : List Env) (s : Shared) (H : Hp) (vs : List V) (Q : VK) (E : XK), Room k (A.deeper (PyProof.Rows.envOfC qual (defScope st) s.heap.objs.size f cdv)) → sp vs H Q E →
      ∃ t, PSs (cxOf CX0 P w K mg base N qual (defScope st) f cdv A outer s H E).nox (defBody st) t ∧ t { nx := fun _ H' => Q .non H', rt := Q } (start N vs) H) :
    FnR P w K mg base CX0 (k + 1) f (fun vs H Q E => ∃ ws rest, vs = ws ++ rest ∧ ws.length = ps.length ∧ rest.length ≤ sizeLine ∧ ∀ p, H p = none → sp (ws ++ [V.ref p]) (upd H p (.tup rest)) Q E) := by
  obtain ⟨oc, od, kV, doc, pm, an, cdv, ct, osl, rfl, lk, hcd⟩ := F.ex
  refine StX.fn_star lk hcd S StX.cxUp_none (hb kV doc pm an cdv ct) fun A outer s H vs Q E hr hsp => ?_
  obtain ⟨t, h, q⟩ := hbody cdv A outer s H vs Q E hr hsp
  exact ⟨t, h.nox, q⟩
theorem ok_pi {n : Nat} {f fX : Addr} {fd fdX : FuncData} (F : Fun K "__init__" "Paper.__init__" sPaperInit f fd) (FX : DefAt P w K mg base CX0 (n + 2) "fixed" ["value"] (spFz (n + 1)) fX fdX) : FnR P w K mg base CX0 (n + 3) f (spPIR K n) := by
  have z := fn_starF (P := P) (w := w) (mg := mg) (base := base) (ps := ["self", "word"]) (pv := "parts") (N := nPI) (k := n + 2) (sp := spPI (K := K) n) F scPI (fun kV doc pm an cdv ct => StX.bind_star2 (B := fun l => bindArgs (PySem.W.fnOf "__init__" "Paper.__init__" (defArgs sPaperInit) (defBody sPaperInit) (defScope sPaperInit) .none kV doc pm an cdv ct) ⟨l, []⟩) (fun _ _ => rfl) (fun _ _ _ _ => rfl)) fun cdv A outer s H vs Q E hr h => by
    refine ⟨_, (pss_cons (ps_fld (pv 0) (pv 1) rfl) (pss_one (ps_fld (pv 0) (pe_call FX.ok hr rfl FX.g FX.kp FX.b .nil pass0 (pa_cons (pv 2) pa_nil)) rfl))), ?_⟩
    obtain ⟨r, C, dx, p, word, xs, ds, rfl, hr0, pc, hp, px, l, q⟩ := h
    refine ⟨_, rfl, _, rfl, r, C, dx, [], rfl, hr0, pc.cl, pc.nw, (by show 0 < 1000; decide), ?_⟩
    have hr1 : upd H r (.ins C dx (putF "word" (.str word) [])) r = some (.ins C dx [("word", .str word)]) := upd_same
    have s1 : But r H (upd H r (.ins C dx (putF "word" (.str word) []))) := fun b o ne e => by rw [upd_ne ne]; exact e
    generalize upd H r (.ins C dx (putF "word" (.str word) [])) = H1 at hr1 s1 ⊢
    have pr : p ≠ r := fun z => by rw [z, hr0] at hp; cases hp
    refine ⟨_, rfl, .ref p, .tuple ds, rfl, FV.tup (s1 _ _ pr hp) l (par_imp (fun _ _ k => k.but hr0 s1) px), fun v' H2 s2 fv => ?_⟩
    rcases fv with (⟨_, _, z⟩ | ⟨_, z⟩ | ⟨_, _, z⟩) | ⟨t, ys, es, rfl, ht, e2, l2, p2⟩
    · cases z
    · cases z
    · cases z
    have hr2 := s2 _ _ hr1
    refine ⟨_, rfl, r, C, dx, _, rfl, hr2, pc.cl, pc.np, (by show 1 < 1000; decide), ?_⟩
    have s3 : But r H2 (upd H2 r (.ins C dx (putF "parts" (.ref t) [("word", .str word)]))) := fun b o ne e => by rw [upd_ne ne]; exact e
    have fv2 : FV H2 false (n + 1) (.ref t) (.tuple ds) := .inr ⟨t, ys, es, rfl, ht, e2, l2, p2⟩
    exact q t _ ((s1.trans fun b o _ e => s2 _ _ e).trans s3) (fv2.but hr2 s3) upd_same
  exact z.imp fun vs H Q E ⟨r, C, dx, word, xs, ds, e, hr0, pc, px, l, q⟩ => ⟨[.ref r, .str word], xs, e, rfl, Nat.le_trans l (by decide), fun p np => by
    have s0 : Same H (upd H p (.tup xs)) := (Same.refl H).new np
    exact ⟨r, C, dx, p, word, xs, ds, rfl, s0 _ _ hr0, pc, upd_same, par_imp (fun _ _ k => k.same s0) px, l, fun t H' b fv hr' => q t H' (fun a o ne e => b a o ne (s0 _ _ e)) fv hr'⟩⟩
end
end K
namespace K
namespace T
open PySem L2 Rg
open Evl (pss_cut)
theorem Bd.app {m : Int} {a b : List Int} (h : Bd m a) (k : Bd m b) : Bd m (a ++ b) := fun x hx => (List.mem_append.mp hx).elim (h x) (k x)
theorem Bd.take {m : Int} {a : List Int} (i : Nat) (h : Bd m a) : Bd m (a.take i) := fun x hx => h x (List.mem_of_mem_take hx)
theorem Bd.drop {m : Int} {a : List Int} (i : Nat) (h : Bd m a) : Bd m (a.drop i) := fun x hx => h x (List.mem_of_mem_drop hx)
theorem Bd.one {m x : Int} (h1 : 1 ≤ x) (h2 : x ≤ m) : Bd m [x] := fun y hy => by rw [List.mem_singleton.mp hy]; exact ⟨h1, h2⟩
theorem getD_mem {ls : List Int} {i : Nat} (h : i < ls.length) : ls.getD i 0 ∈ ls := by
  rw [List.getD_eq_getElem?_getD, List.getElem?_eq_getElem h]
  exact List.getElem_mem h
theorem Bd.get {m : Int} {ls : List Int} (h : Bd m ls) {i : Nat} (hi : i < ls.length) : 1 ≤ ls.getD i 0 ∧ ls.getD i 0 ≤ m := h _ (getD_mem hi)
theorem cut_from (xs : List V) {z : Int} {k : Nat} (hz : z = (k : Int)) : cutV xs (some z) none = xs.drop k := by
  subst hz
  unfold cutV
  rw [HT.sIx_nat, HT.sIx_none]
  by_cases h : k ≤ xs.length
  · rw [Nat.min_eq_left h, List.take_of_length_le (by rw [List.length_drop]; omega)]
  · rw [Nat.min_eq_right (by omega), List.drop_eq_nil_of_le (Nat.le_refl _), List.drop_eq_nil_of_le (show xs.length ≤ k by omega), List.take_nil]
theorem getL {ls : List Int} {z : Int} {i : Nat} (hz : z = (i : Int)) (h1 : i < ls.length) : atI (ls.map V.int) z = some (V.int (ls.getD i 0)) := by
  subst hz
  have h : (ls.map V.int)[i]? = some (V.int (ls.getD i 0)) := by rw [int_get h1, List.getD_eq_getElem?_getD, List.getElem?_eq_getElem h1]; rfl
  exact atI_nat h
theorem natB_len (n : Nat) : (natB (List.range n)).length = n := by unfold natB; rw [List.length_map, List.length_range]
theorem natB_sorted (n : Nat) : (natB (List.range n)).Pairwise (· ≤ ·) := by
  unfold natB
  rw [List.pairwise_map]
  exact List.pairwise_lt_range.imp fun h => by omega
theorem sorted_eq {a b : List Int} (p : a.Perm b) (ha : a.Pairwise (· ≤ ·)) (hb : b.Pairwise (· ≤ ·)) : a = b := List.Perm.eq_of_pairwise (fun x y _ _ h1 h2 => Int.le_antisymm h1 h2) ha hb p
theorem natB_mem {n : Nat} {x : Int} (h : x ∈ natB (List.range n)) : 0 ≤ x ∧ x < n := by
  obtain ⟨j, hj, rfl⟩ := List.mem_map.mp h
  have := List.mem_range.mp hj
  omega
def ordL (ls ns : List Int) : List Int := ns.map fun b => ls.getD b.toNat 0
theorem ordL_take {ls ns : List Int} {i : Nat} {z : Int} (h : ns[i]? = some z) : ordL ls (ns.take (i + 1)) = ordL ls (ns.take i) ++ [ls.getD z.toNat 0] := by
  unfold ordL
  rw [← take_snoc h, List.map_append]
  rfl
theorem ordL_len (ls ns : List Int) : (ordL ls ns).length = ns.length := List.length_map ..
theorem ordL_bd {ls ns : List Int} {m : Int} (b : Bd m ls) (p : ns.Perm (natB (List.range ls.length))) : Bd m (ordL ls ns) := fun x hx => by
  obtain ⟨z, hz, rfl⟩ := List.mem_map.mp hx
  have := natB_mem (p.mem_iff.mp hz)
  exact b.get (by omega)
theorem get_z {ls : List Int} {z : Int} (h0 : 0 ≤ z) (h1 : z < ls.length) : atI (ls.map V.int) z = some (V.int (ls.getD z.toNat 0)) := getL (i := z.toNat) (by omega) (by omega)
theorem eqvA_pd (a b : List Int) : PyData.eqv (.list (a.map PyData.int)) (.list (b.map PyData.int)) = decide (a = b) := by
  simp [PyData.eqv, Rg.eqvA_ints8]
section
variable {P : Program} {w : World} {K : PySem.W.Frag} {mg : Str → Option Value} {base : Heap}
theorem SqT.own {C dx r t : Addr} {fs : List (Str × V)} {H : Hp} {xs : List V} {u : HO} (h : SqT K H t xs) (hr : H r = some (.ins C dx fs)) : SqT K (upd H r u) t xs := by
  rcases h with (h | ⟨o, h⟩) | h
  · exact .inl (.inl (by rw [upd_ne fun z => by rw [z, hr] at h; cases h]; exact h))
  · exact .inl (.inr ⟨o, by rw [upd_ne fun z => by rw [z, hr] at h; cases h]; exact h⟩)
  · exact .inr h
theorem RingW.same {C : Addr} {H H' : Hp} {r : Addr} {ls : List Int} (h : RingW K C H r ls) (s : Same H H') : RingW K C H' r ls := by
  obtain ⟨dx, t, h1, h2⟩ := h
  exact ⟨dx, t, s _ _ h1, s.tup h2⟩
/-! ### a Ring of a tuple -/
def spAreT (K : PySem.W.Frag) : Sp := fun vs H Q _ => ∃ (a : Addr) (ls : List Int), vs = [.ref a] ∧ Knd K H (.ref a) "tuple" ∧ SqT K H a (ls.map V.int) ∧ ls.length ≤ 1000 ∧ Bd 1000000 ls ∧ ∀ H', Same H H' → Q (.bl true) H'
theorem ok_areT {f fW fL : Addr} {fd fdW fdL : FuncData} (F : Fun K "are_lengths" "are_lengths" sAreLengths f fd) (T : Bi mg) (N : Nm mg) (W : DefAt P w K mg base CX0 2 "is_within" ["value", "least", "most"] spWithin fW fdW) (L : DefAt P w K mg base CX0 1 "is_list" ["value"] (spIsList K) fL fdL) : FnOk P w K mg base CX0 3 f fd ["value"] (spAreT K) := by
  refine F.ok scAreL (fun vs H Q E h => ?_) (fun cdv A outer s H vs Q E hr h => ?_)
  · obtain ⟨a, ls, rfl, _⟩ := h
    rfl
  · obtain ⟨tM, hM⟩ := N.mostL
    refine ⟨_, pss_one (ps_ret (pe_and (pe_call L.ok (hr.mono (by decide)) rfl L.g L.kp L.b .nil pass0 (pa_cons (pv 0) pa_nil)) (pe_one (pe_callB (cr_all rfl) (by rfl) T.all (by decide +kernel) (pa_cons (pe_lc (own := [("one", 1)]) (g := gName 1) (tt := tYes) rfl scAreL.nd (pi_tup (pv 0))
      (blkOk_by (N := nAreL) (sc := defScope sAreLengths) (by decide +kernel)) (fun _ _ _ _ _ => pg_name (i := 1) scAreL.nd rfl (Or.inl rfl)) (fun _ _ _ _ _ => pts_nil) (fun _ _ _ _ _ => pe_call W.ok hr rfl W.g W.kp W.b .nil pass0 (pa_cons (pv 1) (pa_cons pe_int (pa_cons (pe_glob (v := .int 1000000) rfl hM ⟨_, rfl⟩) pa_nil))))) pa_nil))))), ?_⟩
    obtain ⟨a, ls, rfl, hk, hs, hl, hb, q⟩ := h
    refine ⟨_, rfl, _, "tuple", rfl, hk, fun H1 s1 => ⟨_, rfl, iteDT (.inr rfl) ?_⟩⟩
    refine ⟨_, rfl, a, rfl, ⟨_, s1.tup hs⟩, fun D hD => ?_⟩
    have hD0 := s1.free hD
    refine lc_tup (K := K) (a := a) (xs := ls.map V.int) (fun i H' => Same H H' ∧ ∃ bs : List Bool, (∀ b ∈ bs, b = true) ∧ bs.length ≤ i ∧ H' D = some (.lst (bs.map V.bl))) ⟨s1.new hD, [], (fun b hb => nomatch hb), Nat.le_refl _, upd_same⟩ (fun i H' _ p => p.1.tup hs) ?_ ?_
    · rintro i x H' hi ⟨s2, bs, h1, h2, h3⟩
      obtain ⟨z, hz, rfl⟩ := int_at hi
      have hil : i < ls.length := (List.getElem?_eq_some_iff.mp hz).1
      have hzb := hb z (List.mem_of_getElem? hz)
      refine ⟨rfl, _, rfl, z, 1, 1000000, rfl, _, h3, (by rw [List.length_map]; exact sm (by omega)), s2.mut hD0, bs ++ [true], fun b hb => ?_, by rw [List.length_append, List.length_singleton]; omega, ?_⟩
      · rcases List.mem_append.mp hb with m | m
        · exact h1 b m
        · exact List.mem_singleton.mp m
      · rw [upd_same, List.map_append, decide_eq_true hzb.1, decide_eq_true hzb.2]
        rfl
    · rintro H' ⟨s2, bs, h1, h2, h3⟩
      refine ⟨D, bs, rfl, SqL.of h3, ?_⟩
      rw [all_true h1]
      exact q H' s2
def spRIT (K : PySem.W.Frag) (C : Addr) : Sp := fun vs H Q _ => ∃ (r l dx : Addr) (ls : List Int), vs = [.ref r, .ref l] ∧ H r = some (.ins C dx []) ∧ Knd K H (.ref l) "tuple" ∧ (∃ o : Obj, H l = some (.frz o (.tup (ls.map V.int))) ∧ o.dict = none) ∧ 3 ≤ ls.length ∧ ls.length ≤ 8 ∧ Bd 1000000 ls ∧
  ∀ H', RingAt K C H' r ls → (∀ b o, H b = some o → b ≠ r → H' b = some o) → Q .non H'
theorem ok_riT {C f fA fH : Addr} {fd fdA fdH : FuncData} (F : Fun K "__init__" "Ring.__init__" sRingInit f fd) (T : Bi mg) (N : Nm mg) (R : RingC K mg C) (A' : DefAt P w K mg base CX0 3 "are_lengths" ["value"] (spAreT K) fA fdA) (L : DefAt P w K mg base CX0 2 "has_level" ["lengths"] (spHasL K) fH fdH) : FnOk P w K mg base CX0 4 f fd ["self", "lengths"] (spRIT K C) := by
  refine F.ok scRI (fun vs H Q E h => ?_) (fun cdv A outer s H vs Q E hr h => ?_)
  · obtain ⟨r, l, dx, ls, rfl, _⟩ := h
    rfl
  · obtain ⟨t3, h3⟩ := N.leastB
    obtain ⟨t8, h8⟩ := N.mostB
    refine ⟨_, pss_cons (ps_if (pt_not (pt_val (pe_call A'.ok hr rfl A'.g A'.kp A'.b .nil pass0 (pa_cons (pv 1) pa_nil)))) (pss_one ps_never) pss_nil)
      (pss_cons (ps_if (pt_cmpR op_lt (pe_callB call_len_seq (by rfl) T.len PySem.boot_len (pa_cons (pv 1) pa_nil)) (pe_glob (v := .int 3) rfl h3 ⟨_, rfl⟩) (nomark _)) (pss_one ps_never) pss_nil)
      (pss_cons (ps_if (pt_cmpR op_gt (pe_callB call_len_seq (by rfl) T.len PySem.boot_len (pa_cons (pv 1) pa_nil)) (pe_glob (v := .int 8) rfl h8 ⟨_, rfl⟩) (nomark _)) (pss_one ps_never) pss_nil)
      (pss_cons (ps_fld (pv 0) (pe_callTy call_tuple_of (by rfl) T.tuple (by decide +kernel) (pa_cons (pv 1) pa_nil)) rfl)
      (pss_cons (ps_fld (pv 0) (pe_callB (cr_sumT rfl) (by rfl) T.sum (by decide +kernel) (pa_cons (pe_fld (pv 0) rfl) pa_nil)) rfl)
      (pss_cons (ps_fld (pv 0) (pe_cmpR op_le (pe_op op_mul pe_int (pe_callB (cr_maxT rfl) (by rfl) T.max (by decide +kernel) (pa_cons (pe_fld (pv 0) rfl) pa_nil))) (pe_fld (pv 0) rfl) (nomark _)) rfl)
      (pss_one (ps_fld (pv 0) (pe_not (pe_call L.ok (hr.mono (by decide)) rfl L.g L.kp L.b .nil pass0 (pa_cons (pe_fld (pv 0) rfl) pa_nil))) rfl))))))), ?_⟩
    obtain ⟨r, l, dx, ls, rfl, hr0, hk, ⟨of, hfz, hdn⟩, l3, l8, hb, q⟩ := h
    have hs : SqT K H l (ls.map V.int) := .inl (.inr ⟨of, hfz⟩)
    have nrl : l ≠ r := fun z => by rw [z, hr0] at hfz; cases hfz
    refine ⟨_, rfl, l, ls, rfl, hk, hs, by omega, hb, fun H1 s1 => ⟨_, rfl, iteF ?_⟩⟩
    have hs1 := s1.tup hs
    refine ⟨_, rfl, l, _, rfl, .inr hs1, _, _, rfl, rfl, _, rfl, iteDF (by rw [List.length_map]; omega) ?_⟩
    refine ⟨_, rfl, l, _, rfl, .inr hs1, _, _, rfl, rfl, _, rfl, iteDF (by rw [List.length_map]; omega) ?_⟩
    have hr1' := s1 _ _ hr0
    have kp1 : ∀ b o, H b = some o → b ≠ r → H1 b = some o := fun b o e _ => s1 b o e
    refine ⟨_, rfl, l, _, rfl, .inr ⟨hs1, ?_⟩⟩
    obtain ⟨t, et⟩ : ∃ t, t = l := ⟨_, rfl⟩
    subst et
    have hrn := hr1'
    have hsn := hs1
    have kpn := kp1
    have hfn := s1 _ _ hfz
    generalize H1 = Hn at hrn hsn kpn hfn ⊢
    have sq : ∀ u, SqT K (upd Hn r u) t (ls.map V.int) := fun u => SqT.own hsn hrn
    refine ⟨_, rfl, r, C, dx, [], rfl, hrn, R.cl, R.nL, (by show 0 < 1000; decide), ?_⟩
    refine ⟨_, rfl, r, C, dx, _, _, rfl, upd_same, R.cl, R.nL, (by rw [lookup_putF, if_pos rfl]), t, ls, rfl, sq _, _, rfl, r, C, dx, _, rfl, upd_same, R.cl, R.nT, (by show 1 < 1000; decide), ?_⟩
    rw [upd_upd]
    refine ⟨_, rfl, r, C, dx, _, _, rfl, upd_same, R.cl, R.nL, (by rw [lookup_putF, if_neg n1, lookup_putF, if_pos rfl]), t, ls, rfl, sq _, by omega, fun m hm hx => ?_⟩
    refine ⟨_, _, rfl, rfl, .inl ⟨by decide, by decide⟩, _, rfl, r, C, dx, _, _, rfl, upd_same, R.cl, R.nT, (by rw [lookup_putF, if_pos rfl]), _, _, rfl, rfl, _, rfl, r, C, dx, _, rfl, upd_same, R.cl, R.nC, ?_, ?_⟩
    · have e1 := length_putF "total" (V.int ls.sum) (putF "lengths" (V.ref t) [])
      have e2 := length_putF "lengths" (V.ref t) []
      simp only [List.length_nil] at e2
      omega
    dsimp only
    rw [upd_upd, closes_max hm hx]
    refine ⟨_, rfl, r, C, dx, _, _, rfl, upd_same, R.cl, R.nL, (by rw [lookup_putF, if_neg n2, lookup_putF, if_neg n1, lookup_putF, if_pos rfl]), t, ls, rfl, sq _, l8, fun H5 s5 => ⟨_, rfl, _, rfl, r, C, dx, _, rfl, s5 _ _ upd_same, R.cl, R.nI, ?_, ?_⟩⟩
    · have e1 := length_putF "total" (V.int ls.sum) (putF "lengths" (V.ref t) [])
      have e2 := length_putF "lengths" (V.ref t) []
      have e3 := length_putF "closes" (V.bl (closesB ls)) (putF "total" (V.int ls.sum) (putF "lengths" (V.ref t) []))
      simp only [List.length_nil] at e2
      omega
    · have hff := s5 t _ (by rw [upd_ne nrl]; exact hfn)
      refine q _ ⟨dx, t, upd_same, SqT.own (s5.tup (sq _)) (s5 _ _ upd_same), of, by rw [upd_ne nrl]; exact hff, hdn⟩ fun b o e hbr => ?_
      rw [upd_ne hbr]
      refine s5 _ _ ?_
      rw [upd_ne hbr]
      exact kpn b o e hbr
def spRV (K : PySem.W.Frag) (C : Addr) : Sp := fun vs H Q E => spRI K C vs H Q E ∨ spRIT K C vs H Q E
/-- a new ring is told, all that was tracked stands -/
def NewA (K : PySem.W.Frag) (C : Addr) (ls : List Int) (H : Hp) (Q : VK) : Prop := ∀ r H', RingAt K C H' r ls → Same H H' → H r = none → Q (.ref r) H'
def NewW (K : PySem.W.Frag) (C : Addr) (ls : List Int) (H : Hp) (Q : VK) : Prop := ∀ r H', RingAt K C H' r ls → Same H H' → H r = none → Q (.ref r) H'
theorem NewA.later {C : Addr} {ls : List Int} {H H1 : Hp} {Q : VK} (h : NewA K C ls H Q) (s : Same H H1) : NewA K C ls H1 Q := fun r H' a b c => h r H' a (s.trans b) (s.free c)
theorem NewW.later {C : Addr} {ls : List Int} {H H1 : Hp} {Q : VK} (h : NewW K C ls H Q) (s : Same H H1) : NewW K C ls H1 Q := fun r H' a b c => h r H' a (s.trans b) (s.free c)
theorem madeL {C l : Addr} {E : XK} {H : Hp} {ls : List Int} {R : Addr → VK} (hs : H l = some (.lst (ls.map V.int))) (l3 : 3 ≤ ls.length) (l8 : ls.length ≤ 8) (bd : Bd 1000000 ls) (h : ∀ x, NewA K C ls H (R x)) :
    ∀ x dx, H x = none → H dx = none → dx ≠ x → spRV K C (.ref x :: ([.ref l] ++ [])) (upd (upd H dx (.own x)) x (.ins C dx [])) (fun v H2 => v = .non ∧ R x (.ref x) H2) E := by
  intro x dx hx hdx _
  have s0 : Same H (upd (upd H dx (.own x)) x (.ins C dx [])) := fun b o q => by
    rw [upd_ne (ne_of_none q hx), upd_ne (ne_of_none q hdx)]
    exact q
  exact .inl ⟨x, l, dx, ls, rfl, upd_same, ⟨.base (.lst (s0 _ _ hs)), by decide⟩, SqL.of (s0 _ _ hs), l3, l8, bd, fun H' ring kp => ⟨rfl, h x x H' ring (fun b o e => kp b o (s0 b o e) (ne_of_none e hx)) hx⟩⟩
theorem madeT {C l : Addr} {E : XK} {H : Hp} {ls : List Int} {Q : VK} (hs : ∃ o : Obj, H l = some (.frz o (.tup (ls.map V.int))) ∧ o.dict = none) (hk : Knd K H (.ref l) "tuple") (l3 : 3 ≤ ls.length) (l8 : ls.length ≤ 8) (bd : Bd 1000000 ls) (h : NewW K C ls H Q) :
    ∀ x dx, H x = none → H dx = none → dx ≠ x → spRV K C (.ref x :: ([.ref l] ++ [])) (upd (upd H dx (.own x)) x (.ins C dx [])) (fun v H2 => v = .non ∧ Q (.ref x) H2) E := by
  intro x dx hx hdx _
  have s0 : Same H (upd (upd H dx (.own x)) x (.ins C dx [])) := fun b o q => by
    rw [upd_ne (ne_of_none q hx), upd_ne (ne_of_none q hdx)]
    exact q
  exact .inr ⟨x, l, dx, ls, rfl, upd_same, hk.same s0, (let ⟨o, a, b⟩ := hs; ⟨o, s0 _ _ a, b⟩), l3, l8, bd, fun H' ring kp => ⟨rfl, h x H' ring (fun b o e => kp b o (s0 b o e) (ne_of_none e hx)) hx⟩⟩
/-! ### want_bar, want_number of what is one -/
def spBarV : Sp := fun vs H Q _ => ∃ (v many : Int), vs = [.int v, .int many] ∧ 0 ≤ v ∧ v < many ∧ Q .non H
theorem ok_barV {f fW : Addr} {fd fdW : FuncData} (F : Fun K "want_bar" "want_bar" sWantBar f fd) (W : DefAt P w K mg base CX0 2 "is_within" ["value", "least", "most"] spWithin fW fdW) : FnOk P w K mg base CX0 3 f fd ["value", "many"] spBarV := by
  refine F.ok scWantBar (fun vs H Q E h => ?_) (fun cdv A outer s H vs Q E hr h => ?_)
  · obtain ⟨v, many, rfl, _⟩ := h
    rfl
  · refine ⟨_, pss_one (ps_if (pt_not (pt_val (pe_call W.ok hr rfl W.g W.kp W.b .nil pass0 (pa_cons (pv 0) (pa_cons pe_int (pa_cons (pe_op op_sub (pv 1) pe_int) pa_nil)))))) (pss_one ps_never) pss_nil), ?_⟩
    obtain ⟨v, many, rfl, h0, h1, q⟩ := h
    refine ⟨_, rfl, _, rfl, _, _, rfl, rfl, v, 0, many - 1, rfl, _, rfl, ?_⟩
    refine iteBF ?_ q
    simp only [decide_eq_true h0, decide_eq_true (show v ≤ many - 1 by omega)]
    rfl
def spNumV : Sp := fun vs H Q _ => ∃ (v lo hi : Int) (part : Str), vs = [.int v, .int lo, .int hi, .str part] ∧ lo ≤ v ∧ v ≤ hi ∧ Q .non H
theorem scWantNum : FnScope ["value", "least", "most", "part"] ["value", "least", "most", "part"] (defScope sWantNumber) := ⟨rfl, rfl, rfl, by decide +kernel, rfl, by decide +kernel, by decide +kernel⟩
theorem ok_numV {f fW : Addr} {fd fdW : FuncData} (F : Fun K "want_number" "want_number" sWantNumber f fd) (W : DefAt P w K mg base CX0 2 "is_within" ["value", "least", "most"] spWithin fW fdW) : FnOk P w K mg base CX0 3 f fd ["value", "least", "most", "part"] spNumV := by
  refine F.ok scWantNum (fun vs H Q E h => ?_) (fun cdv A outer s H vs Q E hr h => ?_)
  · obtain ⟨v, lo, hi, part, rfl, _⟩ := h
    rfl
  · refine ⟨_, pss_one (ps_if (pt_not (pt_val (pe_call W.ok hr rfl W.g W.kp W.b .nil pass0 (pa_cons (pv 0) (pa_cons (pv 1) (pa_cons (pv 2) pa_nil)))))) (pss_one ps_never) pss_nil), ?_⟩
    obtain ⟨v, lo, hi, part, rfl, h0, h1, q⟩ := h
    refine ⟨_, rfl, _, rfl, _, rfl, v, lo, hi, rfl, _, rfl, ?_⟩
    refine iteBF ?_ q
    simp only [decide_eq_true h0, decide_eq_true h1]
    rfl
/-! ### with_length, in_order -/
/-- what the methods need -/
structure RingP (P : Program) (w : World) (K : PySem.W.Frag) (mg : Str → Option Value) (base : Heap) (C : Addr) (fI fB fN : Addr) (fdI fdB fdN : FuncData) : Prop where
  made : Mk K C fI
  ok : FnOk P w K mg base CX0 4 fI fdI ["self", "lengths"] (spRV K C)
  b : Binds K fdI ["self", "lengths"] []
  bar : DefAt P w K mg base CX0 3 "want_bar" ["value", "many"] spBarV fB fdB
  num : DefAt P w K mg base CX0 3 "want_number" ["value", "least", "most", "part"] spNumV fN fdN
theorem SqT.knd {H : Hp} {a : Addr} {xs : List V} (h : SqT K H a xs) : Knd K H (.ref a) "tuple" := by
  rcases h with (h | ⟨o, h⟩) | ⟨o, its, n, e, c, _⟩
  · exact ⟨.base (.tup h), by decide⟩
  · exact ⟨.fTuple h, by decide⟩
  · exact ⟨.kTuple e c, by decide⟩
theorem slS {a : Addr} {xs : List V} {lo hi : Option Int} {H : Hp} {Q : VK} (hs : SqT K H a xs) (k : ∀ t H', SqT K H' t (cutV xs lo hi) → Same H H' → Q (.ref t) H') : rSlA K (.ref a) lo hi H Q := by
  refine ⟨a, xs, rfl, hs, fun ⟨e1, e2⟩ => k a H ?_ (Same.refl H), fun _ p hp => k p _ (.inl (.inl upd_same)) ((Same.refl H).new hp)⟩
  unfold cutV
  rw [e1, e2, List.drop_zero, Nat.sub_zero, List.take_length]
  exact hs
theorem catS {a b : Addr} {xs ys : List Int} {H : Hp} {Q : VK} (ha : SqT K H a (xs.map V.int)) (hb : SqT K H b (ys.map V.int)) (hl : xs.length + ys.length ≤ 1000) (k : ∀ t H', SqT K H' t ((xs ++ ys).map V.int) → Same H H' → Q (.ref t) H') : rCatA K (.ref a) (.ref b) H Q := by
  refine ⟨a, b, _, _, rfl, rfl, ha, hb, by rw [List.length_map, List.length_map]; exact Nat.le_of_lt (sm (by omega)), fun e => k b H ?_ (Same.refl H), fun _ e => k a H ?_ (Same.refl H), fun _ _ p hp => k p _ ?_ ((Same.refl H).new hp)⟩
  · rw [List.map_eq_nil_iff.mp e]; exact hb
  · rw [List.map_eq_nil_iff.mp e, List.append_nil]; exact ha
  · exact .inl (.inl (by rw [upd_same, List.map_append]))
theorem sv_to {a : Addr} {ls : List Int} {z : Int} {i : Nat} {H : Hp} {Q : VK} (hs : SqT K H a (ls.map V.int)) (hz : z = (i : Int)) (k : ∀ t H', SqT K H' t ((ls.take i).map V.int) → Same H H' → Q (.ref t) H') : rSlA K (.ref a) none (some z) H Q := by
  subst hz
  refine slS hs fun t H' h s => k t H' ?_ s
  rw [cutV_to, ← List.map_take] at h
  exact h
theorem sv_from {a : Addr} {ls : List Int} {z : Int} {i : Nat} {H : Hp} {Q : VK} (hs : SqT K H a (ls.map V.int)) (hz : z = (i : Int)) (k : ∀ t H', SqT K H' t ((ls.drop i).map V.int) → Same H H' → Q (.ref t) H') : rSlA K (.ref a) (some z) none H Q := by
  refine slS hs fun t H' h s => k t H' ?_ s
  rw [cut_from _ hz, ← List.map_drop] at h
  exact h
theorem cut_mid (xs : List V) {z w : Int} {j k : Nat} (hz : z = (j : Int)) (hw : w = (k : Int)) (hj : j ≤ xs.length) (hk : k ≤ xs.length) : cutV xs (some z) (some w) = (xs.drop j).take (k - j) := by
  subst hz hw
  unfold cutV
  rw [HT.sIx_nat, HT.sIx_nat, Nat.min_eq_left hj, Nat.min_eq_left hk]
theorem sl_mid {a : Addr} {ls : List Int} {z w : Int} {i j : Nat} {H : Hp} {Q : VK} (hs : SqT K H a (ls.map V.int)) (hz : z = (i : Int)) (hw : w = (j : Int)) (hi : i ≤ ls.length) (hj : j ≤ ls.length) (k : ∀ t H', SqT K H' t (((ls.drop i).take (j - i)).map V.int) → Same H H' → Q (.ref t) H') : rSlA K (.ref a) (some z) (some w) H Q := by
  refine slS hs fun t H' h s => k t H' ?_ s
  rw [cut_mid _ hz hw (by rw [List.length_map]; exact hi) (by rw [List.length_map]; exact hj), ← List.map_drop, ← List.map_take] at h
  exact h
theorem sl_to {a : Addr} {ls : List Int} {i : Nat} {H : Hp} {Q : VK} (hs : SqT K H a (ls.map V.int)) (hi : i < ls.length) (k : ∀ t, H t = none → Q (.ref t) (upd H t (.tup ((ls.take i).map V.int)))) : rSlA K (.ref a) none (some (i : Int)) H Q := by
  refine ⟨a, _, rfl, hs, fun ⟨_, e2⟩ => ?_, fun _ p hp => ?_⟩
  · rw [HT.sIx_nat, List.length_map] at e2
    omega
  · rw [cutV_to, ← List.map_take]
    exact k p hp
theorem sl_from {a : Addr} {ls : List Int} {z : Int} {i : Nat} {H : Hp} {Q : VK} (hs : SqT K H a (ls.map V.int)) (hz : z = ((i + 1 : Nat) : Int)) (h0 : 0 < ls.length) (k : ∀ t, H t = none → Q (.ref t) (upd H t (.tup ((ls.drop (i + 1)).map V.int)))) : rSlA K (.ref a) (some z) none H Q := by
  refine ⟨a, _, rfl, hs, fun ⟨e1, _⟩ => ?_, fun _ p hp => ?_⟩
  · subst hz
    rw [HT.sIx_nat, List.length_map] at e1
    omega
  · rw [cut_from _ hz, ← List.map_drop]
    exact k p hp
theorem catI {a b : Addr} {xs ys : List Int} {H : Hp} {Q : VK} (ha : H a = some (.tup (xs.map V.int))) (hb : H b = some (.tup (ys.map V.int))) (hl : xs.length + ys.length ≤ 1000) (k : ∀ t H', H' t = some (.tup ((xs ++ ys).map V.int)) → Same H H' → Q (.ref t) H') : rCatA K (.ref a) (.ref b) H Q := by
  refine ⟨a, b, _, _, rfl, rfl, .inl (.inl ha), .inl (.inl hb), by rw [List.length_map, List.length_map]; exact Nat.le_of_lt (sm (by omega)), fun e => k b H ?_ (Same.refl H), fun _ e => k a H ?_ (Same.refl H), fun _ _ p hp => k p _ ?_ ((Same.refl H).new hp)⟩
  · rw [List.map_eq_nil_iff.mp e]; exact hb
  · rw [List.map_eq_nil_iff.mp e, List.append_nil]; exact ha
  · rw [upd_same, List.map_append]
theorem Bd.rev {m : Int} {a : List Int} (h : Bd m a) : Bd m a.reverse := fun x hx => h x (List.mem_reverse.mp hx)
def oneL (ls : List Int) (i : Nat) : List Int := if i + 1 = ls.length then [ls.getD i 0 + ls.getD 0 0] ++ (ls.drop 1).take (i - 1) else ls.take i ++ [ls.getD i 0 + ls.getD (i + 1) 0] ++ ls.drop (i + 2)
def twoL (ls : List Int) (i : Nat) (z : Int) : List Int := ls.take i ++ [z, ls.getD i 0 - z] ++ ls.drop (i + 1)
theorem oneL_len {ls : List Int} {i : Nat} (h : i < ls.length) (h2 : 2 ≤ ls.length) : (oneL ls i).length + 1 = ls.length := by
  unfold oneL
  split
  · simp only [List.length_append, List.length_take, List.length_drop, List.length_singleton]; omega
  · simp only [List.length_append, List.length_take, List.length_drop, List.length_singleton]; omega
theorem twoL_len {ls : List Int} {i : Nat} {z : Int} (h : i < ls.length) : (twoL ls i z).length = ls.length + 1 := by
  unfold twoL
  simp only [List.length_append, List.length_take, List.length_drop, List.length_cons, List.length_nil]; omega
def backL (ls : List Int) : List Int := ls.take 1 ++ (ls.drop 1).reverse
theorem backL_len (ls : List Int) : (backL ls).length = ls.length := by
  unfold backL
  rw [List.length_append, List.length_take, List.length_reverse, List.length_drop]; omega
theorem Bd.back {m : Int} {ls : List Int} (h : Bd m ls) : Bd m (backL ls) := (h.take 1).app (Bd.rev (h.drop 1))
def FzT (H : Hp) (a : Addr) (xs : List V) : Prop := ∃ o : Obj, H a = some (.frz o (.tup xs)) ∧ o.dict = none
theorem catSF {a b : Addr} {xs ys : List Int} {H : Hp} {Q : VK} (ha : SqT K H a (xs.map V.int)) (hb : SqT K H b (ys.map V.int)) (hx : xs ≠ []) (hl : xs.length + ys.length ≤ 1000) (hz : ys = [] → FzT H a (xs.map V.int)) (k : ∀ t H', FzT H' t ((xs ++ ys).map V.int) → Same H H' → Q (.ref t) H') : rCatF K (.ref a) (.ref b) H Q := by
  refine ⟨a, b, _, _, rfl, rfl, ha, hb, fun z => hx (List.map_eq_nil_iff.mp z), by rw [List.length_map, List.length_map]; exact Nat.le_of_lt (sm (by omega)), fun e => ?_, fun _ p oj hp hd => ?_⟩
  · have e' := List.map_eq_nil_iff.mp e
    refine k a H ?_ (Same.refl H)
    rw [e', List.append_nil]
    exact hz e'
  · refine k p _ ⟨oj, ?_, hd⟩ ((Same.refl H).new hp)
    rw [upd_same, List.map_append]
theorem sv_fromF {a : Addr} {ls : List Int} {i : Nat} {H : Hp} {Q : VK} (hs : SqT K H a (ls.map V.int)) (hf : FzT H a (ls.map V.int)) (hi : i < ls.length) (k : ∀ t H', SqT K H' t ((ls.drop i).map V.int) → (i = 0 → FzT H' t ((ls.drop i).map V.int)) → Same H H' → Q (.ref t) H') : rSlA K (.ref a) (some (i : Int)) none H Q := by
  refine ⟨a, _, rfl, hs, fun ⟨e, _⟩ => ?_, fun nw p hp => ?_⟩
  · rw [HT.sIx_nat, List.length_map] at e
    have i0 : i = 0 := by omega
    subst i0
    exact k a H hs (fun _ => hf) (Same.refl H)
  · rw [cut_from _ rfl, ← List.map_drop]
    refine k p _ (.inl (.inl upd_same)) (fun z => ?_) ((Same.refl H).new hp)
    subst z
    refine absurd ⟨?_, ?_⟩ nw
    · rw [HT.sIx_nat]; simp
    · rw [HT.sIx_none]
def spBegun (K : PySem.W.Frag) (C : Addr) : Sp := fun vs H Q _ => ∃ (r : Addr) (i : Nat) (ls : List Int), vs = [.ref r, .int i] ∧ RingAt K C H r ls ∧ 3 ≤ ls.length ∧ ls.length ≤ 8 ∧ Bd 1000000 ls ∧ i < ls.length ∧ NewW K C (ls.drop i ++ ls.take i) H Q
theorem scBegun : FnScope ["self", "bar"] ["self", "bar"] (defScope sRingBegunAt) := ⟨rfl, rfl, rfl, by decide +kernel, rfl, by decide +kernel, by decide +kernel⟩
theorem ok_begun {C f fI fB fN : Addr} {fd fdI fdB fdN : FuncData} (F : Fun K "begun_at" "Ring.begun_at" sRingBegunAt f fd) (T : Bi mg) (R : RingC K mg C) (G : RingP P w K mg base C fI fB fN fdI fdB fdN) : FnOk P w K mg base CX0 6 f fd ["self", "bar"] (spBegun K C) := by
  refine F.ok scBegun (fun vs H Q E h => ?_) (fun cdv A outer s H vs Q E hr h => ?_)
  · obtain ⟨r, i, ls, rfl, _⟩ := h
    rfl
  · refine ⟨_, pss_cons (ps_expr (pe_call G.bar.ok (hr.mono (by decide)) rfl G.bar.g G.bar.kp G.bar.b .nil pass0 (pa_cons (pv 1) (pa_cons (pe_callB call_len_seq (by rfl) T.len PySem.boot_len (pa_cons (pe_fld (pv 0) rfl) pa_nil)) pa_nil))))
      (pss_one (ps_ret (pe_make G.made G.ok hr (by rfl) R.g G.b .nil pass0 (pa_cons (pe_op op_catF (pe_slice sl_tupA (pe_fld (pv 0) rfl) (po_some (pv 1)) po_none) (pe_slice sl_tupA (pe_fld (pv 0) rfl) po_none (po_some (pv 1)))) pa_nil)))), ?_⟩
    obtain ⟨r, i, ls, rfl, ⟨dx, t, hr0, ht, hfz⟩, l3, l8, bd, hi, q⟩ := h
    refine ⟨_, rfl, _, rfl, r, C, dx, _, _, rfl, hr0, R.cl, R.nL, rf_lengths _ _, t, _, rfl, .inr ht, i, ls.length, by rw [List.length_map]; rfl, by omega, by omega, ?_⟩
    refine ⟨_, rfl, r, C, dx, _, _, rfl, hr0, R.cl, R.nL, rf_lengths _ _, _, rfl, _, rfl, ?_⟩
    dsimp only [tNoPart]
    refine sv_fromF ht hfz hi fun t1 H1 h1 f1 s1 => ?_
    refine ⟨_, rfl, r, C, dx, _, _, rfl, s1 _ _ hr0, R.cl, R.nL, rf_lengths _ _, _, rfl, _, rfl, sv_to (s1.tup ht) rfl fun t2 H2 h2 s2 => ?_⟩
    refine catSF (xs := ls.drop i) (ys := ls.take i) (s2.tup h1) h2 (fun z => by have := congrArg List.length z; rw [List.length_drop, List.length_nil] at this; omega) (by rw [List.length_take, List.length_drop]; omega) (fun z => ?_) fun t3 H3 h3 s3 => ?_
    · have i0 : i = 0 := by have := congrArg List.length z; rw [List.length_take, List.length_nil] at this; omega
      obtain ⟨o, a1, a2⟩ := f1 i0
      exact ⟨o, s2 _ _ a1, a2⟩
    have h3' : SqT K H3 t3 ((ls.drop i ++ ls.take i).map V.int) := let ⟨o, a1, _⟩ := h3; .inl (.inr ⟨o, a1⟩)
    refine madeT h3 (SqT.knd h3') ?_ ?_ ((bd.drop i).app (bd.take i)) (q.later ((s1.trans s2).trans s3))
    · rw [List.length_append, List.length_take, List.length_drop]; omega
    · rw [List.length_append, List.length_take, List.length_drop]; omega
end
end T
end K
namespace K
namespace T1
open PySem L2 Rg
open Evl (pss_cut)
theorem Bd.app {m : Int} {a b : List Int} (h : Bd m a) (k : Bd m b) : Bd m (a ++ b) := fun x hx => (List.mem_append.mp hx).elim (h x) (k x)
theorem Bd.take {m : Int} {a : List Int} (i : Nat) (h : Bd m a) : Bd m (a.take i) := fun x hx => h x (List.mem_of_mem_take hx)
theorem Bd.drop {m : Int} {a : List Int} (i : Nat) (h : Bd m a) : Bd m (a.drop i) := fun x hx => h x (List.mem_of_mem_drop hx)
theorem Bd.one {m x : Int} (h1 : 1 ≤ x) (h2 : x ≤ m) : Bd m [x] := fun y hy => by rw [List.mem_singleton.mp hy]; exact ⟨h1, h2⟩
theorem getD_mem {ls : List Int} {i : Nat} (h : i < ls.length) : ls.getD i 0 ∈ ls := by
  rw [List.getD_eq_getElem?_getD, List.getElem?_eq_getElem h]
  exact List.getElem_mem h
theorem Bd.get {m : Int} {ls : List Int} (h : Bd m ls) {i : Nat} (hi : i < ls.length) : 1 ≤ ls.getD i 0 ∧ ls.getD i 0 ≤ m := h _ (getD_mem hi)
theorem cut_from (xs : List V) {z : Int} {k : Nat} (hz : z = (k : Int)) : cutV xs (some z) none = xs.drop k := by
  subst hz
  unfold cutV
  rw [HT.sIx_nat, HT.sIx_none]
  by_cases h : k ≤ xs.length
  · rw [Nat.min_eq_left h, List.take_of_length_le (by rw [List.length_drop]; omega)]
  · rw [Nat.min_eq_right (by omega), List.drop_eq_nil_of_le (Nat.le_refl _), List.drop_eq_nil_of_le (show xs.length ≤ k by omega), List.take_nil]
theorem getL {ls : List Int} {z : Int} {i : Nat} (hz : z = (i : Int)) (h1 : i < ls.length) : atI (ls.map V.int) z = some (V.int (ls.getD i 0)) := by
  subst hz
  have h : (ls.map V.int)[i]? = some (V.int (ls.getD i 0)) := by rw [int_get h1, List.getD_eq_getElem?_getD, List.getElem?_eq_getElem h1]; rfl
  exact atI_nat h
theorem natB_len (n : Nat) : (natB (List.range n)).length = n := by unfold natB; rw [List.length_map, List.length_range]
theorem natB_sorted (n : Nat) : (natB (List.range n)).Pairwise (· ≤ ·) := by
  unfold natB
  rw [List.pairwise_map]
  exact List.pairwise_lt_range.imp fun h => by omega
theorem sorted_eq {a b : List Int} (p : a.Perm b) (ha : a.Pairwise (· ≤ ·)) (hb : b.Pairwise (· ≤ ·)) : a = b := List.Perm.eq_of_pairwise (fun x y _ _ h1 h2 => Int.le_antisymm h1 h2) ha hb p
theorem natB_mem {n : Nat} {x : Int} (h : x ∈ natB (List.range n)) : 0 ≤ x ∧ x < n := by
  obtain ⟨j, hj, rfl⟩ := List.mem_map.mp h
  have := List.mem_range.mp hj
  omega
def ordL (ls ns : List Int) : List Int := ns.map fun b => ls.getD b.toNat 0
theorem ordL_take {ls ns : List Int} {i : Nat} {z : Int} (h : ns[i]? = some z) : ordL ls (ns.take (i + 1)) = ordL ls (ns.take i) ++ [ls.getD z.toNat 0] := by
  unfold ordL
  rw [← take_snoc h, List.map_append]
  rfl
theorem ordL_len (ls ns : List Int) : (ordL ls ns).length = ns.length := List.length_map ..
theorem ordL_bd {ls ns : List Int} {m : Int} (b : Bd m ls) (p : ns.Perm (natB (List.range ls.length))) : Bd m (ordL ls ns) := fun x hx => by
  obtain ⟨z, hz, rfl⟩ := List.mem_map.mp hx
  have := natB_mem (p.mem_iff.mp hz)
  exact b.get (by omega)
theorem get_z {ls : List Int} {z : Int} (h0 : 0 ≤ z) (h1 : z < ls.length) : atI (ls.map V.int) z = some (V.int (ls.getD z.toNat 0)) := getL (i := z.toNat) (by omega) (by omega)
theorem eqvA_pd (a b : List Int) : PyData.eqv (.list (a.map PyData.int)) (.list (b.map PyData.int)) = decide (a = b) := by
  simp [PyData.eqv, Rg.eqvA_ints8]
section
variable {P : Program} {w : World} {K : PySem.W.Frag} {mg : Str → Option Value} {base : Heap}
theorem SqT.own {C dx r t : Addr} {fs : List (Str × V)} {H : Hp} {xs : List V} {u : HO} (h : SqT K H t xs) (hr : H r = some (.ins C dx fs)) : SqT K (upd H r u) t xs := by
  rcases h with (h | ⟨o, h⟩) | h
  · exact .inl (.inl (by rw [upd_ne fun z => by rw [z, hr] at h; cases h]; exact h))
  · exact .inl (.inr ⟨o, by rw [upd_ne fun z => by rw [z, hr] at h; cases h]; exact h⟩)
  · exact .inr h
theorem RingW.same {C : Addr} {H H' : Hp} {r : Addr} {ls : List Int} (h : RingW K C H r ls) (s : Same H H') : RingW K C H' r ls := by
  obtain ⟨dx, t, h1, h2⟩ := h
  exact ⟨dx, t, s _ _ h1, s.tup h2⟩
/-! ### a Ring of a tuple -/
def spAreT (K : PySem.W.Frag) : Sp := fun vs H Q _ => ∃ (a : Addr) (ls : List Int), vs = [.ref a] ∧ Knd K H (.ref a) "tuple" ∧ SqT K H a (ls.map V.int) ∧ ls.length ≤ 1000 ∧ Bd 1000000 ls ∧ ∀ H', Same H H' → Q (.bl true) H'
theorem ok_areT {f fW fL : Addr} {fd fdW fdL : FuncData} (F : Fun K "are_lengths" "are_lengths" sAreLengths f fd) (T : Bi mg) (N : Nm mg) (W : DefAt P w K mg base CX0 2 "is_within" ["value", "least", "most"] spWithin fW fdW) (L : DefAt P w K mg base CX0 1 "is_list" ["value"] (spIsList K) fL fdL) : FnOk P w K mg base CX0 3 f fd ["value"] (spAreT K) := by
  refine F.ok scAreL (fun vs H Q E h => ?_) (fun cdv A outer s H vs Q E hr h => ?_)
  · obtain ⟨a, ls, rfl, _⟩ := h
    rfl
  · obtain ⟨tM, hM⟩ := N.mostL
    refine ⟨_, pss_one (ps_ret (pe_and (pe_call L.ok (hr.mono (by decide)) rfl L.g L.kp L.b .nil pass0 (pa_cons (pv 0) pa_nil)) (pe_one (pe_callB (cr_all rfl) (by rfl) T.all (by decide +kernel) (pa_cons (pe_lc (own := [("one", 1)]) (g := gName 1) (tt := tYes) rfl scAreL.nd (pi_tup (pv 0))
      (blkOk_by (N := nAreL) (sc := defScope sAreLengths) (by decide +kernel)) (fun _ _ _ _ _ => pg_name (i := 1) scAreL.nd rfl (Or.inl rfl)) (fun _ _ _ _ _ => pts_nil) (fun _ _ _ _ _ => pe_call W.ok hr rfl W.g W.kp W.b .nil pass0 (pa_cons (pv 1) (pa_cons pe_int (pa_cons (pe_glob (v := .int 1000000) rfl hM ⟨_, rfl⟩) pa_nil))))) pa_nil))))), ?_⟩
    obtain ⟨a, ls, rfl, hk, hs, hl, hb, q⟩ := h
    refine ⟨_, rfl, _, "tuple", rfl, hk, fun H1 s1 => ⟨_, rfl, iteDT (.inr rfl) ?_⟩⟩
    refine ⟨_, rfl, a, rfl, ⟨_, s1.tup hs⟩, fun D hD => ?_⟩
    have hD0 := s1.free hD
    refine lc_tup (K := K) (a := a) (xs := ls.map V.int) (fun i H' => Same H H' ∧ ∃ bs : List Bool, (∀ b ∈ bs, b = true) ∧ bs.length ≤ i ∧ H' D = some (.lst (bs.map V.bl))) ⟨s1.new hD, [], (fun b hb => nomatch hb), Nat.le_refl _, upd_same⟩ (fun i H' _ p => p.1.tup hs) ?_ ?_
    · rintro i x H' hi ⟨s2, bs, h1, h2, h3⟩
      obtain ⟨z, hz, rfl⟩ := int_at hi
      have hil : i < ls.length := (List.getElem?_eq_some_iff.mp hz).1
      have hzb := hb z (List.mem_of_getElem? hz)
      refine ⟨rfl, _, rfl, z, 1, 1000000, rfl, _, h3, (by rw [List.length_map]; exact sm (by omega)), s2.mut hD0, bs ++ [true], fun b hb => ?_, by rw [List.length_append, List.length_singleton]; omega, ?_⟩
      · rcases List.mem_append.mp hb with m | m
        · exact h1 b m
        · exact List.mem_singleton.mp m
      · rw [upd_same, List.map_append, decide_eq_true hzb.1, decide_eq_true hzb.2]
        rfl
    · rintro H' ⟨s2, bs, h1, h2, h3⟩
      refine ⟨D, bs, rfl, SqL.of h3, ?_⟩
      rw [all_true h1]
      exact q H' s2
def spRIT (K : PySem.W.Frag) (C : Addr) : Sp := fun vs H Q _ => ∃ (r l dx : Addr) (ls : List Int), vs = [.ref r, .ref l] ∧ H r = some (.ins C dx []) ∧ Knd K H (.ref l) "tuple" ∧ SqT K H l (ls.map V.int) ∧ 3 ≤ ls.length ∧ ls.length ≤ 8 ∧ Bd 1000000 ls ∧
  ∀ H', RingW K C H' r ls → (∀ b o, H b = some o → b ≠ r → H' b = some o) → Q .non H'
theorem ok_riT {C f fA fH : Addr} {fd fdA fdH : FuncData} (F : Fun K "__init__" "Ring.__init__" sRingInit f fd) (T : Bi mg) (N : Nm mg) (R : RingC K mg C) (A' : DefAt P w K mg base CX0 3 "are_lengths" ["value"] (spAreT K) fA fdA) (L : DefAt P w K mg base CX0 2 "has_level" ["lengths"] (spHasL K) fH fdH) : FnOk P w K mg base CX0 4 f fd ["self", "lengths"] (spRIT K C) := by
  refine F.ok scRI (fun vs H Q E h => ?_) (fun cdv A outer s H vs Q E hr h => ?_)
  · obtain ⟨r, l, dx, ls, rfl, _⟩ := h
    rfl
  · obtain ⟨t3, h3⟩ := N.leastB
    obtain ⟨t8, h8⟩ := N.mostB
    refine ⟨_, pss_cons (ps_if (pt_not (pt_val (pe_call A'.ok hr rfl A'.g A'.kp A'.b .nil pass0 (pa_cons (pv 1) pa_nil)))) (pss_one ps_never) pss_nil)
      (pss_cons (ps_if (pt_cmpR op_lt (pe_callB call_len_seq (by rfl) T.len PySem.boot_len (pa_cons (pv 1) pa_nil)) (pe_glob (v := .int 3) rfl h3 ⟨_, rfl⟩) (nomark _)) (pss_one ps_never) pss_nil)
      (pss_cons (ps_if (pt_cmpR op_gt (pe_callB call_len_seq (by rfl) T.len PySem.boot_len (pa_cons (pv 1) pa_nil)) (pe_glob (v := .int 8) rfl h8 ⟨_, rfl⟩) (nomark _)) (pss_one ps_never) pss_nil)
      (pss_cons (ps_fld (pv 0) (pe_callTy call_tuple_of (by rfl) T.tuple (by decide +kernel) (pa_cons (pv 1) pa_nil)) rfl)
      (pss_cons (ps_fld (pv 0) (pe_callB (cr_sumT rfl) (by rfl) T.sum (by decide +kernel) (pa_cons (pe_fld (pv 0) rfl) pa_nil)) rfl)
      (pss_cons (ps_fld (pv 0) (pe_cmpR op_le (pe_op op_mul pe_int (pe_callB (cr_maxT rfl) (by rfl) T.max (by decide +kernel) (pa_cons (pe_fld (pv 0) rfl) pa_nil))) (pe_fld (pv 0) rfl) (nomark _)) rfl)
      (pss_one (ps_fld (pv 0) (pe_not (pe_call L.ok (hr.mono (by decide)) rfl L.g L.kp L.b .nil pass0 (pa_cons (pe_fld (pv 0) rfl) pa_nil))) rfl))))))), ?_⟩
    obtain ⟨r, l, dx, ls, rfl, hr0, hk, hs, l3, l8, hb, q⟩ := h
    refine ⟨_, rfl, l, ls, rfl, hk, hs, by omega, hb, fun H1 s1 => ⟨_, rfl, iteF ?_⟩⟩
    have hs1 := s1.tup hs
    refine ⟨_, rfl, l, _, rfl, .inr hs1, _, _, rfl, rfl, _, rfl, iteDF (by rw [List.length_map]; omega) ?_⟩
    refine ⟨_, rfl, l, _, rfl, .inr hs1, _, _, rfl, rfl, _, rfl, iteDF (by rw [List.length_map]; omega) ?_⟩
    have hr1' := s1 _ _ hr0
    have kp1 : ∀ b o, H b = some o → b ≠ r → H1 b = some o := fun b o e _ => s1 b o e
    refine ⟨_, rfl, l, _, rfl, .inr ⟨hs1, ?_⟩⟩
    obtain ⟨t, et⟩ : ∃ t, t = l := ⟨_, rfl⟩
    subst et
    have hrn := hr1'
    have hsn := hs1
    have kpn := kp1
    generalize H1 = Hn at hrn hsn kpn ⊢
    have sq : ∀ u, SqT K (upd Hn r u) t (ls.map V.int) := fun u => SqT.own hsn hrn
    refine ⟨_, rfl, r, C, dx, [], rfl, hrn, R.cl, R.nL, (by show 0 < 1000; decide), ?_⟩
    refine ⟨_, rfl, r, C, dx, _, _, rfl, upd_same, R.cl, R.nL, (by rw [lookup_putF, if_pos rfl]), t, ls, rfl, sq _, _, rfl, r, C, dx, _, rfl, upd_same, R.cl, R.nT, (by show 1 < 1000; decide), ?_⟩
    rw [upd_upd]
    refine ⟨_, rfl, r, C, dx, _, _, rfl, upd_same, R.cl, R.nL, (by rw [lookup_putF, if_neg n1, lookup_putF, if_pos rfl]), t, ls, rfl, sq _, by omega, fun m hm hx => ?_⟩
    refine ⟨_, _, rfl, rfl, .inl ⟨by decide, by decide⟩, _, rfl, r, C, dx, _, _, rfl, upd_same, R.cl, R.nT, (by rw [lookup_putF, if_pos rfl]), _, _, rfl, rfl, _, rfl, r, C, dx, _, rfl, upd_same, R.cl, R.nC, ?_, ?_⟩
    · have e1 := length_putF "total" (V.int ls.sum) (putF "lengths" (V.ref t) [])
      have e2 := length_putF "lengths" (V.ref t) []
      simp only [List.length_nil] at e2
      omega
    dsimp only
    rw [upd_upd, closes_max hm hx]
    refine ⟨_, rfl, r, C, dx, _, _, rfl, upd_same, R.cl, R.nL, (by rw [lookup_putF, if_neg n2, lookup_putF, if_neg n1, lookup_putF, if_pos rfl]), t, ls, rfl, sq _, l8, fun H5 s5 => ⟨_, rfl, _, rfl, r, C, dx, _, rfl, s5 _ _ upd_same, R.cl, R.nI, ?_, ?_⟩⟩
    · have e1 := length_putF "total" (V.int ls.sum) (putF "lengths" (V.ref t) [])
      have e2 := length_putF "lengths" (V.ref t) []
      have e3 := length_putF "closes" (V.bl (closesB ls)) (putF "total" (V.int ls.sum) (putF "lengths" (V.ref t) []))
      simp only [List.length_nil] at e2
      omega
    · refine q _ ⟨dx, t, upd_same, SqT.own (s5.tup (sq _)) (s5 _ _ upd_same)⟩ fun b o e hbr => ?_
      rw [upd_ne hbr]
      refine s5 _ _ ?_
      rw [upd_ne hbr]
      exact kpn b o e hbr
def spRV (K : PySem.W.Frag) (C : Addr) : Sp := fun vs H Q E => spRI K C vs H Q E ∨ spRIT K C vs H Q E
/-- a new ring is told, all that was tracked stands -/
def NewA (K : PySem.W.Frag) (C : Addr) (ls : List Int) (H : Hp) (Q : VK) : Prop := ∀ r H', RingAt K C H' r ls → Same H H' → H r = none → Q (.ref r) H'
def NewW (K : PySem.W.Frag) (C : Addr) (ls : List Int) (H : Hp) (Q : VK) : Prop := ∀ r H', RingW K C H' r ls → Same H H' → H r = none → Q (.ref r) H'
theorem NewA.later {C : Addr} {ls : List Int} {H H1 : Hp} {Q : VK} (h : NewA K C ls H Q) (s : Same H H1) : NewA K C ls H1 Q := fun r H' a b c => h r H' a (s.trans b) (s.free c)
theorem NewW.later {C : Addr} {ls : List Int} {H H1 : Hp} {Q : VK} (h : NewW K C ls H Q) (s : Same H H1) : NewW K C ls H1 Q := fun r H' a b c => h r H' a (s.trans b) (s.free c)
theorem madeL {C l : Addr} {E : XK} {H : Hp} {ls : List Int} {R : Addr → VK} (hs : H l = some (.lst (ls.map V.int))) (l3 : 3 ≤ ls.length) (l8 : ls.length ≤ 8) (bd : Bd 1000000 ls) (h : ∀ x, NewA K C ls H (R x)) :
    ∀ x dx, H x = none → H dx = none → dx ≠ x → spRV K C (.ref x :: ([.ref l] ++ [])) (upd (upd H dx (.own x)) x (.ins C dx [])) (fun v H2 => v = .non ∧ R x (.ref x) H2) E := by
  intro x dx hx hdx _
  have s0 : Same H (upd (upd H dx (.own x)) x (.ins C dx [])) := fun b o q => by
    rw [upd_ne (ne_of_none q hx), upd_ne (ne_of_none q hdx)]
    exact q
  exact .inl ⟨x, l, dx, ls, rfl, upd_same, ⟨.base (.lst (s0 _ _ hs)), by decide⟩, SqL.of (s0 _ _ hs), l3, l8, bd, fun H' ring kp => ⟨rfl, h x x H' ring (fun b o e => kp b o (s0 b o e) (ne_of_none e hx)) hx⟩⟩
theorem madeT {C l : Addr} {E : XK} {H : Hp} {ls : List Int} {R : Addr → VK} (hs : H l = some (.tup (ls.map V.int))) (l3 : 3 ≤ ls.length) (l8 : ls.length ≤ 8) (bd : Bd 1000000 ls) (h : ∀ x, NewW K C ls H (R x)) :
    ∀ x dx, H x = none → H dx = none → dx ≠ x → spRV K C (.ref x :: ([.ref l] ++ [])) (upd (upd H dx (.own x)) x (.ins C dx [])) (fun v H2 => v = .non ∧ R x (.ref x) H2) E := by
  intro x dx hx hdx _
  have s0 : Same H (upd (upd H dx (.own x)) x (.ins C dx [])) := fun b o q => by
    rw [upd_ne (ne_of_none q hx), upd_ne (ne_of_none q hdx)]
    exact q
  exact .inr ⟨x, l, dx, ls, rfl, upd_same, ⟨.base (.tup (s0 _ _ hs)), by decide⟩, .inl (.inl (s0 _ _ hs)), l3, l8, bd, fun H' ring kp => ⟨rfl, h x x H' ring (fun b o e => kp b o (s0 b o e) (ne_of_none e hx)) hx⟩⟩
/-! ### want_bar, want_number of what is one -/
def spBarV : Sp := fun vs H Q _ => ∃ (v many : Int), vs = [.int v, .int many] ∧ 0 ≤ v ∧ v < many ∧ Q .non H
theorem ok_barV {f fW : Addr} {fd fdW : FuncData} (F : Fun K "want_bar" "want_bar" sWantBar f fd) (W : DefAt P w K mg base CX0 2 "is_within" ["value", "least", "most"] spWithin fW fdW) : FnOk P w K mg base CX0 3 f fd ["value", "many"] spBarV := by
  refine F.ok scWantBar (fun vs H Q E h => ?_) (fun cdv A outer s H vs Q E hr h => ?_)
  · obtain ⟨v, many, rfl, _⟩ := h
    rfl
  · refine ⟨_, pss_one (ps_if (pt_not (pt_val (pe_call W.ok hr rfl W.g W.kp W.b .nil pass0 (pa_cons (pv 0) (pa_cons pe_int (pa_cons (pe_op op_sub (pv 1) pe_int) pa_nil)))))) (pss_one ps_never) pss_nil), ?_⟩
    obtain ⟨v, many, rfl, h0, h1, q⟩ := h
    refine ⟨_, rfl, _, rfl, _, _, rfl, rfl, v, 0, many - 1, rfl, _, rfl, ?_⟩
    refine iteBF ?_ q
    simp only [decide_eq_true h0, decide_eq_true (show v ≤ many - 1 by omega)]
    rfl
def spNumV : Sp := fun vs H Q _ => ∃ (v lo hi : Int) (part : Str), vs = [.int v, .int lo, .int hi, .str part] ∧ lo ≤ v ∧ v ≤ hi ∧ Q .non H
theorem scWantNum : FnScope ["value", "least", "most", "part"] ["value", "least", "most", "part"] (defScope sWantNumber) := ⟨rfl, rfl, rfl, by decide +kernel, rfl, by decide +kernel, by decide +kernel⟩
theorem ok_numV {f fW : Addr} {fd fdW : FuncData} (F : Fun K "want_number" "want_number" sWantNumber f fd) (W : DefAt P w K mg base CX0 2 "is_within" ["value", "least", "most"] spWithin fW fdW) : FnOk P w K mg base CX0 3 f fd ["value", "least", "most", "part"] spNumV := by
  refine F.ok scWantNum (fun vs H Q E h => ?_) (fun cdv A outer s H vs Q E hr h => ?_)
  · obtain ⟨v, lo, hi, part, rfl, _⟩ := h
    rfl
  · refine ⟨_, pss_one (ps_if (pt_not (pt_val (pe_call W.ok hr rfl W.g W.kp W.b .nil pass0 (pa_cons (pv 0) (pa_cons (pv 1) (pa_cons (pv 2) pa_nil)))))) (pss_one ps_never) pss_nil), ?_⟩
    obtain ⟨v, lo, hi, part, rfl, h0, h1, q⟩ := h
    refine ⟨_, rfl, _, rfl, _, rfl, v, lo, hi, rfl, _, rfl, ?_⟩
    refine iteBF ?_ q
    simp only [decide_eq_true h0, decide_eq_true h1]
    rfl
/-! ### with_length, in_order -/
/-- what the methods need -/
structure RingP (P : Program) (w : World) (K : PySem.W.Frag) (mg : Str → Option Value) (base : Heap) (C : Addr) (fI fB fN : Addr) (fdI fdB fdN : FuncData) : Prop where
  made : Mk K C fI
  ok : FnOk P w K mg base CX0 4 fI fdI ["self", "lengths"] (spRV K C)
  b : Binds K fdI ["self", "lengths"] []
  bar : DefAt P w K mg base CX0 3 "want_bar" ["value", "many"] spBarV fB fdB
  num : DefAt P w K mg base CX0 3 "want_number" ["value", "least", "most", "part"] spNumV fN fdN
theorem sl_to {a : Addr} {ls : List Int} {i : Nat} {H : Hp} {Q : VK} (hs : SqT K H a (ls.map V.int)) (hi : i < ls.length) (k : ∀ t, H t = none → Q (.ref t) (upd H t (.tup ((ls.take i).map V.int)))) : rSlA K (.ref a) none (some (i : Int)) H Q := by
  refine ⟨a, _, rfl, hs, fun ⟨_, e2⟩ => ?_, fun _ p hp => ?_⟩
  · rw [HT.sIx_nat, List.length_map] at e2
    omega
  · rw [cutV_to, ← List.map_take]
    exact k p hp
theorem sl_from {a : Addr} {ls : List Int} {z : Int} {i : Nat} {H : Hp} {Q : VK} (hs : SqT K H a (ls.map V.int)) (hz : z = ((i + 1 : Nat) : Int)) (h0 : 0 < ls.length) (k : ∀ t, H t = none → Q (.ref t) (upd H t (.tup ((ls.drop (i + 1)).map V.int)))) : rSlA K (.ref a) (some z) none H Q := by
  refine ⟨a, _, rfl, hs, fun ⟨e1, _⟩ => ?_, fun _ p hp => ?_⟩
  · subst hz
    rw [HT.sIx_nat, List.length_map] at e1
    omega
  · rw [cut_from _ hz, ← List.map_drop]
    exact k p hp
theorem catI {a b : Addr} {xs ys : List Int} {H : Hp} {Q : VK} (ha : H a = some (.tup (xs.map V.int))) (hb : H b = some (.tup (ys.map V.int))) (hl : xs.length + ys.length ≤ 1000) (k : ∀ t H', H' t = some (.tup ((xs ++ ys).map V.int)) → Same H H' → Q (.ref t) H') : rCatA K (.ref a) (.ref b) H Q := by
  refine ⟨a, b, _, _, rfl, rfl, .inl (.inl ha), .inl (.inl hb), by rw [List.length_map, List.length_map]; exact Nat.le_of_lt (sm (by omega)), fun e => k b H ?_ (Same.refl H), fun _ e => k a H ?_ (Same.refl H), fun _ _ p hp => k p _ ?_ ((Same.refl H).new hp)⟩
  · rw [List.map_eq_nil_iff.mp e]; exact hb
  · rw [List.map_eq_nil_iff.mp e, List.append_nil]; exact ha
  · rw [upd_same, List.map_append]
def spWith (K : PySem.W.Frag) (C : Addr) : Sp := fun vs H Q _ => ∃ (r : Addr) (i : Nat) (z : Int) (ls : List Int), vs = [.ref r, .int i, .int z] ∧ RingW K C H r ls ∧ 3 ≤ ls.length ∧ ls.length ≤ 8 ∧ Bd 1000000 ls ∧ i < ls.length ∧ 1 ≤ z ∧ z ≤ 1000000 ∧ NewW K C (ls.take i ++ [z] ++ ls.drop (i + 1)) H Q
theorem scWith : FnScope ["self", "bar", "length"] ["self", "bar", "length"] (defScope sRingWithLength) := ⟨rfl, rfl, rfl, by decide +kernel, rfl, by decide +kernel, by decide +kernel⟩
theorem ok_with {C f fI fB fN : Addr} {fd fdI fdB fdN : FuncData} (F : Fun K "with_length" "Ring.with_length" sRingWithLength f fd) (T : Bi mg) (N : Nm mg) (R : RingC K mg C) (G : RingP P w K mg base C fI fB fN fdI fdB fdN) : FnOk P w K mg base CX0 6 f fd ["self", "bar", "length"] (spWith K C) := by
  refine F.ok scWith (fun vs H Q E h => ?_) (fun cdv A outer s H vs Q E hr h => ?_)
  · obtain ⟨r, i, z, ls, rfl, _⟩ := h
    rfl
  · obtain ⟨tM, hM⟩ := N.mostL
    refine ⟨_, pss_cons (ps_expr (pe_call G.bar.ok (hr.mono (by decide)) rfl G.bar.g G.bar.kp G.bar.b .nil pass0 (pa_cons (pv 1) (pa_cons (pe_callB call_len_seq (by rfl) T.len PySem.boot_len (pa_cons (pe_fld (pv 0) rfl) pa_nil)) pa_nil))))
      (pss_cons (ps_expr (pe_call G.num.ok (hr.mono (by decide)) rfl G.num.g G.num.kp G.num.b .nil pass0 (pa_cons (pv 2) (pa_cons pe_int (pa_cons (pe_glob (v := .int 1000000) rfl hM ⟨_, rfl⟩) (pa_cons pe_str pa_nil))))))
      (pss_one (ps_ret (pe_make G.made G.ok hr (by rfl) R.g G.b .nil pass0 (pa_cons (pe_op op_catA (pe_op op_catA (pe_slice sl_tupA (pe_fld (pv 0) rfl) po_none (po_some (pv 1))) (pe_tup (pa_cons (pv 2) pa_nil))) (pe_slice sl_tupA (pe_fld (pv 0) rfl) (po_some (pe_op op_add (pv 1) pe_int)) po_none)) pa_nil))))), ?_⟩
    obtain ⟨r, i, z, ls, rfl, ⟨dx, t, hr0, ht⟩, l3, l8, bd, hi, z1, z2, q⟩ := h
    refine ⟨_, rfl, _, rfl, r, C, dx, _, _, rfl, hr0, R.cl, R.nL, rf_lengths _ _, t, _, rfl, .inr ht, i, ls.length, by rw [List.length_map]; rfl, by omega, by omega, ?_⟩
    refine ⟨_, rfl, z, 1, 1000000, "length", rfl, z1, z2, ?_⟩
    refine ⟨_, rfl, r, C, dx, _, _, rfl, hr0, R.cl, R.nL, rf_lengths _ _, _, rfl, _, rfl, sl_to ht hi fun t1 n1 => ⟨_, rfl, (by show 1 ≤ sizeLine; decide), fun t2 n2 => ?_⟩⟩
    have s1 : Same H (upd H t1 (.tup ((ls.take i).map V.int))) := (Same.refl H).new n1
    have h1 : upd H t1 (.tup ((ls.take i).map V.int)) t1 = some (.tup ((ls.take i).map V.int)) := upd_same
    generalize upd H t1 (.tup ((ls.take i).map V.int)) = H1 at s1 h1 n2 ⊢
    have s2 := s1.new (o := .tup [.int z]) n2
    refine catI (xs := ls.take i) (ys := [z]) (by rw [upd_ne (ne_of_none h1 n2)]; exact h1) upd_same (by rw [List.length_take, List.length_singleton]; omega) fun t3 H3 h3 s3 => ?_
    have s23 := s2.trans s3
    refine ⟨_, rfl, r, C, dx, _, _, rfl, s23 _ _ hr0, R.cl, R.nL, rf_lengths _ _, _, rfl, _, _, rfl, rfl, _, rfl, ?_⟩
    dsimp only [tNoPart]
    refine sl_from (s23.tup ht) (i := i) (by omega) (by omega) fun t4 n4 => ?_
    have s4 : Same H3 (upd H3 t4 (.tup ((ls.drop (i + 1)).map V.int))) := (Same.refl H3).new n4
    have h4 : upd H3 t4 (.tup ((ls.drop (i + 1)).map V.int)) t4 = some (.tup ((ls.drop (i + 1)).map V.int)) := upd_same
    generalize upd H3 t4 (.tup ((ls.drop (i + 1)).map V.int)) = H4 at s4 h4 ⊢
    refine catI (xs := ls.take i ++ [z]) (ys := ls.drop (i + 1)) (s4 _ _ h3) h4 (by simp only [List.length_append, List.length_take, List.length_drop, List.length_singleton]; omega) fun t5 H5 h5 s5 => ?_
    refine madeT (R := fun _ => Q) h5 ?_ ?_ (((bd.take i).app (Bd.one z1 z2)).app (bd.drop (i + 1))) (fun _ => q.later ((s23.trans s4).trans s5))
    · simp only [List.length_append, List.length_take, List.length_drop, List.length_singleton]; omega
    · simp only [List.length_append, List.length_take, List.length_drop, List.length_singleton]; omega
end
end T1
end K
namespace K
open PySem L2 Rg LamX
/-! ### how far all lengths may change -/
def agap (ls l : List Int) : Int := if gapE ls l < 0 then -gapE ls l else gapE ls l
/-- what ease_number finds -/
structure EaseN (ls : List Int) (b : Int) : Prop where
  ex : ∃ G m : Int, (∀ l ∈ lotsN ls.length, G ≤ agap ls l) ∧ (∃ l ∈ lotsN ls.length, agap ls l = G) ∧ (∀ x ∈ ls, m ≤ x) ∧ m ∈ ls ∧ b = if m - 1 < (G - 1) / (ls.length : Int) then m - 1 else (G - 1) / (ls.length : Int)
theorem EaseN.uniq {ls : List Int} {b c : Int} (h : EaseN ls b) (g : EaseN ls c) : b = c := by
  obtain ⟨G, m, a1, ⟨l1, l1m, a2⟩, a3, a4, rfl⟩ := h.ex
  obtain ⟨G', m', b1, ⟨l2, l2m, b2⟩, b3, b4, rfl⟩ := g.ex
  have e1 : G = G' := by
    have := a1 _ l2m
    have := b1 _ l1m
    omega
  have e2 : m = m' := by
    have := a3 _ b4
    have := b3 _ a4
    omega
  rw [e1, e2]
/-- a ring that is asked -/
structure Er (ls : List Int) : Prop where
  l3 : 3 ≤ ls.length
  l8 : ls.length ≤ 8
  bd : Bd 1000000 ls
  nl : levelB ls = false
theorem Er.gap {ls : List Int} (h : Er ls) {l : List Int} (hl : l ∈ lotsN ls.length) : gapE ls l ≠ 0 := fun z => by
  have := h.nl
  rw [level_lots] at this
  have q := List.any_eq_false.mp this l hl
  unfold gapE at z
  exact q (decide_eq_true (by omega))
theorem Er.agap {ls : List Int} (h : Er ls) {l : List Int} (hl : l ∈ lotsN ls.length) : 1 ≤ agap ls l := by
  have := h.gap hl
  unfold K.agap
  split <;> omega
theorem div_le {a n : Int} (hn : 0 < n) : n * (a / n) ≤ a := by
  have := Int.mul_ediv_self_le (x := a) (k := n) (by omega)
  exact this
theorem lt_div {a n : Int} (hn : 0 < n) : a < n * (a / n + 1) := by
  have := Int.lt_mul_ediv_self_add (x := a) hn
  rw [Int.mul_add, Int.mul_one]
  exact this
section
variable {ls : List Int} {b : Int}
theorem EaseN.pos (h : EaseN ls b) (e : Er ls) : 0 ≤ b := by
  obtain ⟨G, m, a1, ⟨l1, l1m, a2⟩, a3, a4, rfl⟩ := h.ex
  have hG := e.agap l1m
  have hm := (e.bd m a4).1
  have hn : (0 : Int) < (ls.length : Int) := by have := e.l3; omega
  have := Int.ediv_nonneg (a := G - 1) (b := (ls.length : Int)) (by omega) (by omega)
  split <;> omega
theorem EaseN.le (h : EaseN ls b) {x : Int} (hx : x ∈ ls) : b ≤ x - 1 := by
  obtain ⟨G, m, a1, _, a3, a4, rfl⟩ := h.ex
  have := a3 x hx
  split <;> omega
theorem EaseN.lt (h : EaseN ls b) (e : Er ls) {l : List Int} (hl : l ∈ lotsN ls.length) : (ls.length : Int) * b < agap ls l := by
  obtain ⟨G, m, a1, ⟨l1, l1m, a2⟩, a3, a4, rfl⟩ := h.ex
  have hn : (0 : Int) < (ls.length : Int) := by have := e.l3; omega
  have q := div_le (a := G - 1) hn
  have := a1 l hl
  have : (if m - 1 < (G - 1) / (ls.length : Int) then m - 1 else (G - 1) / (ls.length : Int)) ≤ (G - 1) / (ls.length : Int) := by split <;> omega
  have := Int.mul_le_mul_of_nonneg_left this (Int.le_of_lt hn)
  omega
/-- less than all lengths let: some lot stops it -/
theorem EaseN.stop (h : EaseN ls b) (e : Er ls) (c : ∀ x ∈ ls, b < x - 1) : ∃ l ∈ lotsN ls.length, agap ls l ≤ (b + 1) * (ls.length : Int) := by
  obtain ⟨G, m, a1, ⟨l1, l1m, a2⟩, a3, a4, rfl⟩ := h.ex
  have hn : (0 : Int) < (ls.length : Int) := by have := e.l3; omega
  have q := lt_div (a := G - 1) hn
  have := c m a4
  refine ⟨l1, l1m, ?_⟩
  rw [Int.mul_comm]
  split at this
  · omega
  · rename_i z
    rw [if_neg z]
    omega
/-- where no lot stops it, the least length does -/
theorem EaseN.most (h : EaseN ls b) (e : Er ls) (c : ∀ l ∈ lotsN ls.length, ¬ agap ls l ≤ (b + 1) * (ls.length : Int)) : ∀ m, m ∈ ls → (∀ x ∈ ls, m ≤ x) → b = m - 1 := by
  intro m hm hx
  have h1 := h.le hm
  refine Classical.byContradiction fun z => ?_
  obtain ⟨l, hl, q⟩ := h.stop e fun x hxm => by
    have := hx x hxm
    omega
  exact c l hl q
end
/-! ### lengths that change -/
def bentL (ls l : List Int) (b : Int) : List Int := (List.range ls.length).map fun j => if hasB l j = decide (gapE ls l < 0) then ls.getD j 0 + b else ls.getD j 0 - b
theorem bent_len (ls l : List Int) (b : Int) : (bentL ls l b).length = ls.length := by unfold bentL; rw [List.length_map, List.length_range]
theorem bent_get {ls l : List Int} {b : Int} {j : Nat} (h : j < ls.length) : (bentL ls l b).getD j 0 = if hasB l j = decide (gapE ls l < 0) then ls.getD j 0 + b else ls.getD j 0 - b := by
  unfold bentL
  rw [List.getD_eq_getElem?_getD, List.getElem?_map, List.getElem?_range h]
  rfl
theorem bent_sgn {ls l : List Int} {b : Int} : ∀ i, i ≤ ls.length → (sgnL (bentL ls l b) l i).sum = (sgnL ls l i).sum + if gapE ls l < 0 then (i : Int) * b else -((i : Int) * b)
  | 0, _ => by simp [sgnL]
  | i + 1, h => by
    have ih := bent_sgn (ls := ls) (l := l) (b := b) i (by omega)
    rw [sgn_succ, sgn_succ, List.sum_append, List.sum_append, ih, List.sum_singleton, List.sum_singleton, bent_get (by omega)]
    have e : ((i + 1 : Nat) : Int) * b = (i : Int) * b + b := by rw [Int.natCast_add, Int.add_mul, Int.natCast_one, Int.one_mul]
    rw [e]
    by_cases c : gapE ls l < 0
    · rw [if_pos c, if_pos c, decide_eq_true c]
      cases hasB l i <;> simp <;> omega
    · rw [if_neg c, if_neg c, decide_eq_false c]
      cases hasB l i <;> simp <;> omega
theorem bent_gap {ls l : List Int} {b : Int} (h : Lot ls.length l) : gapE (bentL ls l b) l = gapE ls l + if gapE ls l < 0 then (ls.length : Int) * b else -((ls.length : Int) * b) := by
  rw [← sgn_gap (ls := ls) h, ← sgn_gap (ls := bentL ls l b) (by rw [bent_len]; exact h), bent_len]
  have := bent_sgn (ls := ls) (l := l) (b := b) ls.length (Nat.le_refl _)
  rw [this, sgn_gap h]
/-- lengths near others: no lot is far from what it was -/
theorem near_sgn {ls ms l : List Int} {b : Int} (h : ∀ j, j < ls.length → ls.getD j 0 - b ≤ ms.getD j 0 ∧ ms.getD j 0 ≤ ls.getD j 0 + b) : ∀ i, i ≤ ls.length → (sgnL ls l i).sum - (i : Int) * b ≤ (sgnL ms l i).sum ∧ (sgnL ms l i).sum ≤ (sgnL ls l i).sum + (i : Int) * b
  | 0, _ => by simp [sgnL]
  | i + 1, hi => by
    have ih := near_sgn (l := l) h i (by omega)
    have hj := h i (by omega)
    rw [sgn_succ, sgn_succ, List.sum_append, List.sum_append, List.sum_singleton, List.sum_singleton]
    have e : ((i + 1 : Nat) : Int) * b = (i : Int) * b + b := by rw [Int.natCast_add, Int.add_mul, Int.natCast_one, Int.one_mul]
    rw [e]
    generalize ms.getD i 0 = x at hj ⊢
    generalize ls.getD i 0 = y at hj ⊢
    generalize ((i + 1 : Nat) : Int) * b = z at e
    cases hasB l i <;> simp <;> omega
theorem near_gap {ls ms l : List Int} {b : Int} (hl : Lot ls.length l) (len : ms.length = ls.length) (h : ∀ j, j < ls.length → ls.getD j 0 - b ≤ ms.getD j 0 ∧ ms.getD j 0 ≤ ls.getD j 0 + b) :
    gapE ls l - (ls.length : Int) * b ≤ gapE ms l ∧ gapE ms l ≤ gapE ls l + (ls.length : Int) * b := by
  rw [← sgn_gap hl, ← sgn_gap (ls := ms) (by rw [len]; exact hl), len]
  exact near_sgn h ls.length (Nat.le_refl _)
theorem sort_gap (ls l : List Int) : sortV ls l = if gapE ls l = 0 then "level" else if gapE ls l < 0 then "short" else "long" := by
  unfold gapE
  rcases sort_cases ls l with ⟨a, e⟩ | ⟨a, e⟩ | ⟨a, e⟩ <;> rw [e]
  · rw [if_pos (by omega)]
  · rw [if_neg (by omega), if_pos (by omega)]
  · rw [if_neg (by omega), if_neg (by omega)]
theorem sort_same {ls ms l : List Int} (a : gapE ls l ≠ 0) (b : gapE ms l ≠ 0) (c : gapE ls l < 0 ↔ gapE ms l < 0) : sortV ls l = sortV ms l := by
  rw [sort_gap, sort_gap, if_neg a, if_neg b]
  by_cases z : gapE ls l < 0
  · rw [if_pos z, if_pos (c.mp z)]
  · rw [if_neg z, if_neg fun q => z (c.mpr q)]
theorem sort_other {ls ms l : List Int} (a : gapE ls l ≠ 0) (c : gapE ms l = 0 ∨ ¬ (gapE ls l < 0 ↔ gapE ms l < 0)) : sortV ls l ≠ sortV ms l := by
  have h1 : ("level" : Str) ≠ "short" := by decide
  have h2 : ("level" : Str) ≠ "long" := by decide
  have h3 : ("short" : Str) ≠ "long" := by decide
  rw [sort_gap, sort_gap, if_neg a]
  by_cases z : gapE ms l = 0
  · rw [if_pos z]
    split
    · exact h1.symm
    · exact h2.symm
  · rw [if_neg z]
    have c := c.resolve_left z
    by_cases y : gapE ls l < 0
    · rw [if_pos y, if_neg fun q => c ⟨fun _ => q, fun _ => y⟩]
      exact h3
    · rw [if_neg y, if_pos (Classical.byContradiction fun q => c ⟨fun k => absurd k y, fun k => absurd k q⟩)]
      exact h3.symm
section
variable {ls : List Int} {b : Int}
/-- each length changed by no more: the same book -/
theorem EaseN.same (h : EaseN ls b) (e : Er ls) {ms : List Int} (len : ms.length = ls.length) (hm : ∀ j, j < ls.length → ls.getD j 0 - b ≤ ms.getD j 0 ∧ ms.getD j 0 ≤ ls.getD j 0 + b) {l : List Int} (hl : l ∈ lotsN ls.length) : unl ls ms l = false := by
  have q := near_gap (lotsN_lot hl) len hm
  have z := h.lt e hl
  have g := e.gap hl
  unfold agap at z
  have : sortV ls l = sortV ms l := sort_same g (by split at z <;> omega) ⟨fun k => by split at z <;> omega, fun k => by split at z <;> omega⟩
  unfold unl
  rw [decide_eq_true this]
  rfl
/-- a lot that stops it: another book -/
theorem EaseN.other (e : Er ls) {l : List Int} (hl : l ∈ lotsN ls.length) (st : agap ls l ≤ (b + 1) * (ls.length : Int)) : unl ls (bentL ls l (b + 1)) l = true := by
  have g := e.gap hl
  have q := bent_gap (b := b + 1) (lotsN_lot hl)
  rw [Int.mul_comm] at st
  unfold agap at st
  have : sortV ls l ≠ sortV (bentL ls l (b + 1)) l := sort_other g (by
    rw [q]
    by_cases c : gapE ls l < 0
    · rw [if_pos c]
      rw [if_pos c] at st
      exact .inr fun k => by have := k.mp c; omega
    · rw [if_neg c]
      rw [if_neg c] at st
      rcases Int.lt_or_eq_of_le (show gapE ls l + -((ls.length : Int) * (b + 1)) ≤ 0 by omega) with z | z
      · exact .inr fun k => c (k.mpr z)
      · exact .inl z)
  unfold unl
  rw [decide_eq_false this]
  rfl
/-- whether a lot stays what it is -/
def okW (ls : List Int) (b : Int) (l : List Int) : Bool := !(decide (decide (gapE (bentL ls l b) l < 0) ≠ decide (gapE ls l < 0)) || decide (gapE (bentL ls l b) l = 0))
theorem EaseN.okW (h : EaseN ls b) (e : Er ls) {l : List Int} (hl : l ∈ lotsN ls.length) : K.okW ls b l = true := by
  have q := bent_gap (b := b) (lotsN_lot hl)
  have z := h.lt e hl
  have g := e.gap hl
  unfold agap at z
  unfold K.okW
  have p := h.pos e
  have np : 0 ≤ (ls.length : Int) * b := Int.mul_nonneg (by omega) p
  by_cases c : gapE ls l < 0
  · rw [if_pos c] at z q
    rw [decide_eq_true c, decide_eq_true (show gapE (bentL ls l b) l < 0 by omega), decide_eq_false (by omega : ¬ gapE (bentL ls l b) l = 0)]
    rfl
  · rw [if_neg c] at z q
    rw [decide_eq_false c, decide_eq_false (show ¬ gapE (bentL ls l b) l < 0 by omega), decide_eq_false (by omega : ¬ gapE (bentL ls l b) l = 0)]
    rfl
theorem notW (e : Er ls) {l : List Int} (hl : l ∈ lotsN ls.length) (st : agap ls l ≤ (b + 1) * (ls.length : Int)) : K.okW ls (b + 1) l = false := by
  have q := bent_gap (b := b + 1) (lotsN_lot hl)
  have g := e.gap hl
  rw [Int.mul_comm] at st
  unfold agap at st
  unfold K.okW
  by_cases c : gapE ls l < 0
  · rw [if_pos c] at st q
    rw [decide_eq_true c, decide_eq_false (show ¬ gapE (bentL ls l (b + 1)) l < 0 by omega)]
    rfl
  · rw [if_neg c] at st q
    rw [decide_eq_false c]
    rcases Int.lt_or_eq_of_le (show gapE (bentL ls l (b + 1)) l ≤ 0 by omega) with z | z
    · rw [decide_eq_true z]; rfl
    · rw [decide_eq_true z, Bool.or_true]; rfl
end
/-! ### all lengths times a number -/
theorem gap_mul (c : Int) (ls l : List Int) (h : ∀ z ∈ l, 0 ≤ z ∧ z < (ls.length : Int)) : gapE (ls.map fun x => x * c) l = gapE ls l * c := by
  have e1 : (ls.map fun x => x * c).sum = ls.sum * c := by
    clear h
    induction ls with
    | nil => simp
    | cons a t ih => rw [List.map_cons, List.sum_cons, List.sum_cons, ih, Int.add_mul]
  have e2 : lsum (ls.map fun x => x * c) l = lsum ls l * c := by
    unfold lsum
    clear e1
    induction l with
    | nil => simp
    | cons a t ih =>
      have ha := h a (List.mem_cons_self ..)
      have hlt : a.toNat < ls.length := by omega
      rw [List.map_cons, List.sum_cons, List.map_cons, List.sum_cons, ih fun z hz => h z (List.mem_cons_of_mem _ hz), Int.add_mul]
      congr 1
      rw [List.getD_eq_getElem?_getD, List.getD_eq_getElem?_getD, List.getElem?_map, List.getElem?_eq_getElem hlt]
      rfl
  unfold gapE
  rw [e1, e2, Int.sub_mul, Int.mul_assoc]
theorem agap_mul {c : Int} (hc : 1 ≤ c) {ls l : List Int} (h : ∀ z ∈ l, 0 ≤ z ∧ z < (ls.length : Int)) : agap (ls.map fun x => x * c) l = agap ls l * c := by
  unfold agap
  rw [gap_mul c ls l h]
  by_cases k : gapE ls l < 0
  · rw [if_pos k, if_pos (Int.mul_neg_of_neg_of_pos k (by omega)), Int.neg_mul]
  · rw [if_neg k, if_neg (Int.not_lt.mpr (Int.mul_nonneg (by omega) (by omega)))]
theorem le_mulc {a c : Int} (ha : 0 ≤ a) (hc : 1 ≤ c) : a ≤ a * c := by
  have := Int.mul_le_mul_of_nonneg_left hc ha
  omega
theorem EaseN.times {ls : List Int} {b d c : Int} (hc : 1 ≤ c) (e : Er ls) (h : EaseN ls b) (g : EaseN (ls.map fun x => x * c) d) : b ≤ d := by
  obtain ⟨G, m, a1, ⟨l1, l1m, a2⟩, a3, a4, rfl⟩ := h.ex
  obtain ⟨G', m', b1, ⟨l2, l2m, b2⟩, b3, b4, rfl⟩ := g.ex
  rw [List.length_map] at *
  have hn : (0 : Int) < (ls.length : Int) := by have := e.l3; omega
  have hG : G ≤ G' := by
    rw [← b2, agap_mul hc (lotsN_lot l2m).2]
    have := a1 _ l2m
    have := le_mulc (a := agap ls l2) (by have := e.agap l2m; omega) hc
    omega
  have hm : m ≤ m' := by
    obtain ⟨x, hx, rfl⟩ := List.mem_map.mp b4
    have := a3 x hx
    have := le_mulc (a := x) (by have := (e.bd x hx).1; omega) hc
    omega
  have hd : (G - 1) / (ls.length : Int) ≤ (G' - 1) / (ls.length : Int) := Int.ediv_le_ediv hn (by omega)
  split <;> split <;> omega
end K
namespace K
open PySem L2 Rg LamX
/-! ### how far one length may change -/
structure WithL (ls : List Int) (j : Nat) (l : List Int) : Prop where
  m : l ∈ lotsN ls.length
  h : hasB l j = true
structure DownN (ls : List Int) (j : Nat) (d : Int) : Prop where
  bar : d + 1 ≤ ls.getD j 0
  all : ∀ l, WithL ls j l → 0 < gapE ls l → d + 1 ≤ gapE ls l
  ex : d + 1 = ls.getD j 0 ∨ ∃ l, WithL ls j l ∧ 0 < gapE ls l ∧ gapE ls l = d + 1
def UpN (ls : List Int) (j : Nat) : Option Int → Prop
  | none => ∀ l, WithL ls j l → ¬ gapE ls l < 0
  | some u => (∀ l, WithL ls j l → gapE ls l < 0 → gapE ls l ≤ -u - 1) ∧ ∃ l, WithL ls j l ∧ gapE ls l < 0 ∧ gapE ls l = -u - 1
theorem DownN.uniq {ls : List Int} {j : Nat} {d e : Int} (h : DownN ls j d) (g : DownN ls j e) : d = e := by
  have a : d ≤ e := by
    rcases g.ex with z | ⟨l, w, p, z⟩
    · have := h.bar; omega
    · have := h.all l w p; omega
  have b : e ≤ d := by
    rcases h.ex with z | ⟨l, w, p, z⟩
    · have := g.bar; omega
    · have := g.all l w p; omega
  omega
theorem UpN.uniq {ls : List Int} {j : Nat} : ∀ {u w : Option Int}, UpN ls j u → UpN ls j w → u = w
  | none, none, _, _ => rfl
  | none, some w, h, g => by
    obtain ⟨_, l, a, b, _⟩ := g
    exact absurd b (h l a)
  | some u, none, h, g => by
    obtain ⟨_, l, a, b, _⟩ := h
    exact absurd b (g l a)
  | some u, some w, h, g => by
    obtain ⟨h1, l, a, b, c⟩ := h
    obtain ⟨g1, m, a', b', c'⟩ := g
    have := h1 m a' b'
    have := g1 l a b
    exact congrArg some (by omega)
theorem UpN.pos {ls : List Int} {j : Nat} {u : Int} (h : UpN ls j (some u)) : 0 ≤ u := by
  obtain ⟨_, l, a, b, c⟩ := h
  omega
theorem DownN.pos {ls : List Int} {j : Nat} {d : Int} (e : Er ls) (hj : j < ls.length) (h : DownN ls j d) : 0 ≤ d := by
  rcases h.ex with z | ⟨l, w, p, z⟩
  · have : ls.getD j 0 ∈ ls := by rw [List.getD_eq_getElem?_getD, List.getElem?_eq_getElem hj]; exact List.getElem_mem hj
    have := (e.bd _ this).1
    omega
  · omega
/-! ### one length changed -/
def withL (ls : List Int) (j : Nat) (v : Int) : List Int := ls.take j ++ [v] ++ ls.drop (j + 1)
theorem with_set {ls : List Int} {j : Nat} {v : Int} (hj : j < ls.length) : withL ls j v = ls.set j v := by
  unfold withL
  rw [List.set_eq_take_append_cons_drop, if_pos hj, List.append_assoc]
  rfl
theorem with_len {ls : List Int} {j : Nat} {v : Int} (hj : j < ls.length) : (withL ls j v).length = ls.length := by rw [with_set hj, List.length_set]
theorem with_get {ls : List Int} {j : Nat} {v : Int} (hj : j < ls.length) (i : Nat) : (withL ls j v).getD i 0 = if i = j then v else ls.getD i 0 := by
  rw [with_set hj, List.getD_eq_getElem?_getD, List.getElem?_set]
  by_cases c : i = j
  · subst c
    rw [if_pos rfl, if_pos rfl, if_pos hj]
    rfl
  · rw [if_neg (fun z => c z.symm), if_neg c, List.getD_eq_getElem?_getD]
theorem with_mem {ls : List Int} {j : Nat} {v x : Int} (hj : j < ls.length) (h : x ∈ withL ls j v) : x = v ∨ x ∈ ls := by
  rw [with_set hj] at h
  rcases List.mem_or_eq_of_mem_set h with h | h
  · exact .inr h
  · exact .inl h
theorem with_sgn {ls l : List Int} {j : Nat} {v : Int} (hj : j < ls.length) : ∀ i, i ≤ ls.length → (sgnL (withL ls j v) l i).sum = (sgnL ls l i).sum + if j < i then (if hasB l j = true then v - ls.getD j 0 else -(v - ls.getD j 0)) else 0
  | 0, _ => by simp [sgnL]
  | i + 1, h => by
    have ih := with_sgn (ls := ls) (l := l) (v := v) hj i (by omega)
    rw [sgn_succ, sgn_succ, List.sum_append, List.sum_append, ih, List.sum_singleton, List.sum_singleton, with_get hj]
    by_cases c : i = j
    · subst c
      rw [if_pos rfl, if_neg (by omega : ¬ i < i), if_pos (by omega : i < i + 1)]
      cases hasB l i <;> simp <;> omega
    · rw [if_neg c]
      by_cases c2 : j < i
      · rw [if_pos c2, if_pos (by omega : j < i + 1)]
        omega
      · rw [if_neg c2, if_neg (by omega : ¬ j < i + 1)]
        omega
theorem with_gap {ls l : List Int} {j : Nat} {v : Int} (hj : j < ls.length) (h : Lot ls.length l) : gapE (withL ls j v) l = gapE ls l + if hasB l j = true then v - ls.getD j 0 else -(v - ls.getD j 0) := by
  rw [← sgn_gap (ls := ls) h, ← sgn_gap (ls := withL ls j v) (by rw [with_len hj]; exact h), with_len hj]
  have := with_sgn (ls := ls) (l := l) (v := v) hj ls.length (Nat.le_refl _)
  rw [this, if_pos hj]
theorem hasB_nat {l : List Int} {j : Nat} : hasB l j = true ↔ (j : Int) ∈ l := by
  unfold hasB
  rw [List.any_eq_true]
  constructor
  · rintro ⟨y, hy, e⟩
    rw [← of_decide_eq_true e]
    exact hy
  · exact fun h => ⟨_, h, decide_eq_true rfl⟩
theorem rest_mem {n : Nat} {l : List Int} {z : Int} : z ∈ restN n l n ↔ (0 ≤ z ∧ z < n) ∧ z ∉ l := by
  have key : ∀ i, i ≤ n → (z ∈ restN n l i ↔ (0 ≤ z ∧ z < (i : Int)) ∧ z ∉ l) := by
    intro i
    induction i with
    | zero =>
      intro _
      have : restN n l 0 = [] := List.length_eq_zero_iff.mp (Nat.le_zero.mp rest_len)
      rw [this]
      constructor
      · intro h; cases h
      · rintro ⟨⟨a, b⟩, _⟩; omega
    | succ i ih =>
      intro hi
      have ih := ih (by omega)
      cases e : hasB l i with
      | false =>
        rw [rest_in e, List.mem_append, ih, List.mem_singleton]
        constructor
        · rintro (⟨⟨a, b⟩, c⟩ | rfl)
          · exact ⟨⟨a, by omega⟩, c⟩
          · exact ⟨⟨by omega, by omega⟩, fun k => by rw [hasB_nat.mpr k] at e; cases e⟩
        · rintro ⟨⟨a, b⟩, c⟩
          by_cases q : z = (i : Int)
          · exact .inr q
          · exact .inl ⟨⟨a, by omega⟩, c⟩
      | true =>
        rw [rest_out e, ih]
        constructor
        · rintro ⟨⟨a, b⟩, c⟩
          exact ⟨⟨a, by omega⟩, c⟩
        · rintro ⟨⟨a, b⟩, c⟩
          refine ⟨⟨a, ?_⟩, c⟩
          have : z ≠ (i : Int) := fun q => c (by rw [q]; exact hasB_nat.mp e)
          omega
  exact key n (Nat.le_refl _)
/-- of a lot without the bar: what is left has it -/
theorem with_rest {ls l : List Int} {j : Nat} (hj : j < ls.length) (hl : l ∈ lotsN ls.length) (h : hasB l j = false) : WithL ls j (restN ls.length l ls.length) ∧ gapE ls (restN ls.length l ls.length) = -gapE ls l := by
  obtain ⟨a, b⟩ := gap_rest hl
  refine ⟨⟨a, hasB_nat.mpr (rest_mem.mpr ⟨⟨by omega, by omega⟩, fun k => ?_⟩)⟩, b⟩
  rw [hasB_nat.mpr k] at h
  cases h
theorem rest_not {ls l : List Int} {j : Nat} (h : WithL ls j l) : hasB (restN ls.length l ls.length) j = false := by
  rw [Bool.eq_false_iff]
  exact fun k => (rest_mem.mp (hasB_nat.mp k)).2 (hasB_nat.mp h.h)
/-- the same side for all lots, when it stays near for those with the bar -/
theorem with_side {ls : List Int} {j : Nat} {v : Int} (e : Er ls) (hj : j < ls.length) (dn : ∀ l, WithL ls j l → 0 < gapE ls l → 0 < gapE ls l + (v - ls.getD j 0)) (up : ∀ l, WithL ls j l → gapE ls l < 0 → gapE ls l + (v - ls.getD j 0) < 0) {l : List Int} (hl : l ∈ lotsN ls.length) :
    gapE (withL ls j v) l ≠ 0 ∧ (gapE ls l < 0 ↔ gapE (withL ls j v) l < 0) := by
  have g := e.gap hl
  rw [with_gap hj (lotsN_lot hl)]
  cases c : hasB l j with
  | true =>
    rw [if_pos rfl]
    have d1 := dn l ⟨hl, c⟩
    have u1 := up l ⟨hl, c⟩
    by_cases z : gapE ls l < 0
    · have := u1 z
      exact ⟨by omega, fun _ => this, fun _ => z⟩
    · have := d1 (by omega)
      exact ⟨by omega, fun k => absurd k z, fun k => by omega⟩
  | false =>
    rw [if_neg (by decide)]
    obtain ⟨w, gr⟩ := with_rest hj hl c
    have d1 := dn _ w
    have u1 := up _ w
    rw [gr] at d1 u1
    by_cases z : gapE ls l < 0
    · have := d1 (by omega)
      exact ⟨by omega, fun _ => by omega, fun _ => z⟩
    · have := u1 (by omega)
      exact ⟨by omega, fun k => absurd k z, fun k => by omega⟩
/-! ### books -/
def shB (ls l : List Int) : Bool := decide (gapE ls l < 0)
theorem book_same {ls ms : List Int} (h : ∀ l ∈ lotsN ls.length, (gapE ls l < 0 ↔ gapE ms l < 0)) : (lotsN ls.length).filter (shB ls) = (lotsN ls.length).filter (shB ms) := List.filter_congr fun l hl => decide_eq_decide.mpr (h l hl)
theorem book_other {ls ms : List Int} {l : List Int} (hl : l ∈ lotsN ls.length) (h : ¬ (gapE ls l < 0 ↔ gapE ms l < 0)) : (lotsN ls.length).filter (shB ls) ≠ (lotsN ls.length).filter (shB ms) := fun z => h (by
  have : l ∈ (lotsN ls.length).filter (shB ls) ↔ l ∈ (lotsN ls.length).filter (shB ms) := by rw [z]
  rw [List.mem_filter, List.mem_filter] at this
  unfold shB at this
  rw [decide_eq_true_iff, decide_eq_true_iff] at this
  exact ⟨fun k => (this.mp ⟨hl, k⟩).2, fun k => (this.mpr ⟨hl, k⟩).2⟩)
section
variable {ls : List Int} {j : Nat} {d v : Int} {o : Option Int}
/-- between: the same side -/
theorem slack_side (e : Er ls) (hj : j < ls.length) (D : DownN ls j d) (U : UpN ls j o) (lo : ls.getD j 0 - d ≤ v) (hi : ∀ u, o = some u → v ≤ ls.getD j 0 + u) {l : List Int} (hl : l ∈ lotsN ls.length) : gapE (withL ls j v) l ≠ 0 ∧ (gapE ls l < 0 ↔ gapE (withL ls j v) l < 0) := by
  refine with_side e hj (fun l w p => ?_) (fun l w p => ?_) hl
  · have := D.all l w p
    omega
  · cases o with
    | none => exact absurd p (U l w)
    | some u =>
      have := U.1 l w p
      have := hi u rfl
      omega
theorem slack_low (e : Er ls) (hj : j < ls.length) (D : DownN ls j d) (lt : d + 1 < ls.getD j 0) : ∃ l ∈ lotsN ls.length, ¬ (gapE ls l < 0 ↔ gapE (withL ls j (ls.getD j 0 - d - 1)) l < 0) := by
  rcases D.ex with z | ⟨l, w, p, z⟩
  · omega
  · have a := gap_rest w.m
    refine ⟨_, a.1, ?_⟩
    rw [with_gap hj (lotsN_lot a.1), a.2, rest_not w, if_neg (by decide)]
    omega
theorem slack_high {u : Int} (e : Er ls) (hj : j < ls.length) (U : UpN ls j (some u)) : ∃ l ∈ lotsN ls.length, ¬ (gapE ls l < 0 ↔ gapE (withL ls j (ls.getD j 0 + u + 1)) l < 0) := by
  obtain ⟨_, l, w, p, z⟩ := U
  refine ⟨l, w.m, ?_⟩
  rw [with_gap hj (lotsN_lot w.m), w.h, if_pos rfl]
  omega
end
/-! ### the lots told -/
def pdB (ls : List Int) (j : Nat) (d : Int) (l : List Int) : Bool := hasB l j && (decide (0 < gapE ls l) && decide (gapE ls l ≤ d + 1))
def puB (ls : List Int) (j : Nat) (u : Int) (l : List Int) : Bool := hasB l j && (decide (-u - 1 ≤ gapE ls l) && decide (gapE ls l < 0))
theorem pdB_iff {ls l : List Int} {j : Nat} {d : Int} : pdB ls j d l = true ↔ hasB l j = true ∧ 0 < gapE ls l ∧ gapE ls l ≤ d + 1 := by
  unfold pdB
  rw [Bool.and_eq_true, Bool.and_eq_true, decide_eq_true_iff, decide_eq_true_iff]
theorem puB_iff {ls l : List Int} {j : Nat} {u : Int} : puB ls j u l = true ↔ hasB l j = true ∧ -u - 1 ≤ gapE ls l ∧ gapE ls l < 0 := by
  unfold puB
  rw [Bool.and_eq_true, Bool.and_eq_true, decide_eq_true_iff, decide_eq_true_iff]
/-- the first of the lots of a kind -/
def FirstP (n : Nat) (p : List Int → Bool) (o : Option (List Int)) : Prop := ∀ L, AllL n L → (L.filter p).head? = o
theorem FirstP.some {n : Nat} {p : List Int → Bool} {l : List Int} (ex : ∃ L, AllL n L) (h : FirstP n p (some l)) : l ∈ lotsN n ∧ p l = true := by
  obtain ⟨L, aL⟩ := ex
  have m := List.mem_of_head? (h L aL)
  have := List.mem_filter.mp m
  exact ⟨aL.pm.mem_iff.mp this.1, this.2⟩
theorem FirstP.none {n : Nat} {p : List Int → Bool} (ex : ∃ L, AllL n L) (h : FirstP n p none) : ∀ l ∈ lotsN n, ¬ p l = true := fun l hl st => by
  obtain ⟨L, aL⟩ := ex
  have e := List.head?_eq_none_iff.mp (h L aL)
  exact List.filter_eq_nil_iff.mp e l (aL.pm.mem_iff.mpr hl) st
theorem FirstP.uniq {n : Nat} {p : List Int → Bool} {o o' : Option (List Int)} (ex : ∃ L, AllL n L) (h : FirstP n p o) (g : FirstP n p o') : o = o' := by
  obtain ⟨L, aL⟩ := ex
  rw [← h L aL, ← g L aL]
theorem DownN.first_none {ls : List Int} {j : Nat} {d : Int} (ex : ∃ L, AllL ls.length L) (D : DownN ls j d) (h : FirstP ls.length (pdB ls j d) none) : d + 1 = ls.getD j 0 := by
  rcases D.ex with z | ⟨l, w, p, z⟩
  · exact z
  · exact absurd (pdB_iff.mpr ⟨w.h, p, by omega⟩) (h.none ex l w.m)
theorem UpN.first_some {ls : List Int} {j : Nat} {u : Int} (ex : ∃ L, AllL ls.length L) (U : UpN ls j (some u)) {o : Option (List Int)} (h : FirstP ls.length (puB ls j u) o) : ∃ l, o = some l := by
  cases o with
  | some l => exact ⟨l, rfl⟩
  | none =>
    obtain ⟨_, l, w, p, z⟩ := U
    exact absurd (puB_iff.mpr ⟨w.h, by omega, p⟩) (h.none ex l w.m)
end K
namespace K
open PySem L2 Rg LamX
/-! ### a ring begun at another bar -/
def rotL (ls : List Int) (s : Nat) : List Int := ls.drop s ++ ls.take s
theorem rot_len {ls : List Int} {s : Nat} (h : s ≤ ls.length) : (rotL ls s).length = ls.length := by
  unfold rotL
  rw [List.length_append, List.length_drop, List.length_take]
  omega
theorem rot_get? {α : Type} {w : List α} {s i : Nat} (hs : s < w.length) (hi : i < w.length) : (w.drop s ++ w.take s)[i]? = w[(i + s) % w.length]? := by
  by_cases c : i < w.length - s
  · rw [List.getElem?_append_left (by rw [List.length_drop]; exact c), List.getElem?_drop, Nat.mod_eq_of_lt (by omega), Nat.add_comm]
  · rw [List.getElem?_append_right (by rw [List.length_drop]; omega), List.length_drop, List.getElem?_take]
    have e : (i + s) % w.length = i - (w.length - s) := by
      rw [Nat.mod_eq_sub_mod (by omega), Nat.mod_eq_of_lt (by omega)]
      omega
    rw [e, if_pos (by omega)]
theorem rot_get {ls : List Int} {s i : Nat} (hs : s < ls.length) (hi : i < ls.length) : (rotL ls s).getD i 0 = ls.getD ((i + s) % ls.length) 0 := by
  rw [List.getD_eq_getElem?_getD, List.getD_eq_getElem?_getD]
  unfold rotL
  rw [rot_get? hs hi]
theorem hasB_natB {n : Nat} {p : Nat → Bool} {i : Nat} (hi : i < n) : hasB (natB ((List.range n).filter p)) i = p i := by
  rw [Bool.eq_iff_iff, hasB_nat]
  unfold natB
  rw [List.mem_map]
  constructor
  · rintro ⟨x, hx, e⟩
    obtain rfl : x = i := by omega
    exact (List.mem_filter.mp hx).2
  · exact fun h => ⟨i, List.mem_filter.mpr ⟨List.mem_range.mpr hi, h⟩, rfl⟩
theorem rot_lot {ls l : List Int} {s : Nat} (hs : s < ls.length) (hl : l ∈ lotsN ls.length) : ∃ m ∈ lotsN ls.length, gapE (rotL ls s) m = gapE ls l ∧ ∀ i, i < ls.length → hasB m i = hasB l ((i + s) % ls.length) := by
  refine ⟨natB ((List.range ls.length).filter fun i => hasB l ((i + s) % ls.length)), nat_lots _ _, ?_, fun i hi => hasB_natB hi⟩
  have lt : Lot (rotL ls s).length (natB ((List.range ls.length).filter fun i => hasB l ((i + s) % ls.length))) := by rw [rot_len (by omega)]; exact lot_nat
  rw [← sgn_gap lt, ← sgn_gap (lotsN_lot hl), rot_len (by omega)]
  have e : sgnL (rotL ls s) (natB ((List.range ls.length).filter fun i => hasB l ((i + s) % ls.length))) ls.length = (sgnL ls l ls.length).drop s ++ (sgnL ls l ls.length).take s := by
    refine List.ext_getElem? fun i => ?_
    by_cases c : i < ls.length
    · rw [rot_get? (by rw [sgn_len]; exact hs) (by rw [sgn_len]; exact c), sgn_len]
      have m : (i + s) % ls.length < ls.length := Nat.mod_lt _ (by omega)
      unfold sgnL
      rw [List.getElem?_map, List.getElem?_range c, List.getElem?_map, List.getElem?_range m]
      show some (if hasB (natB ((List.range ls.length).filter fun i => hasB l ((i + s) % ls.length))) i = true then (rotL ls s).getD i 0 else -(rotL ls s).getD i 0) = some (if hasB l ((i + s) % ls.length) = true then ls.getD ((i + s) % ls.length) 0 else -ls.getD ((i + s) % ls.length) 0)
      rw [hasB_natB c, rot_get hs c]
    · rw [List.getElem?_eq_none (by rw [sgn_len]; omega), List.getElem?_eq_none (by rw [List.length_append, List.length_drop, List.length_take, sgn_len]; omega)]
  rw [e, List.sum_append]
  have := congrArg List.sum (List.take_append_drop s (sgnL ls l ls.length))
  rw [List.sum_append] at this
  omega
theorem rot_back {ls : List Int} {s : Nat} (hs : s < ls.length) : rotL (rotL ls s) ((ls.length - s) % ls.length) = ls := by
  have h0 : 0 < ls.length := by omega
  have hl := rot_len (ls := ls) (s := s) (by omega)
  have hm : (ls.length - s) % ls.length < ls.length := Nat.mod_lt _ h0
  refine List.ext_getElem? fun i => ?_
  by_cases c : i < ls.length
  · unfold rotL at hl ⊢
    rw [rot_get? (by rw [hl]; exact hm) (by rw [hl]; exact c), hl, rot_get? hs (Nat.mod_lt _ h0)]
    congr 1
    rw [Nat.add_mod_mod, Nat.mod_add_mod, show i + (ls.length - s) + s = i + ls.length by omega, Nat.add_mod_right, Nat.mod_eq_of_lt c]
  · have h2 : (rotL (rotL ls s) ((ls.length - s) % ls.length)).length = ls.length := by rw [rot_len (by rw [hl]; omega), hl]
    rw [List.getElem?_eq_none (by omega), List.getElem?_eq_none (by omega)]
/-- lots that go over into lots -/
structure LotMap (ls ms : List Int) (j k : Nat) : Prop where
  len : ms.length = ls.length
  get : ms.getD k 0 = ls.getD j 0
  fwd : ∀ l ∈ lotsN ls.length, ∃ m ∈ lotsN ms.length, gapE ms m = gapE ls l ∧ hasB m k = hasB l j
  bwd : ∀ m ∈ lotsN ms.length, ∃ l ∈ lotsN ls.length, gapE ls l = gapE ms m ∧ hasB l j = hasB m k
theorem rot_map {ls : List Int} {s j : Nat} (hs : s < ls.length) (hj : j < ls.length) : LotMap ls (rotL ls s) j ((j + (ls.length - s)) % ls.length) := by
  have h0 : 0 < ls.length := by omega
  have hl := rot_len (ls := ls) (s := s) (by omega)
  have hk : (j + (ls.length - s)) % ls.length < ls.length := Nat.mod_lt _ h0
  have e1 : ((j + (ls.length - s)) % ls.length + s) % ls.length = j := by rw [Nat.mod_add_mod, show j + (ls.length - s) + s = j + ls.length by omega, Nat.add_mod_right, Nat.mod_eq_of_lt hj]
  refine ⟨hl, ?_, fun l hm => ?_, fun m hm => ?_⟩
  · rw [rot_get hs hk, e1]
  · obtain ⟨m, a, b, c⟩ := rot_lot hs hm
    refine ⟨m, by rw [hl]; exact a, b, ?_⟩
    rw [c _ hk, e1]
  · have hb : (ls.length - s) % ls.length < (rotL ls s).length := by rw [hl]; exact Nat.mod_lt _ h0
    obtain ⟨l, a, b, c⟩ := rot_lot hb hm
    rw [rot_back hs] at b
    rw [hl] at a c
    refine ⟨l, a, b, ?_⟩
    rw [c j hj, Nat.add_mod_mod]
theorem LotMap.down {ls ms : List Int} {j k : Nat} {d : Int} (M : LotMap ls ms j k) (h : DownN ls j d) : DownN ms k d := by
  refine ⟨by rw [M.get]; exact h.bar, fun m w p => ?_, ?_⟩
  · obtain ⟨l, a, b, c⟩ := M.bwd m w.m
    rw [← b] at p ⊢
    exact h.all l ⟨a, by rw [c]; exact w.h⟩ p
  · rcases h.ex with z | ⟨l, w, p, z⟩
    · exact .inl (by rw [M.get]; exact z)
    · obtain ⟨m, a, b, c⟩ := M.fwd l w.m
      exact .inr ⟨m, ⟨a, by rw [c]; exact w.h⟩, by rw [b]; exact p, by rw [b]; exact z⟩
theorem LotMap.up {ls ms : List Int} {j k : Nat} (M : LotMap ls ms j k) : ∀ {o : Option Int}, UpN ls j o → UpN ms k o
  | none, h => fun m w p => by
    obtain ⟨l, a, b, c⟩ := M.bwd m w.m
    rw [← b] at p
    exact h l ⟨a, by rw [c]; exact w.h⟩ p
  | some u, ⟨h1, l, w, p, z⟩ => by
    refine ⟨fun m w p => ?_, ?_⟩
    · obtain ⟨l, a, b, c⟩ := M.bwd m w.m
      rw [← b] at p ⊢
      exact h1 l ⟨a, by rw [c]; exact w.h⟩ p
    · obtain ⟨m, a, b, c⟩ := M.fwd l w.m
      exact ⟨m, ⟨a, by rw [c]; exact w.h⟩, by rw [b]; exact p, by rw [b]; exact z⟩
theorem LotMap.er {ls ms : List Int} {j k : Nat} (M : LotMap ls ms j k) (bd : Bd 1000000 ms) (e : Er ls) : Er ms := by
  refine ⟨by rw [M.len]; exact e.l3, by rw [M.len]; exact e.l8, bd, ?_⟩
  rw [Bool.eq_false_iff]
  intro z
  rw [level_lots, List.any_eq_true] at z
  obtain ⟨m, hm, q⟩ := z
  have q := of_decide_eq_true q
  obtain ⟨l, a, b, _⟩ := M.bwd m hm
  have := e.gap a
  have : gapE ms m = 0 := by unfold gapE; omega
  omega
theorem rot_bd {m : Int} {ls : List Int} {s : Nat} (bd : Bd m ls) : Bd m (rotL ls s) := fun x hx => by
  unfold rotL at hx
  rcases List.mem_append.mp hx with h | h
  · exact bd x (List.mem_of_mem_drop h)
  · exact bd x (List.mem_of_mem_take h)
theorem bar_mod {j s n : Nat} (hs : s < n) (hj : j < n) : ((j : Int) - (s : Int)) % (n : Int) = (((j + (n - s)) % n : Nat) : Int) := by
  rw [Int.natCast_emod, Int.natCast_add, Int.natCast_sub (by omega)]
  have : (j : Int) + ((n : Int) - (s : Int)) = (j : Int) - s + n := by omega
  rw [this, Int.add_emod_right]
end K
namespace K
open PySem L2 Rg LamX NdefX
open Evl (pss_cut)
def nfS (st : Stmt) (x qual : Str) (cc c : Addr) : NF := ⟨x, qual, defArgs st, defBody st, defScope st, [(("__class__" : Str), cc)], c⟩
/-- what a tuple holds -/
theorem fv_list {H : Hp} {n : Nat} {t : Addr} {ds : List PyData} (h : FV H false (n + 1) (.ref t) (.tuple ds)) : ∃ xs, H t = some (.tup xs) ∧ Paired (FV H false n) xs ds := by
  rcases h with (⟨_, z, _⟩ | ⟨z, _⟩ | ⟨_, z, _⟩) | ⟨t', xs, es, e1, ht, e2, l2, p2⟩
  · cases z
  · cases z
  · cases z
  · cases e1
    cases e2
    rcases ht with ht | ⟨z, _⟩
    · exact ⟨xs, ht, p2⟩
    · cases z
/-! ### papers -/
/-- a paper of the class C: its fields, what its parts hold -/
def PapG (C : Addr) (word : Str) (fs : List (Str × V)) (H : Hp) (r : Addr) : Prop := ∃ dx t, H r = some (.ins C dx (("word", .str word) :: ("parts", .ref t) :: fs)) ∧ H t = some (.tup (fs.map (·.2)))
theorem PapG.ext {C : Addr} {word : Str} {fs : List (Str × V)} {H H' : Hp} {r : Addr} (h : PapG C word fs H r) (s : ExtN H H') : PapG C word fs H' r := by
  obtain ⟨dx, t, h1, h2⟩ := h
  exact ⟨dx, t, s _ _ h1 (fun _ q => nomatch q), s _ _ h2 (fun _ q => nomatch q)⟩
abbrev fsS (a b c d : V) : List (Str × V) := [("down", a), ("up", b), ("low_lot", c), ("high_lot", d)]
section
variable {P : Program} {w : World} {K : PySem.W.Frag} {mg : Str → Option Value} {base : Heap}
structure SlackC (K : PySem.W.Frag) (mg : Str → Option Value) (C : Addr) : Prop where
  pc : PapC K C
  nd : NoAttr K C "down"
  nu : NoAttr K C "up"
  nl : NoAttr K C "low_lot"
  nh : NoAttr K C "high_lot"
  g : mg "Slack" = some (.ref C)
def spSI (K : PySem.W.Frag) (C : Addr) (n : Nat) : Sp := fun vs H Q _ => ∃ (r dx : Addr) (v1 v2 v3 v4 : V) (d1 d2 d3 d4 : PyData), vs = [.ref r, v1, v2, v3, v4] ∧ H r = some (.ins C dx []) ∧ FV H true n v1 d1 ∧ FV H true n v2 d2 ∧ FV H true n v3 d3 ∧ FV H true n v4 d4 ∧
  ∀ va vb vc vd H', But r H H' → FV H' false n va d1 → FV H' false n vb d2 → FV H' false n vc d3 → FV H' false n vd d4 → PapG C "slack" (fsS va vb vc vd) H' r → Q .non H'
abbrev nSI : List Str := ["self", "down", "up", "low_lot", "high_lot", "__class__"]
theorem scSI : NScope nSI ((("self" : Str)) :: (["down", "up", "low_lot", "high_lot"] : List Str)) ["__class__"] (defScope sSlackInit) := nscope_by (by decide +kernel)
theorem ok_si {n : Nat} {f c cc C f2 : Addr} {fd : FuncData} (F : FunS K "__init__" "Slack.__init__" sSlackInit f c cc fd) (T : SupAt P K mg (nfS sSlackInit "__init__" "Slack.__init__" cc c) f C cc) (R : SlackC K mg C) (TO : SupTo K C C f2) (PI : FnR P w K mg base CX0 (n + 3) f2 (spPIR K n)) :
    FnOk P w K mg base CX0 (n + 4) f fd ["self", "down", "up", "low_lot", "high_lot"] (spSI K C n) := by
  obtain ⟨oc, od, kV, doc, pm, an, ct, osl, rfl, lk, hcd⟩ := F.ex
  refine fn_super (CX2 := CX0) (f2 := f2) (sp2 := spPIR K n) (F := nfS sSlackInit "__init__" "Slack.__init__" cc c) (N := nSI) (ps := ["down", "up", "low_lot", "high_lot"]) (sp := spSI K C n) (k := n + 3) lk hcd scSI T rfl (fun vs H Q E h => ?_) (fun _ => rfl) (fun _ => rfl) (fun _ => ⟨_, rfl⟩) (fun _ _ => rfl) (fun _ _ => rfl) fun A outer s H vs Q E hr h => ?_
  · obtain ⟨r, dx, v1, v2, v3, v4, d1, d2, d3, d4, rfl, _⟩ := h
    rfl
  · obtain ⟨r, dx, v1, v2, v3, v4, d1, d2, d3, d4, rfl, hr0, f1, f2', f3, f4, q⟩ := h
    refine ⟨r, C, dx, [], _, _, _, _, rfl, hr0, R.pc.cl, TO, PI, pass0, (pa_cons pe_str (pa_cons (pv 1) (pa_cons (pv 2) (pa_cons (pv 3) (pa_cons (pv 4) pa_nil))))),
      (pss_cons (ps_fld (pv 0) (pe_ix (r := rIxT K) ix_tup (pe_fld (pv 0) rfl) pe_int (fun _ _ => rfl)) rfl)
      (pss_cons (ps_fld (pv 0) (pe_ix (r := rIxT K) ix_tup (pe_fld (pv 0) rfl) pe_int (fun _ _ => rfl)) rfl)
      (pss_cons (ps_fld (pv 0) (pe_ix (r := rIxT K) ix_tup (pe_fld (pv 0) rfl) pe_int (fun _ _ => rfl)) rfl)
      (pss_one (ps_fld (pv 0) (pe_ix (r := rIxT K) ix_tup (pe_fld (pv 0) rfl) pe_int (fun _ _ => rfl)) rfl))))), ?_⟩
    refine ⟨_, rfl, _, rfl, _, rfl, _, rfl, r, C, dx, "slack", [v1, v2, v3, v4], [d1, d2, d3, d4], rfl, hr0, R.pc, .cons f1 (.cons f2' (.cons f3 (.cons f4 .nil))), (by show 4 ≤ 1000; decide), fun t H1 s1 fv hr1 => ?_⟩
    obtain ⟨xs, ht, px⟩ := fv_list fv
    obtain ⟨va, vb, vc, vd, rfl, g1, g2, g3, g4⟩ : ∃ va vb vc vd, xs = [va, vb, vc, vd] ∧ FV H1 false n va d1 ∧ FV H1 false n vb d2 ∧ FV H1 false n vc d3 ∧ FV H1 false n vd d4 := by
      cases px with
      | cons a p => cases p with
        | cons b p => cases p with
          | cons c p => cases p with
            | cons d p => cases p; exact ⟨_, _, _, _, rfl, a, b, c, d⟩
    have tr : t ≠ r := fun z => by rw [z, hr1] at ht; cases ht
    refine ⟨_, rfl, r, C, dx, _, _, rfl, hr1, R.pc.cl, R.pc.np, rfl, t, _, 0, va, rfl, rfl, .inl (.inl ht), rfl, _, rfl, r, C, dx, _, rfl, hr1, R.pc.cl, R.nd, (by show 2 < 1000; decide), ?_⟩
    have hr2 : upd H1 r (.ins C dx (putF "down" va [("word", .str "slack"), ("parts", .ref t)])) r = some (.ins C dx [("word", .str "slack"), ("parts", .ref t), ("down", va)]) := upd_same
    have s2 : But r H1 (upd H1 r (.ins C dx (putF "down" va [("word", .str "slack"), ("parts", .ref t)]))) := fun b o ne e => by rw [upd_ne ne]; exact e
    generalize upd H1 r (.ins C dx (putF "down" va [("word", .str "slack"), ("parts", .ref t)])) = H2 at hr2 s2 ⊢
    have ht2 := s2 _ _ tr ht
    refine ⟨_, rfl, r, C, dx, _, _, rfl, hr2, R.pc.cl, R.pc.np, rfl, t, _, 1, vb, rfl, rfl, .inl (.inl ht2), rfl, _, rfl, r, C, dx, _, rfl, hr2, R.pc.cl, R.nu, (by show 3 < 1000; decide), ?_⟩
    have hr3 : upd H2 r (.ins C dx (putF "up" vb [("word", .str "slack"), ("parts", .ref t), ("down", va)])) r = some (.ins C dx [("word", .str "slack"), ("parts", .ref t), ("down", va), ("up", vb)]) := upd_same
    have s3 : But r H2 (upd H2 r (.ins C dx (putF "up" vb [("word", .str "slack"), ("parts", .ref t), ("down", va)]))) := fun b o ne e => by rw [upd_ne ne]; exact e
    generalize upd H2 r (.ins C dx (putF "up" vb [("word", .str "slack"), ("parts", .ref t), ("down", va)])) = H3 at hr3 s3 ⊢
    have ht3 := s3 _ _ tr ht2
    refine ⟨_, rfl, r, C, dx, _, _, rfl, hr3, R.pc.cl, R.pc.np, rfl, t, _, 2, vc, rfl, rfl, .inl (.inl ht3), rfl, _, rfl, r, C, dx, _, rfl, hr3, R.pc.cl, R.nl, (by show 4 < 1000; decide), ?_⟩
    have hr4 : upd H3 r (.ins C dx (putF "low_lot" vc [("word", .str "slack"), ("parts", .ref t), ("down", va), ("up", vb)])) r = some (.ins C dx [("word", .str "slack"), ("parts", .ref t), ("down", va), ("up", vb), ("low_lot", vc)]) := upd_same
    have s4 : But r H3 (upd H3 r (.ins C dx (putF "low_lot" vc [("word", .str "slack"), ("parts", .ref t), ("down", va), ("up", vb)]))) := fun b o ne e => by rw [upd_ne ne]; exact e
    generalize upd H3 r (.ins C dx (putF "low_lot" vc [("word", .str "slack"), ("parts", .ref t), ("down", va), ("up", vb)])) = H4 at hr4 s4 ⊢
    have ht4 := s4 _ _ tr ht3
    refine ⟨_, rfl, r, C, dx, _, _, rfl, hr4, R.pc.cl, R.pc.np, rfl, t, _, 3, vd, rfl, rfl, .inl (.inl ht4), rfl, _, rfl, r, C, dx, _, rfl, hr4, R.pc.cl, R.nh, (by show 5 < 1000; decide), ?_⟩
    have s5 : But r H4 (upd H4 r (.ins C dx (putF "high_lot" vd [("word", .str "slack"), ("parts", .ref t), ("down", va), ("up", vb), ("low_lot", vc)]))) := fun b o ne e => by rw [upd_ne ne]; exact e
    have al : ∀ {v : V} {d : PyData}, FV H1 false n v d → FV (upd H4 r (.ins C dx (putF "high_lot" vd [("word", .str "slack"), ("parts", .ref t), ("down", va), ("up", vb), ("low_lot", vc)]))) false n v d := fun g => (((g.but hr1 s2).but hr2 s3).but hr3 s4).but hr4 s5
    exact q va vb vc vd _ ((((s1.trans s2).trans s3).trans s4).trans s5) (al g1) (al g2) (al g3) (al g4) ⟨dx, t, upd_same, s5 _ _ tr ht4⟩
end
end K
namespace K
open PySem L2 Rg LamX
open Evl (pss_cut)
structure Bi2 (mg : Str → Option Value) : Prop where
  min : mg "min" = none
def oI : Option Int → V
  | none => .non
  | some i => .int i
theorem hasB_in {j : Nat} {ns : List Int} : inV (.int (j : Nat)) (ns.map V.int) = hasB ns j := inV_int _ _
theorem par_self {l : List Int} : l.map V.int = l.map V.int := rfl
section
variable {P : Program} {w : World} {K : PySem.W.Frag} {mg : Str → Option Value} {base : Heap}
/-! ### stops_down, stops_up -/
def spSD (K : PySem.W.Frag) (C : Addr) : Sp := fun vs H Q _ => ∃ (r m : Addr) (ls ns : List Int) (j : Nat) (b : Int), vs = [.ref r, .int (j : Nat), .int b, .ref m] ∧ RingW K C H r ls ∧ 3 ≤ ls.length ∧ ls.length ≤ 8 ∧ H m = some (.tup (ns.map V.int)) ∧ Lot ls.length ns ∧
  ∀ H', Same H H' → Q (.bl (pdB ls j b ns)) H'
def spSU (K : PySem.W.Frag) (C : Addr) : Sp := fun vs H Q _ => ∃ (r m : Addr) (ls ns : List Int) (j : Nat) (b : Int), vs = [.ref r, .int (j : Nat), .int b, .ref m] ∧ RingW K C H r ls ∧ 3 ≤ ls.length ∧ ls.length ≤ 8 ∧ H m = some (.tup (ns.map V.int)) ∧ Lot ls.length ns ∧
  ∀ H', Same H H' → Q (.bl (puB ls j b ns)) H'
theorem scSD : FnScope ["ring", "bar", "down", "lot"] ["ring", "bar", "down", "lot"] (defScope sStopsDown) := ⟨rfl, rfl, rfl, by decide +kernel, rfl, by decide +kernel, by decide +kernel⟩
theorem scSU : FnScope ["ring", "bar", "up", "lot"] ["ring", "bar", "up", "lot"] (defScope sStopsUp) := ⟨rfl, rfl, rfl, by decide +kernel, rfl, by decide +kernel, by decide +kernel⟩
theorem ok_sd {C f fX : Addr} {fd fdX : FuncData} (F : Fun K "stops_down" "stops_down" sStopsDown f fd) (R : RingC K mg C) (EX : DefAt P w K mg base CX0 2 "excess_of" ["lengths", "lot"] (spEx K) fX fdX) : FnOk P w K mg base CX0 4 f fd ["ring", "bar", "down", "lot"] (spSD K C) := by
  refine F.ok scSD (fun vs H Q E h => ?_) (fun cdv A outer s H vs Q E hr h => ?_)
  · obtain ⟨r, m, ls, ns, j, b, rfl, _⟩ := h
    rfl
  · have nd := scSD.nd
    refine ⟨_, (pss_one (ps_ret (pe_and (pe_cmpR op_in_seq (pv 1) (pv 3) (by rfl)) (pe_one (pe_chain op_lt op_le pe_int (pe_call EX.ok (hr.mono (by decide)) rfl EX.g EX.kp EX.b .nil pass0 (pa_cons (pe_fld (pv 0) rfl) (pa_cons (pv 3) pa_nil))) (pe_op op_add (pv 2) pe_int)))))), ?_⟩
    obtain ⟨r, m, ls, ns, j, b, rfl, ra, l3, l8, hm, lot, q⟩ := h
    obtain ⟨dx, t, hr0, ht⟩ := id ra
    refine ⟨_, rfl, _, rfl, m, _, rfl, .inr (.inl (.inl hm)), rfl, flat_ints _, _, rfl, ?_⟩
    show (if inV (.int (j : Nat)) (ns.map V.int) = true then _ else _)
    rw [hasB_in]
    unfold pdB at q
    cases c : hasB ns j with
    | false =>
      rw [c] at q
      exact iteF (q H (Same.refl H))
    | true =>
      rw [c] at q
      refine iteT ?_
      refine ⟨_, rfl, r, C, dx, _, _, rfl, hr0, R.cl, R.nL, rf_lengths _ _, _, rfl, t, m, ls, ns, rfl, .inr ht, hm, l8, Nat.le_trans (lot_len lot) l8, lot, fun H1 s1 => ?_⟩
      refine ⟨_, _, rfl, rfl, _, rfl, ?_⟩
      by_cases c1 : 0 < gapE ls ns
      · refine iteBT (decide_eq_true c1) ⟨_, rfl, _, _, rfl, rfl, _, _, rfl, rfl, ?_⟩
        have := q H1 s1
        rw [decide_eq_true c1] at this
        exact this
      · refine iteBF (decide_eq_false c1) ?_
        have := q H1 s1
        rw [decide_eq_false c1] at this
        exact this
theorem ok_su {C f fX : Addr} {fd fdX : FuncData} (F : Fun K "stops_up" "stops_up" sStopsUp f fd) (R : RingC K mg C) (EX : DefAt P w K mg base CX0 2 "excess_of" ["lengths", "lot"] (spEx K) fX fdX) : FnOk P w K mg base CX0 4 f fd ["ring", "bar", "up", "lot"] (spSU K C) := by
  refine F.ok scSU (fun vs H Q E h => ?_) (fun cdv A outer s H vs Q E hr h => ?_)
  · obtain ⟨r, m, ls, ns, j, b, rfl, _⟩ := h
    rfl
  · have nd := scSU.nd
    refine ⟨_, (pss_one (ps_ret (pe_and (pe_cmpR op_in_seq (pv 1) (pv 3) (by rfl)) (pe_one (pe_chain op_le op_lt (pe_op op_sub (pe_un un_neg (pv 2)) pe_int) (pe_call EX.ok (hr.mono (by decide)) rfl EX.g EX.kp EX.b .nil pass0 (pa_cons (pe_fld (pv 0) rfl) (pa_cons (pv 3) pa_nil))) pe_int))))), ?_⟩
    obtain ⟨r, m, ls, ns, j, b, rfl, ra, l3, l8, hm, lot, q⟩ := h
    obtain ⟨dx, t, hr0, ht⟩ := id ra
    refine ⟨_, rfl, _, rfl, m, _, rfl, .inr (.inl (.inl hm)), rfl, flat_ints _, _, rfl, ?_⟩
    show (if inV (.int (j : Nat)) (ns.map V.int) = true then _ else _)
    rw [hasB_in]
    unfold puB at q
    cases c : hasB ns j with
    | false =>
      rw [c] at q
      exact iteF (q H (Same.refl H))
    | true =>
      rw [c] at q
      refine iteT ?_
      refine ⟨_, rfl, _, rfl, _, _, rfl, rfl, ?_⟩
      refine ⟨_, rfl, r, C, dx, _, _, rfl, hr0, R.cl, R.nL, rf_lengths _ _, _, rfl, t, m, ls, ns, rfl, .inr ht, hm, l8, Nat.le_trans (lot_len lot) l8, lot, fun H1 s1 => ?_⟩
      refine ⟨_, _, rfl, rfl, _, rfl, ?_⟩
      by_cases c1 : -b - 1 ≤ gapE ls ns
      · refine iteBT (decide_eq_true c1) ⟨_, _, rfl, rfl, ?_⟩
        have := q H1 s1
        rw [decide_eq_true c1] at this
        exact this
      · refine iteBF (decide_eq_false c1) ?_
        have := q H1 s1
        rw [decide_eq_false c1] at this
        exact this
/-! ### first_or_none -/
def spFN (K : PySem.W.Frag) : Sp := fun vs H Q _ => ∃ (l : Addr) (xs : List V), vs = [.ref l] ∧ H l = some (.lst xs) ∧ ((xs = [] ∧ Q .non H) ∨ ∃ x rest, xs = x :: rest ∧ Q x H)
theorem scFN : FnScope ["lots"] ["lots"] (defScope sFirstOrNone) := ⟨rfl, rfl, rfl, by decide +kernel, rfl, by decide +kernel, by decide +kernel⟩
theorem ok_fn {f : Addr} {fd : FuncData} (F : Fun K "first_or_none" "first_or_none" sFirstOrNone f fd) (T : Bi mg) : FnOk P w K mg base CX0 1 f fd ["lots"] (spFN K) := by
  refine F.ok scFN (fun vs H Q E h => ?_) (fun cdv A outer s H vs Q E hr h => ?_)
  · obtain ⟨l, xs, rfl, _⟩ := h
    rfl
  · have nd := scFN.nd
    refine ⟨_, (pss_one (ps_ret (pe_ifExp (pt_cmpR op_gt (pe_callB (r := rLenS K) call_len_seq (by rfl) T.len PySem.boot_len (pa_cons (pv 0) pa_nil)) pe_int (nomark _)) (pe_ix (r := rIxL K) ix_list (pv 0) pe_int (fun _ _ => rfl)) pe_non))), ?_⟩
    obtain ⟨l, xs, rfl, hl, h⟩ := h
    refine ⟨_, rfl, l, _, rfl, .inl (SqL.of hl), _, _, rfl, rfl, _, rfl, ?_⟩
    rcases h with ⟨rfl, q⟩ | ⟨x, rest, rfl, q⟩
    · exact iteDF (by decide) q
    · exact iteDT (by rw [List.length_cons]; omega) ⟨_, rfl, l, _, 0, x, rfl, rfl, SqL.of hl, atI_nat (j := 0) rfl, q⟩
/-! ### slack_numbers -/
def spSN (K : PySem.W.Frag) (C : Addr) (T : List (Addr × Str)) : Sp := fun vs H Q _ => ∃ (r : Addr) (j : Nat) (ls : List Int), vs = [.ref r, .int (j : Nat)] ∧ RingW K C H r ls ∧ 3 ≤ ls.length ∧ ls.length ≤ 8 ∧ j < ls.length ∧ Tabs T H ∧
  ∀ t d o H', ExtN H H' → Tabs T H' → DownN ls j d → UpN ls j o → H' t = some (.tup [.int d, oI o]) → Q (.ref t) H'
abbrev nSN : List Str := ["ring", "bar", "gaps", "down", "ups", "lot", "gap"]
theorem scSN : FnScope nSN ["ring", "bar"] (defScope sSlackNumbers) := ⟨rfl, rfl, rfl, by decide +kernel, rfl, by decide +kernel, by decide +kernel⟩
theorem ok_sn {C f fX fL fN : Addr} {fd fdX fdL fdN : FuncData} {TB : List (Addr × Str)} (F : Fun K "slack_numbers" "slack_numbers" sSlackNumbers f fd) (T : Bi mg) (B2 : Bi2 mg) (R : RingC K mg C) (EX : DefAt P w K mg base CX0 2 "excess_of" ["lengths", "lot"] (spEx K) fX fdX)
    (LO : DefAt P w K mg base CX0 4 "lots_of" ["many"] (spLotsOf K TB) fL fdL) (NM : Meth K C "__len__" fN) (NL : FnOk P w K mg base CX0 1 fN fdN ["self"] (spRLen K C)) (NLB : Binds K fdN ["self"] []) : FnOk P w K mg base CX0 6 f fd ["ring", "bar"] (spSN K C TB) := by
  refine F.ok scSN (fun vs H Q E h => ?_) (fun cdv A outer s H vs Q E hr h => ?_)
  · obtain ⟨r, j, ls, rfl, _⟩ := h
    rfl
  · have nd := scSN.nd
    refine ⟨_, (pss_cons (ps_setLc (i := 2) (own := [("lot", 5)]) (g := (gName 5)) (tt := tTest (tOp (rIn K false) (tVar 1) (tVar 5))) (te := (tCall (spEx K) [] E0 (tCons (tFld K (tVar 0) "lengths") (tCons (tVar 5) tNil))))  rfl nd rfl rfl (sw_true rfl rfl rfl (by decide +kernel)) (pi_tup (pe_call LO.ok (hr.mono (by decide)) rfl LO.g LO.kp LO.b .nil pass0 (pa_cons (pe_callB (call_lenO NL (hr.mono (by decide)) NLB) (by rfl) T.len PySem.boot_len (pa_cons (pv 0) pa_nil)) pa_nil)))
          (blkOk_by (N := nSN) (sc := defScope sSlackNumbers) (by decide +kernel)) (fun _ _ _ _ _ => (pg_name (i := 5) nd rfl (Or.inl rfl))) (fun _ _ _ _ _ => (pts_one (pt_cmpR op_in_seq (pv 1) (pv 5) (by rfl)))) (fun _ _ _ _ _ => (pe_call EX.ok (hr.mono (by decide)) rfl EX.g EX.kp EX.b .nil pass0 (pa_cons (pe_fld (pv 0) rfl) (pa_cons (pv 5) pa_nil)))))
      (pss_cons (ps_set (i := 3) nd rfl (Or.inl rfl) (pe_op op_sub (pe_callB (cr_min rfl) (by rfl) B2.min (by decide +kernel) (pa_cons (pe_op op_cat (pe_lc (own := [("gap", 6)]) (g := (gName 6)) (tt := tTest (tOp (rI0 fun i j => .bl (decide (j < i))) (tVar 6) (tC (.int 0)))) (te := tVar 6)  rfl nd (pi_list (pv 2))
          (blkOk_by (N := nSN) (sc := defScope sSlackNumbers) (by decide +kernel)) (fun _ _ _ _ _ => (pg_name (i := 6) nd rfl (Or.inl rfl))) (fun _ _ _ _ _ => (pts_one (pt_cmpR op_gt (pv 6) pe_int (nomark _)))) (fun _ _ _ _ _ => (pv 6))) (pe_lst (pa_cons (pe_ix (r := rIxT K) ix_tup (pe_fld (pv 0) rfl) (pv 1) (fun _ _ => rfl)) pa_nil))) pa_nil)) pe_int))
      (pss_cons (ps_setLc (i := 4) (own := [("gap", 6)]) (g := (gName 6)) (tt := tTest (tOp (rI0 fun i j => .bl (decide (i < j))) (tVar 6) (tC (.int 0)))) (te := tOp (rI0 fun i j => .int (i - j)) (tUn (rU fun i => .int (-i)) (tVar 6)) (tC (.int 1)))  rfl nd rfl rfl (sw_true rfl rfl rfl (by decide +kernel)) (pi_list (pv 2))
          (blkOk_by (N := nSN) (sc := defScope sSlackNumbers) (by decide +kernel)) (fun _ _ _ _ _ => (pg_name (i := 6) nd rfl (Or.inl rfl))) (fun _ _ _ _ _ => (pts_one (pt_cmpR op_lt (pv 6) pe_int (nomark _)))) (fun _ _ _ _ _ => (pe_op op_sub (pe_un un_neg (pv 6)) pe_int)))
      (pss_one (ps_ret (pe_tup (pa_cons (pv 3) (pa_cons (pe_ifExp (pt_cmpR (op_eqD hr.units) (pv 4) (pe_lst pa_nil) (nomark _)) pe_non (pe_callB (cr_min rfl) (by rfl) B2.min (by decide +kernel) (pa_cons (pv 4) pa_nil))) pa_nil)))))))), ?_⟩
    obtain ⟨r, j, ls, rfl, ra, l3, l8, hj, tab, q⟩ := h
    obtain ⟨dx, t, hr0, ht⟩ := id ra
    refine ⟨_, rfl, r, C, dx, _, rfl, hr0, NM.at_, NM.fn, r, ls, rfl, ra, _, rfl, by omega, by omega, ls.length, rfl, by omega, l8, tab, fun p xs kf H1 e1 tab1 hp la pm pw => ⟨p, rfl, ⟨_, .inl (.inl hp)⟩, fun D hD => ?_⟩⟩
    have ra1 := ra.ext e1
    obtain ⟨dx1, t1, hr1, ht1⟩ := id ra1
    have lots : ∀ y ∈ xs, kf y ∈ lotsN ls.length := fun y hy => pm.mem_iff.mp (List.mem_map.mpr ⟨_, hy, rfl⟩)
    have xl : xs.length = 2 ^ ls.length := by
      have e := pm.length_eq
      rw [List.length_map, lotsN_length] at e
      exact e
    have x2 : xs.length ≤ 256 := by
      rw [xl]
      exact Nat.pow_le_pow_right (by decide) (show ls.length ≤ 8 by omega)
    refine lc_tup (K := K) (a := p) (xs := xs) (fun i H' => Same H1 H' ∧ H' D = some (.lst ((((xs.take i).filter fun y => hasB (kf y) j).map fun y => gapE ls (kf y)).map V.int))) ⟨(Same.refl H1).new hD, upd_same⟩ (fun i H' _ q => .inl (.inl (q.1 _ _ hp))) ?_ ?_
    · rintro i y H' hy ⟨s2, h2⟩
      have hym := List.mem_of_getElem? hy
      obtain ⟨a, rfl, ha⟩ := la y hym
      have lot := lotsN_lot (lots _ hym)
      refine ⟨rfl, _, rfl, _, rfl, a, _, rfl, .inr (.inl (.inl (s2 _ _ ha))), rfl, flat_ints _, _, rfl, ?_⟩
      show (if inV (.int (j : Nat)) ((kf (.ref a)).map V.int) = true then _ else _)
      rw [hasB_in, ← take_snoc hy, List.filter_append]
      cases c : hasB (kf (.ref a)) j with
      | false =>
        refine iteF ⟨s2, ?_⟩
        rw [h2]
        simp [List.filter, c]
      | true =>
        refine iteT ⟨_, rfl, r, C, dx1, _, _, rfl, s2 _ _ hr1, R.cl, R.nL, rf_lengths _ _, _, rfl, t1, a, ls, kf (.ref a), rfl, .inr (s2.tup ht1), s2 _ _ ha, l8, Nat.le_trans (lot_len lot) l8, lot, fun H3 s3 => ?_⟩
        refine ⟨_, s3 _ _ h2, ?_, (s2.trans s3).mut hD, ?_⟩
        · rw [List.length_map, List.length_map]
          exact sm (Nat.le_trans (List.length_filter_le ..) (by rw [List.length_take]; omega))
        · rw [upd_same]
          simp [List.filter, c]
    rintro H2 ⟨s2, h2⟩
    rw [List.take_length] at h2
    generalize hg : ((xs.filter fun y => hasB (kf y) j).map fun y => gapE ls (kf y)) = GS at h2
    have gm : ∀ z, z ∈ GS ↔ ∃ l, WithL ls j l ∧ gapE ls l = z := fun z => by
      rw [← hg, List.mem_map]
      constructor
      · rintro ⟨y, hy, e⟩
        have hy := List.mem_filter.mp hy
        exact ⟨kf y, ⟨lots y hy.1, hy.2⟩, e⟩
      · rintro ⟨l, wl, e⟩
        obtain ⟨y, hy, ey⟩ := List.mem_map.mp (pm.mem_iff.mpr wl.m)
        exact ⟨y, List.mem_filter.mpr ⟨hy, by show hasB (kf y) j = true; rw [ey]; exact wl.h⟩, by rw [ey]; exact e⟩
    have gl : GS.length ≤ 256 := by
      rw [← hg, List.length_map]
      exact Nat.le_trans (List.length_filter_le ..) x2
    clear hg
    have ra2 := ra1.same s2
    obtain ⟨dx2, t2, hr2, ht2⟩ := id ra2
    -- down
    refine ⟨_, rfl, D, rfl, ⟨_, SqL.of h2⟩, fun D2 hD2 => ?_⟩
    refine lc_list (K := K) (a := D) (xs := GS.map V.int) (fun i H' => Same H2 H' ∧ H' D2 = some (.lst (((GS.take i).filter fun z => decide (0 < z)).map V.int))) ⟨(Same.refl H2).new hD2, upd_same⟩ (fun i H' _ q => q.1.seq (SqL.of h2)) ?_ ?_
    · rintro i y H' hy ⟨s3, h3⟩
      obtain ⟨z, hz, rfl⟩ := int_at hy
      refine ⟨rfl, _, rfl, _, _, rfl, rfl, _, rfl, ?_⟩
      rw [← take_snoc hz, List.filter_append]
      by_cases c : 0 < z
      · refine iteBT (decide_eq_true c) ⟨_, rfl, _, h3, ?_, s3.mut hD2, ?_⟩
        · rw [List.length_map]
          exact sm (Nat.le_trans (List.length_filter_le ..) (by rw [List.length_take]; omega))
        · rw [upd_same]
          simp [List.filter, c]
      · refine iteBF (decide_eq_false c) ⟨s3, ?_⟩
        rw [h3]
        simp [List.filter, c]
    rintro H3 ⟨s3, h3⟩
    rw [List.length_map, List.take_length] at h3
    have g0 : ls[j]? = some (ls.getD j 0) := by rw [List.getD_eq_getElem?_getD, List.getElem?_eq_getElem hj]; rfl
    refine ⟨_, rfl, r, C, dx2, _, _, rfl, s3 _ _ hr2, R.cl, R.nL, rf_lengths _ _, _, rfl, t2, _, (j : Nat), .int (ls.getD j 0), rfl, rfl, s3.tup ht2, atI_nat (j := j) (by rw [List.getElem?_map, g0]; rfl), (by show 1 ≤ sizeLine; decide), fun u nu => ?_⟩
    have s4 : Same H3 (upd H3 u (.lst [.int (ls.getD j 0)])) := (Same.refl H3).new nu
    have hu : upd H3 u (.lst [.int (ls.getD j 0)]) u = some (.lst [.int (ls.getD j 0)]) := upd_same
    generalize upd H3 u (.lst [.int (ls.getD j 0)]) = H4 at s4 hu ⊢
    refine ⟨D2, u, _, _, rfl, rfl, s4 _ _ h3, hu, ?_, fun p2 np2 => ?_⟩
    · rw [List.length_map]
      exact Nat.le_of_lt (sm (Nat.le_trans (Nat.add_le_add_right (List.length_filter_le ..) 1) (by omega)))
    have s5 : Same H4 (upd H4 p2 (.lst (((GS.filter fun z => decide (0 < z)).map V.int) ++ [.int (ls.getD j 0)]))) := (Same.refl H4).new np2
    have hp2 : upd H4 p2 (.lst (((GS.filter fun z => decide (0 < z)).map V.int) ++ [.int (ls.getD j 0)])) p2 = some (.lst (((GS.filter fun z => decide (0 < z)) ++ [ls.getD j 0]).map V.int)) := by rw [upd_same, List.map_append]; rfl
    generalize upd H4 p2 (.lst (((GS.filter fun z => decide (0 < z)).map V.int) ++ [.int (ls.getD j 0)])) = H5 at s5 hp2 ⊢
    refine ⟨p2, _, rfl, SqL.of hp2, (by rw [List.length_append, List.length_singleton]; omega), fun mn hmn hle => ⟨_, _, rfl, rfl, ?_⟩⟩
    have s25 := (s3.trans s4).trans s5
    have dn : DownN ls j (mn - 1) := by
      refine ⟨?_, fun l wl p => ?_, ?_⟩
      · have := hle _ (List.mem_append.mpr (.inr (List.mem_singleton.mpr rfl)))
        omega
      · have := hle _ (List.mem_append.mpr (.inl (List.mem_filter.mpr ⟨(gm _).mpr ⟨l, wl, rfl⟩, decide_eq_true p⟩)))
        omega
      · rcases List.mem_append.mp hmn with h | h
        · obtain ⟨h1, h2⟩ := List.mem_filter.mp h
          obtain ⟨l, wl, e⟩ := (gm _).mp h1
          have h2 := of_decide_eq_true h2
          exact .inr ⟨l, wl, by omega, by omega⟩
        · have := List.mem_singleton.mp h
          exact .inl (by omega)
    -- ups
    have h25 := s25 _ _ h2
    refine ⟨_, rfl, D, rfl, ⟨_, SqL.of h25⟩, fun D3 hD3 => ?_⟩
    refine lc_list (K := K) (a := D) (xs := GS.map V.int) (fun i H' => Same H5 H' ∧ H' D3 = some (.lst ((((GS.take i).filter fun z => decide (z < 0)).map fun z => -z - 1).map V.int))) ⟨(Same.refl H5).new hD3, upd_same⟩ (fun i H' _ q => q.1.seq (SqL.of h25)) ?_ ?_
    · rintro i y H' hy ⟨s6, h6⟩
      obtain ⟨z, hz, rfl⟩ := int_at hy
      refine ⟨rfl, _, rfl, _, _, rfl, rfl, _, rfl, ?_⟩
      rw [← take_snoc hz, List.filter_append]
      by_cases c : z < 0
      · refine iteBT (decide_eq_true c) ⟨_, rfl, _, rfl, _, _, rfl, rfl, _, h6, ?_, s6.mut hD3, ?_⟩
        · rw [List.length_map, List.length_map]
          exact sm (Nat.le_trans (List.length_filter_le ..) (by rw [List.length_take]; omega))
        · rw [upd_same]
          simp [List.filter, c]
      · refine iteBF (decide_eq_false c) ⟨s6, ?_⟩
        rw [h6]
        simp [List.filter, c]
    rintro H6 ⟨s6, h6⟩
    rw [List.length_map, List.take_length] at h6
    refine ⟨_, rfl, _, rfl, (by show 0 ≤ sizeLine; decide), fun u2 nu2 => ?_⟩
    have s7 : Same H6 (upd H6 u2 (.lst [])) := (Same.refl H6).new nu2
    have hu2 : upd H6 u2 (.lst []) u2 = some (.lst []) := upd_same
    generalize upd H6 u2 (.lst []) = H7 at s7 hu2 ⊢
    have h7 := s7 _ _ h6
    have e17 := e1.trans (ExtN.of (((s2.trans s25).trans s6).trans s7))
    have tab7 := tab1.ext (((s2.trans s25).trans s6).trans s7)
    refine ⟨_, _, .lst (SqL.of h7) (dp_ints _), .lst (SqL.of hu2) .nil, shaped_ints _, shaped_nil, _, rfl, ?_⟩
    rw [eqv_nil]
    cases hf : GS.filter fun z => decide (z < 0) with
    | nil =>
      refine iteT ⟨(by show 2 ≤ sizeLine; decide), fun p3 np3 => ?_⟩
      refine q p3 (mn - 1) none _ (e17.trans (ExtN.of ((Same.refl H7).new np3))) (tab7.ext ((Same.refl H7).new np3)) dn (fun l wl z => ?_) upd_same
      exact List.filter_eq_nil_iff.mp hf _ ((gm _).mpr ⟨l, wl, rfl⟩) (decide_eq_true z)
    | cons g0 rest =>
      rw [hf] at h7
      refine iteF ⟨_, rfl, D3, _, rfl, SqL.of h7, (by rw [List.length_map, List.length_cons]; omega), fun mu hmu hlu => ⟨(by show 2 ≤ sizeLine; decide), fun p3 np3 => ?_⟩⟩
      rw [← hf] at hmu hlu
      refine q p3 (mn - 1) (some mu) _ (e17.trans (ExtN.of ((Same.refl H7).new np3))) (tab7.ext ((Same.refl H7).new np3)) dn ⟨fun l wl z => ?_, ?_⟩ upd_same
      · have := hlu _ (List.mem_map.mpr ⟨_, List.mem_filter.mpr ⟨(gm _).mpr ⟨l, wl, rfl⟩, decide_eq_true z⟩, rfl⟩)
        omega
      · obtain ⟨z, hz, e⟩ := List.mem_map.mp hmu
        obtain ⟨h1, h2⟩ := List.mem_filter.mp hz
        obtain ⟨l, wl, el⟩ := (gm _).mp h1
        have h2 := of_decide_eq_true h2
        exact ⟨l, wl, by omega, by omega⟩
end
end K
namespace K
open PySem L2 Rg LamX
open Evl (pss_cut)
theorem fv_int {H : Hp} {f : Bool} {n : Nat} {v : V} {b : Int} (h : FV H f n v (.int b)) : v = .int b := by
  have z : Atm v (.int b) := by
    cases n with
    | zero => exact h
    | succ n =>
      rcases h with h | ⟨_, _, _, _, _, e, _⟩
      · exact h
      · cases e
  rcases z with ⟨i, rfl, e⟩ | ⟨_, e⟩ | ⟨_, _, e⟩
  · cases e; rfl
  · cases e
  · cases e
theorem fv_non {H : Hp} {f : Bool} {n : Nat} {v : V} (h : FV H f n v .none) : v = .non := by
  have z : Atm v .none := by
    cases n with
    | zero => exact h
    | succ n =>
      rcases h with h | ⟨_, _, _, _, _, e, _⟩
      · exact h
      · cases e
  rcases z with ⟨i, _, e⟩ | ⟨rfl, e⟩ | ⟨_, _, e⟩
  · cases e
  · rfl
  · cases e
theorem fv_par {H : Hp} {f : Bool} {n : Nat} : ∀ {xs : List V} {l : List Int}, Paired (FV H f n) xs (l.map PyData.int) → xs = l.map V.int
  | [], [], _ => rfl
  | _ :: _, [], h => nomatch h
  | [], _ :: _, h => nomatch h
  | x :: xs, i :: l, .cons h t => by
    rw [fv_int h, fv_par t]
    rfl
theorem fv_lot {H : Hp} {n : Nat} {v : V} {l : List Int} (h : FV H false (n + 1) v (.tuple (l.map PyData.int))) : ∃ t, v = .ref t ∧ H t = some (.tup (l.map V.int)) := by
  rcases h with (⟨_, _, z⟩ | ⟨_, z⟩ | ⟨_, _, z⟩) | ⟨t, xs, es, rfl, ht, e2, l2, p2⟩
  · cases z
  · cases z
  · cases z
  · cases e2
    rcases ht with ht | ⟨z, _⟩
    · exact ⟨t, rfl, by rw [← fv_par p2]; exact ht⟩
    · cases z
/-- a lot, or None -/
def LotR (H : Hp) (o : Option (List Int)) (v : V) : Prop := (o = none ∧ v = .non) ∨ ∃ t l, o = some l ∧ v = .ref t ∧ H t = some (.tup (l.map V.int))
theorem LotR.ext {H H' : Hp} {o : Option (List Int)} {v : V} (h : LotR H o v) (s : ExtN H H') : LotR H' o v := by
  rcases h with h | ⟨t, l, e, a, b⟩
  · exact .inl h
  · exact .inr ⟨t, l, e, a, s _ _ b (fun _ q => nomatch q)⟩
def dO : Option Int → PyData
  | none => .none
  | some i => .int i
theorem fv_oI {H : Hp} {b : Bool} {n : Nat} : ∀ o, FV H b n (oI o) (dO o)
  | none => FV.non
  | some i => FV.int i
theorem fv_dO {H : Hp} {f : Bool} {n : Nat} {v : V} : ∀ {o : Option Int}, FV H f n v (dO o) → v = oI o
  | none, h => fv_non h
  | some i, h => fv_int h
/-- what a lot, or None, is as data -/
def lotO : Option (List Int) → PyData
  | none => .none
  | some l => .tuple (l.map PyData.int)
theorem LotR.fv {H : Hp} {o : Option (List Int)} {v : V} (h : LotR H o v) (l : ∀ m, o = some m → m.length ≤ 1000) : FV H false 1 v (lotO o) := by
  rcases h with ⟨rfl, rfl⟩ | ⟨t, m, rfl, rfl, ht⟩
  · exact FV.non
  · exact FV.tup ht (by rw [List.length_map]; exact l m rfl) (fv_ints _)
theorem fv_lotO {H : Hp} {v : V} : ∀ {o : Option (List Int)}, FV H false 1 v (lotO o) → LotR H o v
  | none, h => .inl ⟨rfl, fv_non h⟩
  | some l, h => by
    obtain ⟨t, rfl, ht⟩ := fv_lot h
    exact .inr ⟨t, l, rfl, rfl, ht⟩
/-- the first of the lots of a kind, of a list of them -/
theorem first_call {xs : List V} {kf : V → List Int} {n : Nat} {p : List Int → Bool} {D : Addr} {H : Hp} (hn : n ≤ 8) (pm : (xs.map kf).Perm (lotsN n)) (pw : xs.Pairwise fun u v => lotLe (kf u) (kf v) = true) (la : LotsAt H xs kf)
    (h : H D = some (.lst (xs.filter fun y => p (kf y)))) : ∃ us v o, H D = some (.lst us) ∧ FirstP n p o ∧ LotR H o v ∧ (∀ m, o = some m → m.length ≤ 1000) ∧ ((us = [] ∧ v = .non) ∨ ∃ x rest, us = x :: rest ∧ v = x) := by
  have al := AllL.of_lots pm pw
  have fs : ∀ o, ((xs.filter fun y => p (kf y)).map kf).head? = o → FirstP n p o := fun o ho L aL => by
    rw [aL.eq al, ← ho, show (fun y => p (kf y)) = p ∘ kf from rfl, ← List.filter_map]
  cases hf : xs.filter fun y => p (kf y) with
  | nil =>
    rw [hf] at h
    exact ⟨[], .non, none, h, fs _ (by rw [hf]; rfl), .inl ⟨rfl, rfl⟩, (fun m z => nomatch z), .inl ⟨rfl, rfl⟩⟩
  | cons y rest =>
    rw [hf] at h
    have hy : y ∈ xs.filter fun y => p (kf y) := by rw [hf]; exact List.mem_cons_self ..
    have hyx := (List.mem_filter.mp hy).1
    obtain ⟨a, rfl, ha⟩ := la y hyx
    refine ⟨_, .ref a, some (kf (.ref a)), h, fs _ (by rw [hf]; rfl), .inr ⟨a, _, rfl, rfl, ha⟩, (fun m z => ?_), .inr ⟨_, rest, rfl, rfl⟩⟩
    cases z
    have := lot_len (lotsN_lot (pm.mem_iff.mp (List.mem_map.mpr ⟨_, hyx, rfl⟩)))
    omega
section
variable {P : Program} {w : World} {K : PySem.W.Frag} {mg : Str → Option Value} {base : Heap}
structure SlackP (P : Program) (w : World) (K : PySem.W.Frag) (mg : Str → Option Value) (base : Heap) (C fI : Addr) (fdI : FuncData) : Prop where
  made : Mk K C fI
  ok : FnOk P w K mg base CX0 5 fI fdI ["self", "down", "up", "low_lot", "high_lot"] (spSI K C 1)
  b : Binds K fdI ["self", "down", "up", "low_lot", "high_lot"] []
/-! ### want_slack -/
/-- what is asked of a ring and a bar, and what comes else -/
def AskS (K : PySem.W.Frag) (C cR cN cV : Addr) (T : List (Addr × Str)) (H : Hp) (E : XK) (v b : V) (q : List Int → Nat → Prop) : Prop :=
  (∃ (r : Addr) (ls : List Int), v = .ref r ∧ RingAt K C H r ls ∧ 3 ≤ ls.length ∧ ls.length ≤ 8 ∧ Tabs T H ∧
    ((∃ k, KndI K H b k ∧ winB k 0 ((ls.length : Nat) - 1) b = false ∧ Errs E cN "value" b H) ∨ ∃ j : Nat, b = .int (j : Nat) ∧ j < ls.length ∧ ((levelB ls = false ∧ q ls j) ∨ (levelB ls = true ∧ LevX E cV ls T H)))) ∨ (NoR K C H v ∧ Errs E cR "part" (.str "ring") H)
def spWS (K : PySem.W.Frag) (C cR cN cV : Addr) (T : List (Addr × Str)) : Sp := fun vs H Q E => ∃ v b : V, vs = [v, b] ∧ AskS K C cR cN cV T H E v b fun _ _ => Q .non H
theorem scWS : FnScope ["ring", "bar"] ["ring", "bar"] (defScope sWantSlack) := ⟨rfl, rfl, rfl, by decide +kernel, rfl, by decide +kernel, by decide +kernel⟩
theorem ok_ws {C cR cN cV f fR fN fB fLn : Addr} {fd fdR fdN fdB fdLn : FuncData} {TB : List (Addr × Str)} (F : Fun K "want_slack" "want_slack" sWantSlack f fd) (T : Bi mg) (WR : DefAt P w K mg base (L2.CX P w) 3 "want_ring" ["value", "part"] (spWantR K C cR) fR fdR) (WB : DefAt P w K mg base (L2.CX P w) 3 "want_bar" ["value", "many"] (spBarG K cN) fB fdB)
    (WN : DefAt P w K mg base (L2.CX P w) 9 "want_no_level" ["ring"] (spWNL K C cV TB) fN fdN) (NM : Meth K C "__len__" fLn) (NL : FnOk P w K mg base CX0 1 fLn fdLn ["self"] (spRLen K C)) (NLB : Binds K fdLn ["self"] []) : FnOk P w K mg base (L2.CX P w) 10 f fd ["ring", "bar"] (spWS K C cR cN cV TB) := by
  refine F.okX scWS (fun vs H Q E h => ?_) (fun cdv A outer s H vs Q E hr h => ?_)
  · obtain ⟨v, b, rfl, _⟩ := h
    rfl
  · refine ⟨_, (pss_cons (ps_expr (pe_call WR.ok (hr.mono (by decide)) rfl WR.g WR.kp WR.b .nil (passes_call (takes_of rfl rfl rfl rfl) (fun _ _ _ _ h => h)) (pa_cons (pv 0) (pa_cons pe_str pa_nil))))
      (pss_cons (ps_expr (pe_call WB.ok (hr.mono (by decide)) rfl WB.g WB.kp WB.b .nil (passes_call (takes_of rfl rfl rfl rfl) (fun _ _ _ _ h => h)) (pa_cons (pv 1) (pa_cons (pe_callB (call_lenO NL (hr.mono (by decide)) NLB) (by rfl) T.len PySem.boot_len (pa_cons (pv 0) pa_nil)) pa_nil))))
      (pss_one (ps_expr (pe_call WN.ok (hr.mono (by decide)) rfl WN.g WN.kp WN.b .nil (passes_call (takes_of rfl rfl rfl rfl) (fun _ _ _ _ h => h)) (pa_cons (pv 0) pa_nil)))))), ?_⟩
    obtain ⟨v, b, rfl, ⟨r, ls, rfl, ra, l3, l8, tab, h⟩ | ⟨no, er⟩⟩ := h
    · refine ⟨_, rfl, _, "ring", rfl, .inl ⟨r, ls, rfl, ra.weak, ?_⟩⟩
      obtain ⟨dx, t, hr0, ht⟩ := id ra.weak
      refine ⟨_, rfl, _, rfl, r, C, dx, _, rfl, hr0, NM.at_, NM.fn, r, ls, rfl, ra.weak, _, rfl, by omega, by omega, ?_⟩
      rcases h with ⟨k, kd, wb, er⟩ | ⟨j, rfl, hj, h⟩
      · exact ⟨b, k, (ls.length : Nat), rfl, kd, .inr ⟨wb, er⟩⟩
      · refine ⟨.int (j : Nat), "int", (ls.length : Nat), rfl, ⟨Knd.int, fun _ => ⟨_, rfl⟩⟩, .inl ⟨?_, ?_⟩⟩
        · show (true && (decide ((0 : Int) ≤ j) && decide ((j : Int) ≤ (ls.length : Nat) - 1))) = true
          rw [decide_eq_true (by omega), decide_eq_true (by omega)]
          rfl
        · exact ⟨_, rfl, r, ls, rfl, ra, l3, l8, tab, h⟩
    · exact ⟨_, rfl, _, "ring", rfl, .inr ⟨no, er⟩⟩
/-! ### slack -/
/-- what the paper tells -/
structure SlackR (C : Addr) (H : Hp) (ls : List Int) (j : Nat) (q : Addr) (d : Int) (o : Option Int) (vl vh : V) (ol oh : Option (List Int)) : Prop where
  dn : DownN ls j d
  up : UpN ls j o
  fl : FirstP ls.length (pdB ls j d) ol
  fh : FirstP ls.length (fun l => o.any fun u => puB ls j u l) oh
  pp : PapG C "slack" (fsS (.int d) (oI o) vl vh) H q
  rl : LotR H ol vl
  rh : LotR H oh vh
theorem SlackR.ext {C : Addr} {H H' : Hp} {ls : List Int} {j : Nat} {q : Addr} {d : Int} {o : Option Int} {vl vh : V} {ol oh : Option (List Int)} (h : SlackR C H ls j q d o vl vh ol oh) (s : ExtN H H') : SlackR C H' ls j q d o vl vh ol oh := ⟨h.dn, h.up, h.fl, h.fh, h.pp.ext s, h.rl.ext s, h.rh.ext s⟩
def SlackQ (C : Addr) (T : List (Addr × Str)) (H : Hp) (Q : VK) (ls : List Int) (j : Nat) : Prop := ∀ (q : Addr) (d : Int) (o : Option Int) (vl vh : V) (ol oh : Option (List Int)) (H' : Hp), ExtN H H' → Tabs T H' → SlackR C H' ls j q d o vl vh ol oh → Q (.ref q) H'
def spSL (K : PySem.W.Frag) (C cR cN cV aE : Addr) (T : List (Addr × Str)) : Sp := fun vs H Q E => ∃ v b : V, vs = [v, b] ∧ AskS K C cR cN cV T H E v b (SlackQ aE T H Q)
abbrev nSL : List Str := ["ring", "bar", "down", "up", "low", "high", "lot"]
theorem scSL : FnScope nSL ["ring", "bar"] (defScope sSlack) := ⟨rfl, rfl, rfl, by decide +kernel, rfl, by decide +kernel, by decide +kernel⟩
theorem ok_sl {C cR cN cV aE f fE fN fS fU fL fF fI fLn : Addr} {fd fdE fdN fdS fdU fdL fdF fdI fdLn : FuncData} {TB : List (Addr × Str)} (F : Fun K "slack" "slack" sSlack f fd) (T : Bi mg) (EC : SlackC K mg aE) (EP : SlackP P w K mg base aE fI fdI)
    (WS : DefAt P w K mg base (L2.CX P w) 10 "want_slack" ["ring", "bar"] (spWS K C cR cN cV TB) fE fdE) (SN : DefAt P w K mg base CX0 6 "slack_numbers" ["ring", "bar"] (spSN K C TB) fN fdN) (SD : DefAt P w K mg base CX0 4 "stops_down" ["ring", "bar", "down", "lot"] (spSD K C) fS fdS) (SU : DefAt P w K mg base CX0 4 "stops_up" ["ring", "bar", "up", "lot"] (spSU K C) fU fdU)
    (LO : DefAt P w K mg base CX0 4 "lots_of" ["many"] (spLotsOf K TB) fL fdL) (FN : DefAt P w K mg base CX0 1 "first_or_none" ["lots"] (spFN K) fF fdF) (NM : Meth K C "__len__" fLn) (NL : FnOk P w K mg base CX0 1 fLn fdLn ["self"] (spRLen K C)) (NLB : Binds K fdLn ["self"] []) : FnOk P w K mg base (L2.CX P w) 11 f fd ["ring", "bar"] (spSL K C cR cN cV aE TB) := by
  refine F.okX scSL (fun vs H Q E h => ?_) (fun cdv A outer s H vs Q E hr h => ?_)
  · obtain ⟨v, b, rfl, _⟩ := h
    rfl
  · have nd := scSL.nd
    refine ⟨_, (pss_cons (ps_expr (pe_call WS.ok (hr.mono (by decide)) rfl WS.g WS.kp WS.b .nil (passes_call (takes_of rfl rfl rfl rfl) (fun _ _ _ _ h => h)) (pa_cons (pv 0) (pa_cons (pv 1) pa_nil))))
      (pss_cons (ps_asg (pe_call SN.ok (hr.mono (by decide)) rfl SN.g SN.kp SN.b .nil pass0 (pa_cons (pv 0) (pa_cons (pv 1) pa_nil))) (pg_tup (by rfl) (pgs_cons (pg_name (i := 2) nd rfl (Or.inr rfl)) (pgs_cons (pg_name (i := 3) nd rfl (Or.inr rfl)) pgs_nil))))
      (pss_cons (ps_setLc (i := 4) (own := [("lot", 6)]) (g := (gName 6)) (tt := tB (tCall (spSD K C) [] E0 (tCons (tVar 0) (tCons (tVar 1) (tCons (tVar 2) (tCons (tVar 6) tNil)))))) (te := tVar 6)  rfl nd rfl rfl (sw_true rfl rfl rfl (by decide +kernel)) (pi_tup (pe_call LO.ok (hr.mono (by decide)) rfl LO.g LO.kp LO.b .nil pass0 (pa_cons (pe_callB (call_lenO NL (hr.mono (by decide)) NLB) (by rfl) T.len PySem.boot_len (pa_cons (pv 0) pa_nil)) pa_nil)))
          (blkOk_by (N := nSL) (sc := defScope sSlack) (by decide +kernel)) (fun _ _ _ _ _ => (pg_name (i := 6) nd rfl (Or.inl rfl))) (fun _ _ _ _ _ => (pts_one (pt_val (pe_call SD.ok (hr.mono (by decide)) rfl SD.g SD.kp SD.b .nil pass0 (pa_cons (pv 0) (pa_cons (pv 1) (pa_cons (pv 2) (pa_cons (pv 6) pa_nil)))))))) (fun _ _ _ _ _ => (pv 6)))
      (pss_cons (ps_setLc (i := 5) (own := [("lot", 6)]) (g := (gName 6)) (tt := tAnd (tTest (tOp (fun x y H Q => y = .non ∧ Q (.bl (!decide (x = .non))) H) (tVar 3) (tC .non))) (tB (tCall (spSU K C) [] E0 (tCons (tVar 0) (tCons (tVar 1) (tCons (tVar 3) (tCons (tVar 6) tNil))))))) (te := tVar 6)  rfl nd rfl rfl (sw_true rfl rfl rfl (by decide +kernel)) (pi_tup (pe_call LO.ok (hr.mono (by decide)) rfl LO.g LO.kp LO.b .nil pass0 (pa_cons (pe_callB (call_lenO NL (hr.mono (by decide)) NLB) (by rfl) T.len PySem.boot_len (pa_cons (pv 0) pa_nil)) pa_nil)))
          (blkOk_by (N := nSL) (sc := defScope sSlack) (by decide +kernel)) (fun _ _ _ _ _ => (pg_name (i := 6) nd rfl (Or.inl rfl))) (fun _ _ _ _ _ => (pts_one (PW.pt (pw_and (pt_cmpR op_notN (pv 3) pe_non (nomark _)) (pw_and1 (pt_val (pe_call SU.ok (hr.mono (by decide)) rfl SU.g SU.kp SU.b .nil pass0 (pa_cons (pv 0) (pa_cons (pv 1) (pa_cons (pv 3) (pa_cons (pv 6) pa_nil))))))))))) (fun _ _ _ _ _ => (pv 6)))
      (pss_one (ps_ret (pe_make EP.made EP.ok (hr.mono (by decide)) (by rfl) EC.g EP.b .nil pass0 (pa_cons (pv 2) (pa_cons (pv 3) (pa_cons (pe_call FN.ok (hr.mono (by decide)) rfl FN.g FN.kp FN.b .nil pass0 (pa_cons (pv 4) pa_nil)) (pa_cons (pe_call FN.ok (hr.mono (by decide)) rfl FN.g FN.kp FN.b .nil pass0 (pa_cons (pv 5) pa_nil)) pa_nil))))))))))), ?_⟩
    obtain ⟨v, b, rfl, ⟨r, ls, rfl, ra, l3, l8, tab, h⟩ | ⟨no, er⟩⟩ := h
    · rcases h with ⟨k, kd, wb, er⟩ | ⟨j, rfl, hj, h⟩
      · exact ⟨_, rfl, _, rfl, _, _, rfl, .inl ⟨r, ls, rfl, ra, l3, l8, tab, .inl ⟨k, kd, wb, er⟩⟩⟩
      rcases h with ⟨nl, q⟩ | ⟨lv, er⟩
      · refine ⟨_, rfl, _, rfl, _, _, rfl, .inl ⟨r, ls, rfl, ra, l3, l8, tab, .inr ⟨j, rfl, hj, .inl ⟨nl, ?_⟩⟩⟩⟩
        refine ⟨_, rfl, _, rfl, r, j, ls, rfl, ra.weak, l3, l8, hj, tab, fun t0 d o H1 e1 tab1 dn up ht0 => ?_⟩
        have rw1 := ra.weak.ext e1
        obtain ⟨dx, t, hr1, ht1⟩ := id rw1
        refine ⟨t0, _, rfl, .inl (.inl ht0), rfl, _, _, rfl, _, _, rfl, rfl, ?_⟩
        -- low
        refine ⟨_, rfl, r, C, dx, _, rfl, hr1, NM.at_, NM.fn, r, ls, rfl, rw1, _, rfl, by omega, by omega, ls.length, rfl, by omega, l8, tab1, fun p xs kf H2 e2 tab2 hp la pm pw => ⟨p, rfl, ⟨_, .inl (.inl hp)⟩, fun D hD => ?_⟩⟩
        have rw2 := rw1.ext e2
        have lots : ∀ y ∈ xs, kf y ∈ lotsN ls.length := fun y hy => pm.mem_iff.mp (List.mem_map.mpr ⟨_, hy, rfl⟩)
        have x2 : xs.length ≤ 256 := by
          have e := pm.length_eq
          rw [List.length_map, lotsN_length] at e
          rw [e]
          exact Nat.pow_le_pow_right (by decide) (show ls.length ≤ 8 by omega)
        refine lc_tup (K := K) (a := p) (xs := xs) (fun i H' => Same H2 H' ∧ H' D = some (.lst ((xs.take i).filter fun y => pdB ls j d (kf y)))) ⟨(Same.refl H2).new hD, upd_same⟩ (fun i H' _ q => .inl (.inl (q.1 _ _ hp))) ?_ ?_
        · rintro i y H' hy ⟨s3, h3⟩
          have hym := List.mem_of_getElem? hy
          obtain ⟨a, rfl, ha⟩ := la y hym
          refine ⟨rfl, _, rfl, _, rfl, _, rfl, _, rfl, r, a, ls, kf (.ref a), j, d, rfl, rw2.same s3, l3, l8, s3 _ _ ha, lotsN_lot (lots _ hym), fun H6 s6 => ⟨_, rfl, ?_⟩⟩
          have s36 := s3.trans s6
          have h6 := s6 _ _ h3
          rw [← take_snoc hy, List.filter_append]
          cases c : pdB ls j d (kf (.ref a)) with
          | true =>
            refine iteT ⟨_, rfl, _, h6, ?_, s36.mut hD, ?_⟩
            · exact sm (Nat.le_trans (List.length_filter_le ..) (by rw [List.length_take]; omega))
            · rw [upd_same]
              simp [List.filter, c]
          | false =>
            refine iteF ⟨s36, ?_⟩
            rw [h6]
            simp [List.filter, c]
        rintro H3 ⟨s3, h3⟩
        rw [List.take_length] at h3
        have e13 := e1.trans (e2.trans (ExtN.of s3))
        have tab3 := tab2.ext s3
        have la3 := la.same s3
        have rw3 := rw2.same s3
        -- high
        obtain ⟨dx3, t3, hr3, ht3⟩ := id rw3
        refine ⟨_, rfl, r, C, dx3, _, rfl, hr3, NM.at_, NM.fn, r, ls, rfl, rw3, _, rfl, by omega, by omega, ls.length, rfl, by omega, l8, tab3, fun p' ys kg H4 e4 tab4 hp' lb pm' pw' => ⟨p', rfl, ⟨_, .inl (.inl hp')⟩, fun D' hD' => ?_⟩⟩
        have rw4 := rw3.ext e4
        have lots' : ∀ y ∈ ys, kg y ∈ lotsN ls.length := fun y hy => pm'.mem_iff.mp (List.mem_map.mpr ⟨_, hy, rfl⟩)
        have y2 : ys.length ≤ 256 := by
          have e := pm'.length_eq
          rw [List.length_map, lotsN_length] at e
          rw [e]
          exact Nat.pow_le_pow_right (by decide) (show ls.length ≤ 8 by omega)
        refine lc_tup (K := K) (a := p') (xs := ys) (fun i H' => Same H4 H' ∧ H' D' = some (.lst ((ys.take i).filter fun y => o.any fun u => puB ls j u (kg y)))) ⟨(Same.refl H4).new hD', upd_same⟩ (fun i H' _ q => .inl (.inl (q.1 _ _ hp'))) ?_ ?_
        · rintro i y H' hy ⟨s5, h5⟩
          have hym := List.mem_of_getElem? hy
          obtain ⟨a, rfl, ha⟩ := lb y hym
          rw [← take_snoc hy, List.filter_append]
          cases o with
          | none =>
            refine ⟨rfl, _, rfl, rfl, _, rfl, ?_⟩
            refine iteF (iteF ⟨s5, ?_⟩)
            rw [h5]
            simp [List.filter]
          | some u =>
            refine ⟨rfl, _, rfl, rfl, _, rfl, ?_⟩
            refine iteT ⟨_, rfl, _, rfl, _, rfl, _, rfl, r, a, ls, kg (.ref a), j, u, rfl, rw4.same s5, l3, l8, s5 _ _ ha, lotsN_lot (lots' _ hym), fun H6 s6 => ⟨_, rfl, ?_⟩⟩
            have s56 := s5.trans s6
            have h6 := s6 _ _ h5
            cases c : puB ls j u (kg (.ref a)) with
            | true =>
              refine iteT ⟨_, rfl, _, h6, ?_, s56.mut hD', ?_⟩
              · exact sm (Nat.le_trans (List.length_filter_le ..) (by rw [List.length_take]; omega))
              · rw [upd_same]
                simp [List.filter, c]
            | false =>
              refine iteF ⟨s56, ?_⟩
              rw [h6]
              simp [List.filter, c]
        rintro H5 ⟨s5, h5⟩
        rw [List.take_length] at h5
        have e35 := e4.trans (ExtN.of s5)
        have e15 := e13.trans e35
        have tab5 := tab4.ext s5
        have hD5 := e35 _ _ h3 (fun _ z => nomatch z)
        have la5 : LotsAt H5 xs kf := fun x hx => let ⟨a, e, q⟩ := la3 x hx; ⟨a, e, e35 _ _ q (fun _ z => nomatch z)⟩
        -- the paper
        obtain ⟨us, vl0, ol, hus, fl, rl, ll, cl⟩ := first_call (p := pdB ls j d) l8 pm pw la5 hD5
        obtain ⟨ws, vh0, oh, hws, fh, rh, lh, ch⟩ := first_call (p := fun l => o.any fun u => puB ls j u l) l8 pm' pw' (lb.same s5) h5
        have fin : ∀ x dx', H5 x = none → H5 dx' = none → dx' ≠ x → spSI K aE 1 (.ref x :: ([.int d, oI o, vl0, vh0] ++ [])) (upd (upd H5 dx' (.own x)) x (.ins aE dx' [])) (fun v H2 => v = .non ∧ Q (.ref x) H2) E0 := by
          intro x dx' nx ndx ne
          have s6 : Same H5 (upd H5 dx' (.own x)) := (Same.refl H5).new ndx
          have s7 : Same (upd H5 dx' (.own x)) (upd (upd H5 dx' (.own x)) x (.ins aE dx' [])) := (Same.refl _).new (by rw [upd_ne ne.symm]; exact nx)
          have s67 := s6.trans s7
          refine ⟨x, dx', .int d, oI o, vl0, vh0, .int d, dO o, lotO ol, lotO oh, rfl, upd_same, FV.int d, fv_oI o, ((rl.fv ll).same s67).any, ((rh.fv lh).same s67).any, fun va vb vc vd H6 bt f1 f2 f3 f4 pp => ⟨rfl, ?_⟩⟩
          obtain rfl := fv_int f1
          obtain rfl := fv_dO f2
          have e56 : ExtN H5 H6 := fun o u h n => bt _ _ (fun z => by rw [z, nx] at h; cases h) (ExtN.of s67 _ _ h n)
          refine q x d o vc vd ol oh H6 (e15.trans e56) (fun T hT => ?_) ⟨dn, up, fl, fh, pp, fv_lotO f3, fv_lotO f4⟩
          exact TabS.ext (tab5 T hT) fun o u h => bt _ _ (fun z => by rw [z, nx] at h; cases h) (s67 _ _ h)
        refine ⟨_, rfl, _, rfl, _, rfl, ?_⟩
        rcases cl with ⟨rfl, rfl⟩ | ⟨xl, xr, rfl, rfl⟩ <;> rcases ch with ⟨rfl, rfl⟩ | ⟨yl, yr, rfl, rfl⟩
        · exact ⟨D, _, rfl, hus, .inl ⟨rfl, _, rfl, D', _, rfl, hws, .inl ⟨rfl, fin⟩⟩⟩
        · exact ⟨D, _, rfl, hus, .inl ⟨rfl, _, rfl, D', _, rfl, hws, .inr ⟨_, _, rfl, fin⟩⟩⟩
        · exact ⟨D, _, rfl, hus, .inr ⟨_, _, rfl, _, rfl, D', _, rfl, hws, .inl ⟨rfl, fin⟩⟩⟩
        · exact ⟨D, _, rfl, hus, .inr ⟨_, _, rfl, _, rfl, D', _, rfl, hws, .inr ⟨_, _, rfl, fin⟩⟩⟩
      · exact ⟨_, rfl, _, rfl, _, _, rfl, .inl ⟨r, ls, rfl, ra, l3, l8, tab, .inr ⟨j, rfl, hj, .inr ⟨lv, er⟩⟩⟩⟩
    · exact ⟨_, rfl, _, rfl, _, _, rfl, .inr ⟨no, er⟩⟩
end
end K
namespace K
open PySem L2 Rg LamX
open Evl (pss_cut)
/-! ### what is told, as data -/
theorem atm_good {v : V} {d : PyData} (h : Atm v d) : d.canLay0 = true ∧ d.depth = 0 ∧ PyData.eqv d d = true := by
  rcases h with ⟨i, _, rfl⟩ | ⟨_, rfl⟩ | ⟨z, _, rfl⟩
  · exact ⟨by simp [PyData.canLay0], by simp [PyData.depth], by simp [PyData.eqv]⟩
  · exact ⟨by simp [PyData.canLay0], by simp [PyData.depth], by simp [PyData.eqv]⟩
  · exact ⟨by simp [PyData.canLay0, z.2], by simp [PyData.depth], by simp [PyData.eqv]⟩
theorem fv_good {H : Hp} {f : Bool} : ∀ {n : Nat} {v : V} {d : PyData}, FV H f n v d → d.canLay0 = true ∧ d.depth ≤ n ∧ PyData.eqv d d = true
  | 0, v, d, h => by
    obtain ⟨a, b, c⟩ := atm_good h
    exact ⟨a, by omega, c⟩
  | n + 1, v, d, h => by
    rcases h with h | ⟨a, xs, ds, _, ha, rfl, hl, p⟩
    · obtain ⟨a, b, c⟩ := atm_good h
      exact ⟨a, by omega, c⟩
    · clear ha hl
      have go : PyData.canLayAll0 ds = true ∧ PyData.depthAll ds ≤ n ∧ PyData.eqvAll ds ds = true := by
        induction p with
        | nil => exact ⟨by simp [PyData.canLayAll0], by simp [PyData.depthAll], by simp [PyData.eqvAll]⟩
        | cons h t ih =>
          obtain ⟨b1, b2, b3⟩ := fv_good h
          obtain ⟨c1, c2, c3⟩ := ih
          exact ⟨by simp [PyData.canLayAll0, b1, c1], by simp only [PyData.depthAll]; omega, by simp [PyData.eqvAll, b3, c3]⟩
      obtain ⟨c1, c2, c3⟩ := go
      exact ⟨by simp [PyData.canLay0, c1], by simp only [PyData.depth]; omega, by simp [PyData.eqv, c3]⟩
theorem fv_shaped {H : Hp} {f : Bool} {n : Nat} {v : V} {d : PyData} (h : FV H f n v d) (hn : n ≤ 64) : SeqAt.shaped d = true := by
  obtain ⟨a, b, _⟩ := fv_good h
  simp [SeqAt.shaped, a]
  omega
theorem fv_dp {K : PySem.W.Frag} {H : Hp} : ∀ {n : Nat} {v : V} {d : PyData}, FV H false n v d → Dp K H v d := by
  have at_dp : ∀ {v : V} {d : PyData}, Atm v d → Dp K H v d := fun h => by
    rcases h with ⟨i, rfl, rfl⟩ | ⟨rfl, rfl⟩ | ⟨z, rfl, rfl⟩
    · exact .int i
    · exact .non
    · exact .str z.1
  intro n
  induction n with
  | zero => exact fun h => at_dp h
  | succ n ih =>
    intro v d h
    rcases h with h | ⟨a, xs, ds, rfl, ha, rfl, hl, p⟩
    · exact at_dp h
    · rcases ha with ha | ⟨z, _⟩
      · refine .tup (.inl (.inl ha)) ?_
        clear ha hl
        induction p with
        | nil => exact .nil
        | cons h t ih2 => exact .cons (ih h) ih2
      · cases z
theorem lotsN_asc : ∀ n, ∀ l ∈ lotsN n, l.Pairwise (· < ·)
  | 0, l, h => by rw [List.mem_singleton.mp h]; exact List.Pairwise.nil
  | n + 1, l, h => by
    rcases List.mem_append.mp h with h | h
    · exact lotsN_asc n l h
    · obtain ⟨a, ha, rfl⟩ := List.mem_map.mp h
      rw [List.pairwise_append]
      refine ⟨lotsN_asc n a ha, List.pairwise_singleton _ _, fun x hx y hy => ?_⟩
      have := lotsN_in n a ha x hx
      rw [List.mem_singleton.mp hy]
      omega
section
variable {P : Program} {w : World} {K : PySem.W.Frag} {mg : Str → Option Value} {base : Heap}
/-! ### is_exactly of numbers, None and tuples of them -/
def IV (H : Hp) : Nat → V → V → Prop
  | 0, v, u => ∃ o, v = oI o ∧ u = oI o
  | n + 1, v, u => (∃ o, v = oI o ∧ u = oI o) ∨ ∃ (a b : Addr) (xs ys : List V), v = .ref a ∧ u = .ref b ∧ H a = some (.tup xs) ∧ H b = some (.tup ys) ∧ xs.length ≤ 1000 ∧ Paired (IV H n) xs ys
theorem IV.o {H : Hp} (o : Option Int) : ∀ {n : Nat}, IV H n (oI o) (oI o)
  | 0 => ⟨o, rfl, rfl⟩
  | _ + 1 => .inl ⟨o, rfl, rfl⟩
theorem IV.i {H : Hp} {n : Nat} (i : Int) : IV H n (.int i) (.int i) := IV.o (some i)
theorem IV.ext {H H' : Hp} (s : ExtN H H') : ∀ {n : Nat} {v u : V}, IV H n v u → IV H' n v u
  | 0, v, u, h => h
  | n + 1, v, u, h => by
    rcases h with h | ⟨a, b, xs, ys, e1, e2, ha, hb, l, p⟩
    · exact .inl h
    · exact .inr ⟨a, b, xs, ys, e1, e2, s _ _ ha (fun _ q => nomatch q), s _ _ hb (fun _ q => nomatch q), l, par_imp (fun _ _ k => k.ext s) p⟩
def spIX (n : Nat) : Sp := fun vs H Q _ => ∃ v u : V, vs = [v, u] ∧ IV H n v u ∧ ∀ H', Same H H' → Q (.bl true) H'
abbrev nIX : List Str := ["value", "right", "at"]
theorem scIX : FnScope nIX ["value", "right"] (defScope sIsExactly) := ⟨rfl, rfl, rfl, by decide +kernel, rfl, by decide +kernel, by decide +kernel⟩
theorem oI_ty {K : PySem.W.Frag} {H : Hp} (o : Option Int) : ∃ k : String, TyX K H (oI o) (.type k) ∧ kitB k "tuple" = some false := by
  cases o with
  | none => exact ⟨"NoneType", .base .non, by decide +kernel⟩
  | some i => exact ⟨"int", .base (.int i), by decide +kernel⟩
theorem ok_ix0 {f fI : Addr} {fd fdI : FuncData} (F : Fun K "is_exactly" "is_exactly" sIsExactly f fd) (T : Bi mg) (II : DefAt P w K mg base CX0 1 "is_integer" ["value"] (spIsInt K) fI fdI) : FnOk P w K mg base CX0 2 f fd ["value", "right"] (spIX 0) := by
  refine F.ok scIX (fun vs H Q E h => ?_) (fun cdv A outer s H vs Q E hr h => ?_)
  · obtain ⟨a, b, rfl, _⟩ := h
    rfl
  · have nd := scIX.nd
    refine ⟨_, (pss_cons (ps_if (pt_val (pe_callB call_isi (by rfl) T.isinstance (by decide +kernel) (pa_cons (pv 1) (pa_cons (pe_bltn (v := .ty "tuple") (u := .type "tuple") (by rfl) T.tuple (by decide +kernel) rfl) pa_nil)))) (pss_cons ps_never (pss_one ps_never)) pss_nil)
      (pss_cons (ps_if (pt_cmpR op_isN (pv 1) pe_non (nomark _)) (pss_one (ps_ret (pe_cmpR op_isN (pv 0) pe_non (nomark _)))) pss_nil)
      (pss_one (ps_ret (pe_and (pe_call II.ok (hr.mono (by decide)) rfl II.g II.kp II.b .nil pass0 (pa_cons (pv 0) pa_nil)) (pe_one (pe_cmpR op_eq (pv 0) (pv 1) (nomark _)))))))), ?_⟩
    obtain ⟨_, _, rfl, ⟨o, rfl, rfl⟩, q⟩ := h
    obtain ⟨k, ty, kt⟩ := oI_ty (K := K) (H := H) o
    refine ⟨_, rfl, oI o, .ty "tuple", _, _, false, rfl, .ty _, ty, kit_ty kt, _, rfl, iteF ?_⟩
    cases o with
    | none => exact ⟨_, rfl, rfl, _, rfl, iteDT rfl ⟨_, rfl, rfl, q H (Same.refl H)⟩⟩
    | some i =>
      refine ⟨_, rfl, rfl, _, rfl, iteDF (fun z => nomatch z) ?_⟩
      refine ⟨_, rfl, .int i, "int", rfl, Knd.int, _, rfl, iteT ?_⟩
      refine ⟨_, rfl, _, rfl, rfl, ?_⟩
      show Q (.bl (decide (V.int i = V.int i))) H
      rw [decide_eq_true rfl]
      exact q H (Same.refl H)
theorem ok_ix1 {n : Nat} {f fI : Addr} {fd fdI : FuncData} (F : Fun K "is_exactly" "is_exactly" sIsExactly f fd) (T : Bi mg) (II : DefAt P w K mg base CX0 1 "is_integer" ["value"] (spIsInt K) fI fdI) (IX : DefAt P w K mg base CX0 (n + 2) "is_exactly" ["value", "right"] (spIX n) f fd) : FnOk P w K mg base CX0 (n + 3) f fd ["value", "right"] (spIX (n + 1)) := by
  refine F.ok scIX (fun vs H Q E h => ?_) (fun cdv A outer s H vs Q E hr h => ?_)
  · obtain ⟨a, b, rfl, _⟩ := h
    rfl
  · have nd := scIX.nd
    refine ⟨_, (pss_cons (ps_if (pt_val (pe_callB call_isi (by rfl) T.isinstance (by decide +kernel) (pa_cons (pv 1) (pa_cons (pe_bltn (v := .ty "tuple") (u := .type "tuple") (by rfl) T.tuple (by decide +kernel) rfl) pa_nil)))) (pss_cons (ps_if (PW.pt (pw_or (pt_not (pt_val (pe_callB call_isi (by rfl) T.isinstance (by decide +kernel) (pa_cons (pv 0) (pa_cons (pe_bltn (v := .ty "tuple") (u := .type "tuple") (by rfl) T.tuple (by decide +kernel) rfl) pa_nil))))) (pw_or1 (pt_cmpR op_ne (pe_callB (r := rLenS K) call_len_seq (by rfl) T.len PySem.boot_len (pa_cons (pv 0) pa_nil)) (pe_callB (r := rLenS K) call_len_seq (by rfl) T.len PySem.boot_len (pa_cons (pv 1) pa_nil)) (nomark _))))) (pss_one (ps_ret pe_bl)) pss_nil)
      (pss_one (ps_ret (pe_callB (cr_all rfl) (by rfl) T.all (by decide +kernel) (pa_cons (pe_lc (own := [("at", 2)]) (g := (gName 2)) (tt := tYes) (te := tCall (spIX n) [] E0 (tCons (tOp (rIxT K) (tVar 0) (tVar 2)) (tCons (tOp (rIxT K) (tVar 1) (tVar 2)) tNil)))  rfl nd (pi_range1 (by rfl) T.range (pa_cons (pe_callB (r := rLenS K) call_len_seq (by rfl) T.len PySem.boot_len (pa_cons (pv 1) pa_nil)) pa_nil))
          (blkOk_by (N := nIX) (sc := defScope sIsExactly) (by decide +kernel)) (fun _ _ _ _ _ => (pg_name (i := 2) nd rfl (Or.inl rfl))) (fun _ _ _ _ _ => pts_nil) (fun _ _ _ _ _ => (pe_call IX.ok (hr.mono (by omega)) rfl IX.g IX.kp IX.b .nil pass0 (pa_cons (pe_ix (r := rIxT K) ix_tup (pv 0) (pv 2) (fun _ _ => rfl)) (pa_cons (pe_ix (r := rIxT K) ix_tup (pv 1) (pv 2) (fun _ _ => rfl)) pa_nil))))) pa_nil))))) pss_nil)
      (pss_cons (ps_if (pt_cmpR op_isN (pv 1) pe_non (nomark _)) (pss_one (ps_ret (pe_cmpR op_isN (pv 0) pe_non (nomark _)))) pss_nil)
      (pss_one (ps_ret (pe_and (pe_call II.ok (hr.mono (by omega)) rfl II.g II.kp II.b .nil pass0 (pa_cons (pv 0) pa_nil)) (pe_one (pe_cmpR op_eq (pv 0) (pv 1) (nomark _)))))))), ?_⟩
    obtain ⟨v, u, rfl, h, q⟩ := h
    rcases h with ⟨o, rfl, rfl⟩ | ⟨a, b, xs, ys, rfl, rfl, ha, hb, l, px⟩
    · obtain ⟨k, ty, kt⟩ := oI_ty (K := K) (H := H) o
      refine ⟨_, rfl, oI o, .ty "tuple", _, _, false, rfl, .ty _, ty, kit_ty kt, _, rfl, iteF ?_⟩
      cases o with
      | none => exact ⟨_, rfl, rfl, _, rfl, iteDT rfl ⟨_, rfl, rfl, q H (Same.refl H)⟩⟩
      | some i =>
        refine ⟨_, rfl, rfl, _, rfl, iteDF (fun z => nomatch z) ?_⟩
        refine ⟨_, rfl, .int i, "int", rfl, Knd.int, _, rfl, iteT ?_⟩
        refine ⟨_, rfl, _, rfl, rfl, ?_⟩
        show Q (.bl (decide (V.int i = V.int i))) H
        rw [decide_eq_true rfl]
        exact q H (Same.refl H)
    · have yl : xs.length = ys.length := par_len px
      refine ⟨_, rfl, .ref b, .ty "tuple", _, _, true, rfl, .ty _, .base (.tup hb), kit_ty (kit_tuple "tuple" (by decide)), _, rfl, iteT ?_⟩
      refine ⟨_, rfl, .ref a, .ty "tuple", _, _, true, rfl, .ty _, .base (.tup ha), kit_ty (kit_tuple "tuple" (by decide)), _, rfl, iteF ?_⟩
      refine ⟨_, rfl, a, _, rfl, .inr (.inl (.inl ha)), _, rfl, b, _, rfl, .inr (.inl (.inl hb)), rfl, _, rfl, ?_⟩
      rw [yl]
      refine iteBF (ne_vv _) ?_
      refine ⟨_, rfl, b, _, rfl, .inr (.inl (.inl hb)), _, rfl, by omega, by omega, fun D nD => ?_⟩
      refine lc_range (lo := 0) (n := (ys.length : Int).toNat) (fun i H' => Same H H' ∧ H' D = some (.lst ((List.replicate i true).map V.bl))) ⟨(Same.refl H).new nD, upd_same⟩ ?_ ?_
      · rintro i H' hi ⟨s2, h2⟩
        have hi1 : i < ys.length := by omega
        have hx : xs[i]? = some (xs[i]'(by omega)) := List.getElem?_eq_getElem (by omega)
        obtain ⟨y, hy, iv⟩ := par_get px hx
        refine ⟨rfl, _, rfl, _, rfl, a, _, (0 : Int) + (i : Int), _, rfl, rfl, .inl (.inl (s2 _ _ ha)), at_of (j := i) (by omega) hx, _, rfl, _, rfl, b, _, (0 : Int) + (i : Int), _, rfl, rfl, .inl (.inl (s2 _ _ hb)), at_of (j := i) (by omega) hy, ?_⟩
        refine ⟨_, _, rfl, iv.ext (ExtN.of s2), fun H3 s3 => ?_⟩
        refine ⟨_, s3 _ _ h2, (by rw [List.length_map, List.length_replicate]; exact sm (by omega)), (s2.trans s3).mut nD, ?_⟩
        rw [upd_same, List.replicate_succ', List.map_append]
        rfl
      rintro H2 ⟨s2, h2⟩
      refine ⟨D, _, rfl, SqL.of h2, ?_⟩
      have e2 : (List.replicate (ys.length : Int).toNat true).all id = true := List.all_eq_true.mpr fun x hx => by rw [(List.mem_replicate.mp hx).2]; rfl
      rw [e2]
      exact q H2 s2
/-- is_exactly, to any depth -/
theorem at_ix {f fI : Addr} {fd fdI : FuncData} (F : Fun K "is_exactly" "is_exactly" sIsExactly f fd) (T : Bi mg) (II : DefAt P w K mg base CX0 1 "is_integer" ["value"] (spIsInt K) fI fdI) (g : mg "is_exactly" = some (.ref f)) (kp : PySem.W.keepIn K (.ref f) = true) (b : Binds K fd ["value", "right"] []) : ∀ n, DefAt P w K mg base CX0 (n + 2) "is_exactly" ["value", "right"] (spIX n) f fd
  | 0 => ⟨ok_ix0 F T II, g, kp, b⟩
  | n + 1 => ⟨ok_ix1 F T II (at_ix F T II g kp b n), g, kp, b⟩
def spIC (K : PySem.W.Frag) : Sp := fun vs H Q _ => ∃ (a C dx : Addr) (fs : List (Str × V)) (z : Str), vs = [.ref a, .str z] ∧ H a = some (.ins C dx fs) ∧ C8.InsC K C ∧ NamC K C z ∧ Q (.bl true) H
theorem scIC : FnScope ["value", "name"] ["value", "name"] (defScope sIsCalled) := ⟨rfl, rfl, rfl, by decide +kernel, rfl, by decide +kernel, by decide +kernel⟩
theorem ok_ic {f : Addr} {fd : FuncData} (F : Fun K "is_called" "is_called" sIsCalled f fd) : FnOk P w K mg base CX0 1 f fd ["value", "name"] (spIC K) := by
  refine F.ok scIC (fun vs H Q E h => ?_) (fun cdv A outer s H vs Q E hr h => ?_)
  · obtain ⟨a, C, dx, fs, z, rfl, _⟩ := h
    rfl
  · have nd := scIC.nd
    refine ⟨_, (pss_one (ps_ret (pe_cmpR op_eq (pe_cname (pv 0)) (pv 1) (nomark _)))), ?_⟩
    obtain ⟨a, C, dx, fs, z, rfl, ha, ic, nc, q⟩ := h
    refine ⟨_, rfl, a, C, dx, fs, z, rfl, ha, ic, nc, _, rfl, rfl, ?_⟩
    rw [decide_eq_true rfl]
    exact q
/-! ### is_lot, is_lot_of -/
def spIL (K : PySem.W.Frag) : Sp := fun vs H Q _ => ∃ (a : Addr) (n : Nat) (ns : List Int), vs = [.ref a] ∧ H a = some (.tup (ns.map V.int)) ∧ ns ∈ lotsN n ∧ n ≤ 8 ∧ ∀ H', Same H H' → Q (.bl true) H'
abbrev nIL : List Str := ["value", "rises", "at"]
theorem scIL : FnScope nIL ["value"] (defScope sIsLot) := ⟨rfl, rfl, rfl, by decide +kernel, rfl, by decide +kernel, by decide +kernel⟩
theorem ok_il {f fU : Addr} {fd fdU : FuncData} (F : Fun K "is_lot" "is_lot" sIsLot f fd) (T : Bi mg) (NU : DefAt P w K mg base CX0 2 "is_numbers" ["value"] (spNumsT K) fU fdU) : FnOk P w K mg base CX0 3 f fd ["value"] (spIL K) := by
  refine F.ok scIL (fun vs H Q E h => ?_) (fun cdv A outer s H vs Q E hr h => ?_)
  · obtain ⟨a, n, ns, rfl, _⟩ := h
    rfl
  · have nd := scIL.nd
    refine ⟨_, (pss_cons (ps_if (pt_not (pt_val (pe_call NU.ok (hr.mono (by decide)) rfl NU.g NU.kp NU.b .nil pass0 (pa_cons (pv 0) pa_nil)))) (pss_one (ps_ret pe_bl)) pss_nil)
      (pss_cons (ps_setLc (i := 1) (own := [("at", 2)]) (g := (gName 2)) (tt := tYes)  rfl nd rfl rfl (sw_true rfl rfl rfl (by decide +kernel)) (pi_range1 (by rfl) T.range (pa_cons (pe_op op_sub (pe_callB (r := rLenS K) call_len_seq (by rfl) T.len PySem.boot_len (pa_cons (pv 0) pa_nil)) pe_int) pa_nil))
          (blkOk_by (N := nIL) (sc := defScope sIsLot) (by decide +kernel)) (fun _ _ _ _ _ => (pg_name (i := 2) nd rfl (Or.inl rfl))) (fun _ _ _ _ _ => pts_nil) (fun _ _ _ _ _ => (pe_cmpR op_lt (pe_ix (r := rIxT K) ix_tup (pv 0) (pv 2) (fun _ _ => rfl)) (pe_ix (r := rIxT K) ix_tup (pv 0) (pe_op op_add (pv 2) pe_int) (fun _ _ => rfl)) (nomark _))))
      (pss_one (ps_ret (pe_and (pe_callB (cr_all rfl) (by rfl) T.all (by decide +kernel) (pa_cons (pv 1) pa_nil)) (pe_one (pe_or (pe_cmpR op_eq (pe_callB (r := rLenS K) call_len_seq (by rfl) T.len PySem.boot_len (pa_cons (pv 0) pa_nil)) pe_int (nomark _)) (pe_one (pe_cmpR op_ge (pe_ix (r := rIxT K) ix_tup (pv 0) pe_int (fun _ _ => rfl)) pe_int (nomark _)))))))))), ?_⟩
    obtain ⟨a, n, ns, rfl, ha, hn, n8, q⟩ := h
    have l8 : ns.length ≤ 8 := Nat.le_trans (lot_len (lotsN_lot hn)) n8
    have asc := lotsN_asc n ns hn
    refine ⟨_, rfl, a, ns.map V.int, (fun _ => "int"), rfl, ⟨.base (.tup ha), by decide⟩, .inl (.inl ha), (by rw [List.length_map]; omega), (fun x hx => by obtain ⟨i, _, rfl⟩ := List.mem_map.mp hx; exact Knd.int), fun H1 s1 => ⟨_, rfl, ?_⟩⟩
    have e1 : ((ns.map V.int).all fun _ => decide (("int" : String) = "int")) = true := List.all_eq_true.mpr fun _ _ => rfl
    rw [e1]
    refine iteF ?_
    have ha1 := s1 _ _ ha
    refine ⟨_, rfl, a, _, rfl, .inr (.inl (.inl ha1)), _, _, rfl, rfl, _, rfl, (by rw [List.length_map]; omega), (by rw [List.length_map]; omega), fun D nD => ?_⟩
    refine lc_range (lo := 0) (n := (((ns.map V.int).length : Int) - 1).toNat) (fun i H' => Same H1 H' ∧ H' D = some (.lst ((List.replicate i true).map V.bl))) ⟨(Same.refl H1).new nD, upd_same⟩ ?_ ?_
    · rintro i H' hi ⟨s2, h2⟩
      rw [List.length_map] at hi
      have hi1 : i + 1 < ns.length := by omega
      have ha2 := s2 _ _ ha1
      have lt : ns[i] < ns[i + 1] := List.pairwise_iff_getElem.mp asc i (i + 1) (by omega) hi1 (Nat.lt_succ_self _)
      have g1 : (ns.map V.int)[i]? = some (.int ns[i]) := by rw [List.getElem?_map, List.getElem?_eq_getElem (by omega)]; rfl
      have g2 : (ns.map V.int)[i + 1]? = some (.int ns[i + 1]) := by rw [List.getElem?_map, List.getElem?_eq_getElem hi1]; rfl
      refine ⟨rfl, _, rfl, _, rfl, a, _, (0 : Int) + (i : Int), _, rfl, rfl, .inl (.inl ha2), at_of (j := i) (by omega) g1, _, rfl, _, rfl, _, _, rfl, rfl, a, _, (0 : Int) + (i : Int) + 1, _, rfl, rfl, .inl (.inl ha2), at_of (j := i + 1) (by omega) g2, _, _, rfl, rfl, ?_⟩
      refine ⟨_, h2, (by rw [List.length_map, List.length_replicate]; exact sm (by omega)), s2.mut nD, ?_⟩
      show upd H' D (.lst (_ ++ [V.bl (decide (ns[i] < ns[i + 1]))])) D = _
      rw [upd_same, decide_eq_true lt, List.replicate_succ', List.map_append]
      rfl
    rintro H2 ⟨s2, h2⟩
    refine ⟨_, rfl, D, _, rfl, SqL.of h2, _, rfl, ?_⟩
    have e2 : (List.replicate (((ns.map V.int).length : Int) - 1).toNat true).all id = true := List.all_eq_true.mpr fun x hx => by rw [(List.mem_replicate.mp hx).2]; rfl
    rw [e2]
    refine iteT ?_
    have ha2 := s2 _ _ ha1
    refine ⟨_, rfl, a, _, rfl, .inr (.inl (.inl ha2)), rfl, _, rfl, ?_⟩
    rw [List.length_map]
    cases ns with
    | nil => exact iteDT rfl (q _ (s1.trans s2))
    | cons z zs =>
      refine iteDF (fun k => by have := V.int.inj k; simp at this; omega) ?_
      refine ⟨_, rfl, a, _, 0, .int z, rfl, rfl, .inl (.inl ha2), atI_nat (j := 0) rfl, _, _, rfl, rfl, ?_⟩
      show Q (.bl (decide (0 ≤ z))) H2
      rw [decide_eq_true ((lotsN_in n _ hn z (List.mem_cons_self ..)).1)]
      exact q _ (s1.trans s2)
def spIO (K : PySem.W.Frag) (C : Addr) : Sp := fun vs H Q _ => ∃ (r a : Addr) (ls ns : List Int), vs = [.ref r, .ref a] ∧ RingW K C H r ls ∧ H a = some (.tup (ns.map V.int)) ∧ ns ∈ lotsN ls.length ∧ ls.length ≤ 8 ∧ ∀ H', Same H H' → Q (.bl true) H'
theorem scIO : FnScope ["ring", "value"] ["ring", "value"] (defScope sIsLotOf) := ⟨rfl, rfl, rfl, by decide +kernel, rfl, by decide +kernel, by decide +kernel⟩
theorem ok_io {C f fI fN : Addr} {fd fdI fdN : FuncData} (F : Fun K "is_lot_of" "is_lot_of" sIsLotOf f fd) (T : Bi mg) (IL : DefAt P w K mg base CX0 3 "is_lot" ["value"] (spIL K) fI fdI)
    (NM : Meth K C "__len__" fN) (NL : FnOk P w K mg base CX0 1 fN fdN ["self"] (spRLen K C)) (NLB : Binds K fdN ["self"] []) : FnOk P w K mg base CX0 4 f fd ["ring", "value"] (spIO K C) := by
  refine F.ok scIO (fun vs H Q E h => ?_) (fun cdv A outer s H vs Q E hr h => ?_)
  · obtain ⟨r, a, ls, ns, rfl, _⟩ := h
    rfl
  · have nd := scIO.nd
    refine ⟨_, (pss_one (ps_ret (pe_and (pe_call IL.ok (hr.mono (by decide)) rfl IL.g IL.kp IL.b .nil pass0 (pa_cons (pv 1) pa_nil)) (pe_one (pe_or (pe_cmpR op_eq (pe_callB (r := rLenS K) call_len_seq (by rfl) T.len PySem.boot_len (pa_cons (pv 1) pa_nil)) pe_int (nomark _)) (pe_one (pe_cmpR op_lt (pe_ix (r := rIxT K) ix_tup (pv 1) (pe_un un_neg pe_int) (fun _ _ => rfl)) (pe_callB (call_lenO NL (hr.mono (by decide)) NLB) (by rfl) T.len PySem.boot_len (pa_cons (pv 0) pa_nil)) (nomark _)))))))), ?_⟩
    obtain ⟨r, a, ls, ns, rfl, ra, ha, hn, l8, q⟩ := h
    refine ⟨_, rfl, a, ls.length, ns, rfl, ha, hn, l8, fun H1 s1 => ⟨_, rfl, iteT ?_⟩⟩
    have ha1 := s1 _ _ ha
    have ra1 := ra.same s1
    obtain ⟨dx, t, hr1, ht1⟩ := id ra1
    refine ⟨_, rfl, a, _, rfl, .inr (.inl (.inl ha1)), rfl, _, rfl, ?_⟩
    rw [List.length_map]
    rcases Nat.eq_zero_or_pos ns.length with z | z
    · exact iteDT (by rw [z]; rfl) (q _ s1)
    · refine iteDF (fun k => by have := V.int.inj k; omega) ?_
      have hl : ns[ns.length - 1]? = some ns[ns.length - 1] := List.getElem?_eq_getElem (by omega)
      refine ⟨_, rfl, _, rfl, a, _, -1, .int ns[ns.length - 1], rfl, rfl, .inl (.inl ha1), at_back (by rw [List.length_map]; exact z) (by rw [List.length_map, List.getElem?_map, hl]; rfl), _, rfl, r, C, dx, _, rfl, hr1, NM.at_, NM.fn, r, ls, rfl, ra1, _, rfl, by omega, by omega, _, _, rfl, rfl, ?_⟩
      show Q (.bl (decide (ns[ns.length - 1] < (ls.length : Int)))) H1
      rw [decide_eq_true ((lotsN_in _ _ hn _ (List.getElem_mem (by omega))).2)]
      exact q _ s1
end
end K
namespace K
open PySem L2 Rg LamX
open Evl (pss_cut)
section
variable {P : Program} {w : World} {K : PySem.W.Frag} {mg : Str → Option Value} {base : Heap}
/-! ### == of papers -/
def spAE (K : PySem.W.Frag) (C : Addr) (word nm : Str) (n : Nat) : Sp := fun vs H Q _ => ∃ (r s : Addr) (fs gs : List (Str × V)) (ds : List PyData), vs = [.ref r, .ref s] ∧ PapG C word fs H r ∧ PapG C word gs H s ∧ C8.InsC K C ∧ PapC K C ∧ NamC K C nm ∧
  fs.length ≤ 1000 ∧ Paired (FV H false n) (fs.map (·.2)) ds ∧ gs.length ≤ 1000 ∧ Paired (FV H false n) (gs.map (·.2)) ds ∧ n ≤ 60 ∧ ∀ H', Same H H' → Q (.bl true) H'
theorem scAE : FnScope ["one", "other"] ["one", "other"] (defScope sAreEqual) := ⟨rfl, rfl, rfl, by decide +kernel, rfl, by decide +kernel, by decide +kernel⟩
theorem ok_ae {C f : Addr} {word nm : Str} {n : Nat} {fd : FuncData} (F : Fun K "are_equal" "are_equal" sAreEqual f fd) : FnOk P w K mg base CX0 1 f fd ["one", "other"] (spAE K C word nm n) := by
  refine F.ok scAE (fun vs H Q E h => ?_) (fun cdv A outer s H vs Q E hr h => ?_)
  · obtain ⟨r, s, fs, gs, ds, rfl, _⟩ := h
    rfl
  · have nd := scAE.nd
    refine ⟨_, (pss_cons (ps_if (pt_cmpR op_ne (pe_cname (pv 0)) (pe_cname (pv 1)) (nomark _)) (pss_one (ps_ret pe_bl)) pss_nil)
      (pss_one (ps_ret (pe_and (pe_cmpR op_eq (pe_fld (pv 0) rfl) (pe_fld (pv 1) rfl) (nomark _)) (pe_one (pe_cmpR (op_eqD hr.units) (pe_fld (pv 0) rfl) (pe_fld (pv 1) rfl) (nomark _))))))), ?_⟩
    obtain ⟨r, s, fs, gs, ds, rfl, ⟨dx, t, hr0, ht⟩, ⟨dy, u, hs0, hu⟩, ic, pc, nc, fl, f1, gl, f2, n60, q⟩ := h
    refine ⟨_, rfl, r, C, dx, _, nm, rfl, hr0, ic, nc, _, rfl, s, C, dy, _, nm, rfl, hs0, ic, nc, rfl, _, rfl, ?_⟩
    rw [decide_eq_true rfl]
    refine iteF ?_
    refine ⟨_, rfl, r, C, dx, _, _, rfl, hr0, pc.cl, pc.nw, rfl, _, rfl, s, C, dy, _, _, rfl, hs0, pc.cl, pc.nw, rfl, rfl, _, rfl, ?_⟩
    rw [decide_eq_true rfl]
    refine iteT ?_
    refine ⟨_, rfl, r, C, dx, _, _, rfl, hr0, pc.cl, pc.np, rfl, _, rfl, s, C, dy, _, _, rfl, hs0, pc.cl, pc.np, rfl, ?_⟩
    have g1 : FV H false (n + 1) (.ref t) (.tuple ds) := FV.tup ht (by rw [List.length_map]; exact fl) f1
    have g2 : FV H false (n + 1) (.ref u) (.tuple ds) := FV.tup hu (by rw [List.length_map]; exact gl) f2
    refine ⟨_, _, fv_dp g1, fv_dp g2, fv_shaped g1 (by omega), fv_shaped g2 (by omega), ?_⟩
    rw [(fv_good g1).2.2]
    exact q H (Same.refl H)
theorem scPE : FnScope ["self", "other"] ["self", "other"] (defScope sPaperEq) := ⟨rfl, rfl, rfl, by decide +kernel, rfl, by decide +kernel, by decide +kernel⟩
theorem ok_pe {C aP f fA : Addr} {word nm : Str} {n : Nat} {fd fdA : FuncData} (F : Fun K "__eq__" "Paper.__eq__" sPaperEq f fd) (T : Bi mg) (PG : mg "Paper" = some (.ref aP)) (SB : PySem.W.kitOne K (.ref C) (.ref aP) = some true)
    (AE : DefAt P w K mg base CX0 1 "are_equal" ["one", "other"] (spAE K C word nm n) fA fdA) : FnOk P w K mg base CX0 2 f fd ["self", "other"] (spAE K C word nm n) := by
  refine F.ok scPE (fun vs H Q E h => ?_) (fun cdv A outer s H vs Q E hr h => ?_)
  · obtain ⟨r, s, fs, gs, ds, rfl, _⟩ := h
    rfl
  · have nd := scPE.nd
    refine ⟨_, (pss_one (ps_ret (pe_and (pe_callB call_isi (by rfl) T.isinstance (by decide +kernel) (pa_cons (pv 1) (pa_cons (pe_glob (v := .ref aP) rfl PG rfl) pa_nil))) (pe_one (pe_call AE.ok (hr.mono (by decide)) rfl AE.g AE.kp AE.b .nil pass0 (pa_cons (pv 0) (pa_cons (pv 1) pa_nil))))))), ?_⟩
    obtain ⟨r, s, fs, gs, ds, rfl, p1, p2, ic, pc, nc, rest⟩ := h
    obtain ⟨dy, u, hs0, hu⟩ := id p2
    refine ⟨_, rfl, .ref s, .ref aP, .ref C, .ref aP, true, rfl, .own _, .base (.ins hs0 ic.cl ic.ha ic.hn ic.htk ic.hm), SB, _, rfl, iteT ?_⟩
    exact ⟨_, rfl, _, rfl, r, s, fs, gs, ds, rfl, p1, p2, ic, pc, nc, rest⟩
/-! ### the truth of a paper -/
def spPB : Sp := fun vs H Q _ => ∃ v, vs = [v] ∧ Q (.bl true) H
theorem scPB : FnScope ["self"] ["self"] (defScope sPaperBool) := ⟨rfl, rfl, rfl, by decide +kernel, rfl, by decide +kernel, by decide +kernel⟩
theorem ok_pb {f : Addr} {fd : FuncData} (F : Fun K "__bool__" "Paper.__bool__" sPaperBool f fd) : FnOk P w K mg base CX0 1 f fd ["self"] spPB := by
  refine F.ok scPB (fun vs H Q E h => ?_) (fun cdv A outer s H vs Q E hr h => ?_)
  · obtain ⟨v, rfl, _⟩ := h
    rfl
  · refine ⟨_, (pss_one (ps_ret pe_bl)), ?_⟩
    obtain ⟨v, rfl, q⟩ := h
    exact q
/-! ### shows_slack -/
def spSH (K : PySem.W.Frag) (C cR cN cV aE : Addr) (T : List (Addr × Str)) : Sp := fun vs H Q E => ∃ v b u : V, vs = [v, b, u] ∧ AskS K C cR cN cV T H E v b fun ls j => (∃ q0 d o vl vh ol oh, u = .ref q0 ∧ SlackR aE H ls j q0 d o vl vh ol oh) ∧ ∀ H', ExtN H H' → Tabs T H' → Q (.bl true) H'
abbrev nSH : List Str := ["ring", "bar", "value", "down", "up", "is_low"]
theorem scSH : FnScope nSH ["ring", "bar", "value"] (defScope sShowsSlack) := ⟨rfl, rfl, rfl, by decide +kernel, rfl, by decide +kernel, by decide +kernel⟩
theorem ok_sh {C cR cN cV aE f fE fN fS fU fI fX fO : Addr} {fd fdE fdN fdS fdU fdI fdX fdO : FuncData} {TB : List (Addr × Str)} (F : Fun K "shows_slack" "shows_slack" sShowsSlack f fd) (T : Bi mg) (R : RingC K mg C) (EC : SlackC K mg aE) (EI : C8.InsC K aE) (EM : NamC K aE "Slack")
    (WS : DefAt P w K mg base (L2.CX P w) 10 "want_slack" ["ring", "bar"] (spWS K C cR cN cV TB) fE fdE) (SN : DefAt P w K mg base CX0 6 "slack_numbers" ["ring", "bar"] (spSN K C TB) fN fdN) (SD : DefAt P w K mg base CX0 4 "stops_down" ["ring", "bar", "down", "lot"] (spSD K C) fS fdS) (SU : DefAt P w K mg base CX0 4 "stops_up" ["ring", "bar", "up", "lot"] (spSU K C) fU fdU)
    (IC : DefAt P w K mg base CX0 1 "is_called" ["value", "name"] (spIC K) fI fdI) (IX : DefAt P w K mg base CX0 3 "is_exactly" ["value", "right"] (spIX 1) fX fdX) (IO : DefAt P w K mg base CX0 4 "is_lot_of" ["ring", "value"] (spIO K C) fO fdO) : FnOk P w K mg base (L2.CX P w) 11 f fd ["ring", "bar", "value"] (spSH K C cR cN cV aE TB) := by
  refine F.okX scSH (fun vs H Q E h => ?_) (fun cdv A outer s H vs Q E hr h => ?_)
  · obtain ⟨v, b, u, rfl, _⟩ := h
    rfl
  · have nd := scSH.nd
    refine ⟨_, (pss_cons (ps_expr (pe_call WS.ok (hr.mono (by decide)) rfl WS.g WS.kp WS.b .nil (passes_call (takes_of rfl rfl rfl rfl) (fun _ _ _ _ h => h)) (pa_cons (pv 0) (pa_cons (pv 1) pa_nil))))
      (pss_cons (ps_if (PW.pt (pw_or (pt_not (pt_val (pe_callB call_isi (by rfl) T.isinstance (by decide +kernel) (pa_cons (pv 2) (pa_cons (pe_glob (v := .ref aE) rfl EC.g rfl) pa_nil))))) (pw_or1 (pt_not (pt_val (pe_call IC.ok (hr.mono (by decide)) rfl IC.g IC.kp IC.b .nil pass0 (pa_cons (pv 2) (pa_cons pe_str pa_nil)))))))) (pss_one (ps_ret pe_bl)) pss_nil)
      (pss_cons (ps_asg (pe_call SN.ok (hr.mono (by decide)) rfl SN.g SN.kp SN.b .nil pass0 (pa_cons (pv 0) (pa_cons (pv 1) pa_nil))) (pg_tup (by rfl) (pgs_cons (pg_name (i := 3) nd rfl (Or.inl rfl)) (pgs_cons (pg_name (i := 4) nd rfl (Or.inl rfl)) pgs_nil))))
      (pss_cons (ps_if (pt_not (pt_val (pe_call IX.ok (hr.mono (by decide)) rfl IX.g IX.kp IX.b .nil pass0 (pa_cons (pe_tup (pa_cons (pe_fld (pv 2) rfl) (pa_cons (pe_fld (pv 2) rfl) pa_nil))) (pa_cons (pe_tup (pa_cons (pv 3) (pa_cons (pv 4) pa_nil))) pa_nil))))) (pss_one (ps_ret pe_bl)) pss_nil)
      (pss_cut (ps_if (pt_cmpR op_isN (pe_fld (pv 2) rfl) pe_non (nomark _)) (pss_one (ps_set (i := 5) nd rfl (Or.inl rfl) (pe_cmpR op_eq (pv 3) (pe_op op_sub (pe_ix (r := rIxT K) ix_tup (pe_fld (pv 0) rfl) (pv 1) (fun _ _ => rfl)) pe_int) (nomark _)))) (pss_one (ps_set (i := 5) nd rfl (Or.inl rfl) (pe_and (pe_call IO.ok (hr.mono (by decide)) rfl IO.g IO.kp IO.b .nil pass0 (pa_cons (pv 0) (pa_cons (pe_fld (pv 2) rfl) pa_nil))) (pe_one (pe_call SD.ok (hr.mono (by decide)) rfl SD.g SD.kp SD.b .nil pass0 (pa_cons (pv 0) (pa_cons (pv 1) (pa_cons (pv 3) (pa_cons (pe_fld (pv 2) rfl) pa_nil))))))))))
      (pss_cons (ps_if (pt_cmpR op_isN (pv 4) pe_non (nomark _)) (pss_one (ps_ret (pe_and (pv 5) (pe_one (pe_cmpR op_isN (pe_fld (pv 2) rfl) pe_non (nomark _)))))) pss_nil)
      (pss_one (ps_ret (pe_and (pv 5) (pe_and (pe_call IO.ok (hr.mono (by decide)) rfl IO.g IO.kp IO.b .nil pass0 (pa_cons (pv 0) (pa_cons (pe_fld (pv 2) rfl) pa_nil))) (pe_one (pe_call SU.ok (hr.mono (by decide)) rfl SU.g SU.kp SU.b .nil pass0 (pa_cons (pv 0) (pa_cons (pv 1) (pa_cons (pv 4) (pa_cons (pe_fld (pv 2) rfl) pa_nil)))))))))))))))), ?_⟩
    obtain ⟨v, b, u, rfl, ⟨r, ls, rfl, ra, l3, l8, tab, h⟩ | ⟨no, er⟩⟩ := h
    · rcases h with ⟨k, kd, wb, er⟩ | ⟨j, rfl, hj, h⟩
      · exact ⟨_, rfl, _, rfl, _, _, rfl, .inl ⟨r, ls, rfl, ra, l3, l8, tab, .inl ⟨k, kd, wb, er⟩⟩⟩
      rcases h with ⟨nl, ⟨q0, d, o, vl, vh, ol, oh, rfl, sr⟩, q⟩ | ⟨lv, er⟩
      · refine ⟨_, rfl, _, rfl, _, _, rfl, .inl ⟨r, ls, rfl, ra, l3, l8, tab, .inr ⟨j, rfl, hj, .inl ⟨nl, ?_⟩⟩⟩⟩
        obtain ⟨dx, t, hq0, ht0⟩ := id sr.pp
        refine ⟨_, rfl, .ref q0, .ref aE, .ref aE, .ref aE, true, rfl, .own _, .base (.ins hq0 EI.cl EI.ha EI.hn EI.htk EI.hm), EI.me, _, rfl, iteF ?_⟩
        refine ⟨_, rfl, q0, aE, dx, _, "Slack", rfl, hq0, EI, EM, _, rfl, iteF ?_⟩
        refine ⟨_, rfl, _, rfl, r, j, ls, rfl, ra.weak, l3, l8, hj, tab, fun t0 d' o' H1 e1 tab1 dn up ht1 => ?_⟩
        obtain rfl := dn.uniq sr.dn
        obtain rfl := up.uniq sr.up
        have sr1 := sr.ext e1
        have rw1 := ra.weak.ext e1
        clear sr
        obtain ⟨dx, t, hq1, _⟩ := id sr1.pp
        refine ⟨t0, _, rfl, .inl (.inl ht1), rfl, _, _, rfl, _, _, rfl, rfl, ?_⟩
        -- the numbers told
        refine ⟨_, rfl, q0, aE, dx, _, _, rfl, hq1, EC.pc.cl, EC.nd, rfl, _, rfl, q0, aE, dx, _, _, rfl, hq1, EC.pc.cl, EC.nu, rfl, (by show 2 ≤ sizeLine; decide), fun p1 n1 => ⟨_, rfl, _, rfl, (by show 2 ≤ sizeLine; decide), fun p2 n2 => ?_⟩⟩
        have s2 : Same H1 (upd H1 p1 (.tup [.int d', oI o'])) := (Same.refl H1).new n1
        have y1 : upd H1 p1 (.tup [.int d', oI o']) p1 = some (.tup [.int d', oI o']) := upd_same
        generalize upd H1 p1 (.tup [.int d', oI o']) = H2 at s2 y1 n2 ⊢
        have s3 : Same H2 (upd H2 p2 (.tup [.int d', oI o'])) := (Same.refl H2).new n2
        have y2 : upd H2 p2 (.tup [.int d', oI o']) p2 = some (.tup [.int d', oI o']) := upd_same
        generalize upd H2 p2 (.tup [.int d', oI o']) = H3 at s3 y2 ⊢
        refine ⟨_, _, rfl, .inr ⟨p1, p2, _, _, rfl, rfl, s3 _ _ y1, y2, (by show 2 ≤ 1000; decide), .cons (IV.i _) (.cons (IV.o _) .nil)⟩, fun H4 s4 => ⟨_, rfl, iteF ?_⟩⟩
        have s14 := (s2.trans s3).trans s4
        have sr4 := sr1.ext (ExtN.of s14)
        have rw4 := rw1.same s14
        have tab4 := tab1.ext s14
        have e4 := e1.trans (ExtN.of s14)
        clear sr1 rw1 tab1 s14 s2 s3 s4 y1 y2 ht1
        have ex := allL_ex ls.length
        -- low
        refine ⟨fun σ' H' => σ' = [some (.ref r), some (.int (j : Nat)), some (.ref q0), some (.int d'), some (oI o'), some (.bl true)] ∧ Same H4 H', ?_, ?_⟩
        · obtain ⟨dx, t, hq4, _⟩ := id sr4.pp
          refine ⟨_, rfl, q0, aE, dx, _, _, rfl, hq4, EC.pc.cl, EC.nl, rfl, rfl, _, rfl, ?_⟩
          rcases sr4.rl with ⟨rfl, rfl⟩ | ⟨t2, l, rfl, rfl, ht2⟩
          · refine iteDT rfl ?_
            obtain ⟨dr, tr, hr2, htr2⟩ := id rw4
            have g0 : ls[j]? = some (ls.getD j 0) := by rw [List.getD_eq_getElem?_getD, List.getElem?_eq_getElem hj]; rfl
            refine ⟨_, rfl, _, rfl, r, C, dr, _, _, rfl, hr2, R.cl, R.nL, rf_lengths _ _, _, rfl, tr, _, (j : Nat), .int (ls.getD j 0), rfl, rfl, htr2, atI_nat (j := j) (by rw [List.getElem?_map, g0]; rfl), _, _, rfl, rfl, rfl, ?_⟩
            have e : d' = ls.getD j 0 - 1 := by
              have := sr4.dn.first_none ex sr4.fl
              omega
            rw [e, decide_eq_true rfl]
            exact ⟨rfl, Same.refl _⟩
          · refine iteDF (fun z => nomatch z) ?_
            have hl := sr4.fl.some ex
            refine ⟨_, rfl, _, rfl, q0, aE, dx, _, _, rfl, hq4, EC.pc.cl, EC.nl, rfl, r, t2, ls, l, rfl, rw4, ht2, hl.1, l8, fun H5 s5 => ⟨_, rfl, iteT ?_⟩⟩
            refine ⟨_, rfl, _, rfl, _, rfl, _, rfl, q0, aE, dx, _, _, rfl, s5 _ _ hq4, EC.pc.cl, EC.nl, rfl, r, t2, ls, l, j, d', rfl, rw4.same s5, l3, l8, s5 _ _ ht2, lotsN_lot hl.1, fun H6 s6 => ?_⟩
            rw [hl.2]
            exact ⟨rfl, s5.trans s6⟩
        rintro σ H5 ⟨rfl, s5⟩
        have sr5 := sr4.ext (ExtN.of s5)
        have rw5 := rw4.same s5
        have tab5 := tab4.ext s5
        have e5 := e4.trans (ExtN.of s5)
        obtain ⟨dx, t, hq5, _⟩ := id sr5.pp
        refine ⟨_, rfl, rfl, _, rfl, ?_⟩
        cases o' with
        | none =>
          refine iteDT rfl ⟨_, rfl, _, rfl, iteT ?_⟩
          refine ⟨_, rfl, q0, aE, dx, _, _, rfl, hq5, EC.pc.cl, EC.nh, rfl, rfl, ?_⟩
          have : oh = none := by
            cases oh with
            | none => rfl
            | some l => exact absurd (sr5.fh.some ex).2 (by simp)
          subst this
          rcases sr5.rh with ⟨_, rfl⟩ | ⟨_, _, z, _⟩
          · rw [decide_eq_true rfl]
            exact q H5 e5 tab5
          · cases z
        | some u =>
          refine iteDF (fun z => nomatch z) ⟨_, rfl, _, rfl, iteT ?_⟩
          obtain ⟨l, rfl⟩ := sr5.up.first_some ex sr5.fh
          have hl := sr5.fh.some ex
          rcases sr5.rh with ⟨z, _⟩ | ⟨t2, l', e, rfl, ht2⟩
          · cases z
          cases e
          refine ⟨_, rfl, _, rfl, q0, aE, dx, _, _, rfl, hq5, EC.pc.cl, EC.nh, rfl, r, t2, ls, l, rfl, rw5, ht2, hl.1, l8, fun H6 s6 => ⟨_, rfl, iteT ?_⟩⟩
          refine ⟨_, rfl, _, rfl, _, rfl, _, rfl, q0, aE, dx, _, _, rfl, s6 _ _ hq5, EC.pc.cl, EC.nh, rfl, r, t2, ls, l, j, u, rfl, rw5.same s6, l3, l8, s6 _ _ ht2, lotsN_lot hl.1, fun H7 s7 => ?_⟩
          have : puB ls j u l = true := hl.2
          rw [this]
          exact q H7 (e5.trans (ExtN.of (s6.trans s7))) (tab5.ext (s6.trans s7))
      · exact ⟨_, rfl, _, rfl, _, _, rfl, .inl ⟨r, ls, rfl, ra, l3, l8, tab, .inr ⟨j, rfl, hj, .inr ⟨lv, er⟩⟩⟩⟩
    · exact ⟨_, rfl, _, rfl, _, _, rfl, .inr ⟨no, er⟩⟩
end
end K
namespace K
open PySem L2 Rg LamX
open Evl (pss_cut)
structure HeardC (K : PySem.W.Frag) (mg : Str → Option Value) (r n m b l eR : Addr) : Prop where
  gRE : mg "RingError" = some (.ref eR)
  gr : mg "BadRing" = some (.ref r)
  er : ExcC K r
  xr : XfC K r
  mr : PySem.W.exmOne K (.ref r) (.ref eR) = some true
  np : PySem.W.findIn K (.ref r) "part" = some none
  gn : mg "BadNumber" = some (.ref n)
  gm : mg "Misfit" = some (.ref m)
  gb : mg "NoBar" = some (.ref b)
  gl : mg "Level" = some (.ref l)
  el : ExcC K l
  xl : XfC K l
  ml : PySem.W.exmOne K (.ref l) (.ref eR) = some true
  nl : PySem.W.findIn K (.ref l) "lot" = some none
  lr : PySem.W.kitOne K (.ref l) (.ref r) = some false
  ln : PySem.W.kitOne K (.ref l) (.ref n) = some false
  lm : PySem.W.kitOne K (.ref l) (.ref m) = some false
  lb : PySem.W.kitOne K (.ref l) (.ref b) = some false
  eb : ExcC K b
  xb : XfC K b
  mb : PySem.W.exmOne K (.ref b) (.ref eR) = some true
  nb : PySem.W.findIn K (.ref b) "value" = some none
  br : PySem.W.kitOne K (.ref b) (.ref r) = some false
  bn : PySem.W.kitOne K (.ref b) (.ref n) = some false
  bm : PySem.W.kitOne K (.ref b) (.ref m) = some false
/-- an error of the class comes: a tuple tells its field -/
def Told (c : Addr) (tag fld : Str) (Q : VK) : XK := fun cls d H' => ∃ (dd : Addr) (v : V), cls = .ref c ∧ d = some dd ∧ H' dd = some (.xd [(fld, v)]) ∧ ∀ p H2, Same H' H2 → H2 p = some (.tup [.str tag, v]) → Q (.ref p) H2
def THeard (c : Addr) (tag fld : Str) : (XK → Hp → VK → Prop) → Hp → VK → Prop := fun tl H Q => ∀ R : VK, tl (Told c tag fld Q) H R
theorem takes_len {X : Cx} {W : WX} (t : Takes X W) : Takes X fun c d σ H => σ.length = X.N.length → W c d σ H := fun u s' ⟨a, B, sI, pins, σ, H, cls, d, e, I, nb, up, sky, na, os, ag, w⟩ =>
  t u s' ⟨a, B, sI, pins, σ, H, cls, d, e, I, nb, up, sky, na, os, ag, w I.len⟩
abbrev nHeard : List Str := ["_law_ask", "_law_caught", "error"]
theorem scHeard : FnScope nHeard ["_law_ask"] (defScope sLwHeard) := ⟨rfl, rfl, rfl, by decide +kernel, rfl, by decide +kernel, by decide +kernel⟩
theorem heard_ring {X : Cx} {r n m b l eR g : Addr} {cdg : Value} {q : Str} (T : Bi X.mg) (Hc : HeardC X.K X.mg r n m b l eR) : GivesTo X nHeard "_law_heard" (defScope sLwHeard) g cdg (defBody sLwHeard) "_law_ask" q (THeard r "ring" "part") := by
  intro f c' s H Q tl act hc h
  have nd := scHeard.nd
  refine ⟨_, pss_cons (ps_set (i := 1) nd rfl (Or.inl rfl) pe_non)
    (pss_cons (ps_try_keep (X := (cxOf C8.CX0 X.prog X.w X.K X.mg X.base nHeard "_law_heard" (defScope sLwHeard) g cdg X.A X.stack s H C8.E0).nox) (cv := .ref eR) (ix := 2)
      (tbd := fun W D σ H => ∃ Ech : XK, (∀ cls d σ' H', Ech cls d H' → σ'.length = 3 → W cls d σ' H') ∧ σ[0]? = some (some (.ref f)) ∧ H c' = some (CodeO c' q) ∧ tl Ech H fun _ H' => D.nx σ H')
      rfl rfl nd rfl rfl ⟨rfl, rfl, .inl Hc.gRE⟩ (fun W pn xe tk _ => ?_) (fun e pn => pss_one (ps_set (i := 1) nd rfl (Or.inl rfl) (pv 2))))
    (pss_cons (ps_if (pt_val (pe_callB (call_or call_isi cr_isE) (by rfl) T.isinstance (by decide +kernel) (pa_cons (pv 1) (pa_cons (pe_glob (v := .ref r) rfl Hc.gr rfl) pa_nil)))) (pss_one (ps_ret (pe_tup (pa_cons pe_str (pa_cons (pe_fldE (pv 1)) pa_nil))))) pss_nil)
    (pss_cons ps_never (pss_cons ps_never (pss_cons ps_never (pss_cons ps_never (pss_cons ps_never (pss_one ps_never)))))))), ?_⟩
  · refine ⟨fun pins s' σ H' D I h' => ?_⟩
    obtain ⟨Ech, hW, h1, h2, h3⟩ := h'
    exact (pss_one (ps_expr (act _ pn xe Ech _ _ (takes_len tk) hW))).run pins s' σ H' D I ⟨h1, h2, h3⟩
  · refine ⟨Told r "ring" "part" Q, ?_, rfl, hc, ?_⟩
    · rintro cls d σ' H' ⟨dd, v, rfl, rfl, hdd, k⟩ hl
      obtain ⟨x0, x1, x2, rfl⟩ : ∃ x0 x1 x2, σ' = [x0, x1, x2] := by
        match σ', hl with
        | [x0, x1, x2], _ => exact ⟨x0, x1, x2, rfl⟩
      refine ⟨Hc.mr, r, rfl, fun e ne => ?_⟩
      have s1 : Same H' (upd H' e (errO e r (some dd))) := (Same.refl H').new ne
      have ev : ErrV (upd H' e (errO e r (some dd))) (.ref e) r [("part", v)] := ⟨e, dd, rfl, upd_same, s1 _ _ hdd⟩
      refine ⟨_, rfl, _, rfl, .inr ⟨.ref e, .ref r, .ref r, r, _, true, rfl, fun _ z => z, Hc.er, ev, kit_self, _, rfl, iteT ?_⟩⟩
      refine ⟨_, rfl, r, _, v, ev, Hc.xr, Hc.np, by simp [List.lookup], (by show 2 ≤ sizeLine; decide), fun p hp => ?_⟩
      exact k p _ (s1.new hp) upd_same
    · exact h _
theorem heard_level {X : Cx} {r n m b l eR g : Addr} {cdg : Value} {q : Str} (T : Bi X.mg) (Hc : HeardC X.K X.mg r n m b l eR) : GivesTo X nHeard "_law_heard" (defScope sLwHeard) g cdg (defBody sLwHeard) "_law_ask" q (THeard l "level" "lot") := by
  intro f c' s H Q tl act hc h
  have nd := scHeard.nd
  refine ⟨_, pss_cons (ps_set (i := 1) nd rfl (Or.inl rfl) pe_non)
    (pss_cons (ps_try_keep (X := (cxOf C8.CX0 X.prog X.w X.K X.mg X.base nHeard "_law_heard" (defScope sLwHeard) g cdg X.A X.stack s H C8.E0).nox) (cv := .ref eR) (ix := 2)
      (tbd := fun W D σ H => ∃ Ech : XK, (∀ cls d σ' H', Ech cls d H' → σ'.length = 3 → W cls d σ' H') ∧ σ[0]? = some (some (.ref f)) ∧ H c' = some (CodeO c' q) ∧ tl Ech H fun _ H' => D.nx σ H')
      rfl rfl nd rfl rfl ⟨rfl, rfl, .inl Hc.gRE⟩ (fun W pn xe tk _ => ?_) (fun e pn => pss_one (ps_set (i := 1) nd rfl (Or.inl rfl) (pv 2))))
    (pss_cons (ps_if (pt_val (pe_callB (call_or call_isi cr_isE) (by rfl) T.isinstance (by decide +kernel) (pa_cons (pv 1) (pa_cons (pe_glob (v := .ref r) rfl Hc.gr rfl) pa_nil)))) (pss_one ps_never) pss_nil)
    (pss_cons (ps_if (pt_val (pe_callB (call_or call_isi cr_isE) (by rfl) T.isinstance (by decide +kernel) (pa_cons (pv 1) (pa_cons (pe_glob (v := .ref n) rfl Hc.gn rfl) pa_nil)))) (pss_one ps_never) pss_nil)
    (pss_cons (ps_if (pt_val (pe_callB (call_or call_isi cr_isE) (by rfl) T.isinstance (by decide +kernel) (pa_cons (pv 1) (pa_cons (pe_glob (v := .ref m) rfl Hc.gm rfl) pa_nil)))) (pss_one ps_never) pss_nil)
    (pss_cons (ps_if (pt_val (pe_callB (call_or call_isi cr_isE) (by rfl) T.isinstance (by decide +kernel) (pa_cons (pv 1) (pa_cons (pe_glob (v := .ref b) rfl Hc.gb rfl) pa_nil)))) (pss_one ps_never) pss_nil)
    (pss_cons (ps_if (pt_val (pe_callB (call_or call_isi cr_isE) (by rfl) T.isinstance (by decide +kernel) (pa_cons (pv 1) (pa_cons (pe_glob (v := .ref l) rfl Hc.gl rfl) pa_nil)))) (pss_one (ps_ret (pe_tup (pa_cons pe_str (pa_cons (pe_fldE (pv 1)) pa_nil))))) pss_nil)
    (pss_cons ps_never (pss_one ps_never)))))))), ?_⟩
  · refine ⟨fun pins s' σ H' D I h' => ?_⟩
    obtain ⟨Ech, hW, h1, h2, h3⟩ := h'
    exact (pss_one (ps_expr (act _ pn xe Ech _ _ (takes_len tk) hW))).run pins s' σ H' D I ⟨h1, h2, h3⟩
  · refine ⟨Told l "level" "lot" Q, ?_, rfl, hc, ?_⟩
    · rintro cls d σ' H' ⟨dd, v, rfl, rfl, hdd, k⟩ hl
      obtain ⟨x0, x1, x2, rfl⟩ : ∃ x0 x1 x2, σ' = [x0, x1, x2] := by
        match σ', hl with
        | [x0, x1, x2], _ => exact ⟨x0, x1, x2, rfl⟩
      refine ⟨Hc.ml, l, rfl, fun e ne => ?_⟩
      have s1 : Same H' (upd H' e (errO e l (some dd))) := (Same.refl H').new ne
      have ev : ErrV (upd H' e (errO e l (some dd))) (.ref e) l [("lot", v)] := ⟨e, dd, rfl, upd_same, s1 _ _ hdd⟩
      refine ⟨_, rfl, _, rfl, .inr ⟨.ref e, .ref r, .ref r, l, _, false, rfl, fun _ z => z, Hc.el, ev, Hc.lr, _, rfl, iteF ?_⟩⟩
      refine ⟨_, rfl, .inr ⟨.ref e, .ref n, .ref n, l, _, false, rfl, fun _ z => z, Hc.el, ev, Hc.ln, _, rfl, iteF ?_⟩⟩
      refine ⟨_, rfl, .inr ⟨.ref e, .ref m, .ref m, l, _, false, rfl, fun _ z => z, Hc.el, ev, Hc.lm, _, rfl, iteF ?_⟩⟩
      refine ⟨_, rfl, .inr ⟨.ref e, .ref b, .ref b, l, _, false, rfl, fun _ z => z, Hc.el, ev, Hc.lb, _, rfl, iteF ?_⟩⟩
      refine ⟨_, rfl, .inr ⟨.ref e, .ref l, .ref l, l, _, true, rfl, fun _ z => z, Hc.el, ev, kit_self, _, rfl, iteT ?_⟩⟩
      refine ⟨_, rfl, l, _, v, ev, Hc.xl, Hc.nl, by simp [List.lookup], (by show 2 ≤ sizeLine; decide), fun p hp => ?_⟩
      exact k p _ (s1.new hp) upd_same
    · exact h _
theorem heard_bar {X : Cx} {r n m b l eR g : Addr} {cdg : Value} {q : Str} (T : Bi X.mg) (Hc : HeardC X.K X.mg r n m b l eR) : GivesTo X nHeard "_law_heard" (defScope sLwHeard) g cdg (defBody sLwHeard) "_law_ask" q (THeard b "bar" "value") := by
  intro f c' s H Q tl act hc h
  have nd := scHeard.nd
  refine ⟨_, pss_cons (ps_set (i := 1) nd rfl (Or.inl rfl) pe_non)
    (pss_cons (ps_try_keep (X := (cxOf C8.CX0 X.prog X.w X.K X.mg X.base nHeard "_law_heard" (defScope sLwHeard) g cdg X.A X.stack s H C8.E0).nox) (cv := .ref eR) (ix := 2)
      (tbd := fun W D σ H => ∃ Ech : XK, (∀ cls d σ' H', Ech cls d H' → σ'.length = 3 → W cls d σ' H') ∧ σ[0]? = some (some (.ref f)) ∧ H c' = some (CodeO c' q) ∧ tl Ech H fun _ H' => D.nx σ H')
      rfl rfl nd rfl rfl ⟨rfl, rfl, .inl Hc.gRE⟩ (fun W pn xe tk _ => ?_) (fun e pn => pss_one (ps_set (i := 1) nd rfl (Or.inl rfl) (pv 2))))
    (pss_cons (ps_if (pt_val (pe_callB (call_or call_isi cr_isE) (by rfl) T.isinstance (by decide +kernel) (pa_cons (pv 1) (pa_cons (pe_glob (v := .ref r) rfl Hc.gr rfl) pa_nil)))) (pss_one ps_never) pss_nil)
    (pss_cons (ps_if (pt_val (pe_callB (call_or call_isi cr_isE) (by rfl) T.isinstance (by decide +kernel) (pa_cons (pv 1) (pa_cons (pe_glob (v := .ref n) rfl Hc.gn rfl) pa_nil)))) (pss_one ps_never) pss_nil)
    (pss_cons (ps_if (pt_val (pe_callB (call_or call_isi cr_isE) (by rfl) T.isinstance (by decide +kernel) (pa_cons (pv 1) (pa_cons (pe_glob (v := .ref m) rfl Hc.gm rfl) pa_nil)))) (pss_one ps_never) pss_nil)
    (pss_cons (ps_if (pt_val (pe_callB (call_or call_isi cr_isE) (by rfl) T.isinstance (by decide +kernel) (pa_cons (pv 1) (pa_cons (pe_glob (v := .ref b) rfl Hc.gb rfl) pa_nil)))) (pss_one (ps_ret (pe_tup (pa_cons pe_str (pa_cons (pe_fldE (pv 1)) pa_nil))))) pss_nil)
    (pss_cons ps_never (pss_cons ps_never (pss_one ps_never)))))))), ?_⟩
  · refine ⟨fun pins s' σ H' D I h' => ?_⟩
    obtain ⟨Ech, hW, h1, h2, h3⟩ := h'
    exact (pss_one (ps_expr (act _ pn xe Ech _ _ (takes_len tk) hW))).run pins s' σ H' D I ⟨h1, h2, h3⟩
  · refine ⟨Told b "bar" "value" Q, ?_, rfl, hc, ?_⟩
    · rintro cls d σ' H' ⟨dd, v, rfl, rfl, hdd, k⟩ hl
      obtain ⟨x0, x1, x2, rfl⟩ : ∃ x0 x1 x2, σ' = [x0, x1, x2] := by
        match σ', hl with
        | [x0, x1, x2], _ => exact ⟨x0, x1, x2, rfl⟩
      refine ⟨Hc.mb, b, rfl, fun e ne => ?_⟩
      have s1 : Same H' (upd H' e (errO e b (some dd))) := (Same.refl H').new ne
      have ev : ErrV (upd H' e (errO e b (some dd))) (.ref e) b [("value", v)] := ⟨e, dd, rfl, upd_same, s1 _ _ hdd⟩
      refine ⟨_, rfl, _, rfl, .inr ⟨.ref e, .ref r, .ref r, b, _, false, rfl, fun _ z => z, Hc.eb, ev, Hc.br, _, rfl, iteF ?_⟩⟩
      refine ⟨_, rfl, .inr ⟨.ref e, .ref n, .ref n, b, _, false, rfl, fun _ z => z, Hc.eb, ev, Hc.bn, _, rfl, iteF ?_⟩⟩
      refine ⟨_, rfl, .inr ⟨.ref e, .ref m, .ref m, b, _, false, rfl, fun _ z => z, Hc.eb, ev, Hc.bm, _, rfl, iteF ?_⟩⟩
      refine ⟨_, rfl, .inr ⟨.ref e, .ref b, .ref b, b, _, true, rfl, fun _ z => z, Hc.eb, ev, kit_self, _, rfl, iteT ?_⟩⟩
      refine ⟨_, rfl, b, _, v, ev, Hc.xb, Hc.nb, by simp [List.lookup], (by show 2 ≤ sizeLine; decide), fun p hp => ?_⟩
      exact k p _ (s1.new hp) upd_same
    · exact h _
/-- a lambda that raises is heard -/
theorem hear {c : Addr} {v : V} {T : List (Addr × Str)} {H : Hp} {σ : St} {t : XK → TE} {Q : VK} (tab : Tabs T H)
    (body : ∀ (E' : XK) (J : Hp) (Q' : VK), ExtN H J → Tabs T J → Errs E' c "part" v J → t E' σ J Q') (k : ∀ M p, ExtN H M → Tabs T M → M p = some (.tup [.str "ring", v]) → Q (.ref p) M) : tLam T (THeard c "ring" "part") t σ H Q := by
  refine ⟨tab, fun I extI tabsI R => ?_⟩
  exact body _ _ _ extI tabsI fun d L sL nd xd => ⟨d, v, rfl, rfl, xd, fun p M sM hp => k M p (extI.trans (ExtN.of (sL.trans sM))) (tabsI.ext (sL.trans sM)) hp⟩
/-- a lambda that raises is heard: any class -/
theorem hearG {c : Addr} {tag fld : Str} {v : V} {T : List (Addr × Str)} {H : Hp} {σ : St} {t : XK → TE} {Q : VK} (tab : Tabs T H)
    (body : ∀ (E' : XK) (J : Hp) (Q' : VK), ExtN H J → Tabs T J → Errs E' c fld v J → t E' σ J Q') (k : ∀ M p, ExtN H M → Tabs T M → M p = some (.tup [.str tag, v]) → Q (.ref p) M) : tLam T (THeard c tag fld) t σ H Q := by
  refine ⟨tab, fun I extI tabsI R => ?_⟩
  exact body _ _ _ extI tabsI fun d L sL nd xd => ⟨d, v, rfl, rfl, xd, fun p M sM hp => k M p (extI.trans (ExtN.of (sL.trans sM))) (tabsI.ext (sL.trans sM)) hp⟩
/-- one that tells the first level lot -/
theorem hearL {c : Addr} {ls : List Int} {T : List (Addr × Str)} {H : Hp} {σ : St} {t : XK → TE} {Q : VK} (tab : Tabs T H)
    (body : ∀ (E' : XK) (J : Hp) (Q' : VK), ExtN H J → Tabs T J → LevX E' c ls T J → t E' σ J Q') (k : ∀ M p u l0, ExtN H M → Tabs T M → M p = some (.tup [.str "level", .ref u]) → M u = some (.tup (l0.map V.int)) → (∀ L, AllL ls.length L → (L.filter (levB ls))[0]? = some l0) → Q (.ref p) M) : tLam T (THeard c "level" "lot") t σ H Q := by
  refine ⟨tab, fun I extI tabsI R => ?_⟩
  refine body _ _ _ extI tabsI fun J u l0 xJ tJ hu hl d L sL nd xd => ⟨d, .ref u, rfl, rfl, xd, fun p M sM hp => ?_⟩
  have s2 := sL.trans sM
  exact k M p u l0 ((extI.trans xJ).trans (ExtN.of s2)) (tJ.ext s2) hp (s2 _ _ hu) hl
end K
namespace K
open PySem L2 Rg LamX
open Evl (pss_cut)
/-- one length more, or less: no lot is level -/
theorem odd_clear {ls : List Int} (h : levelB ls = true) {x y : Int} {r : List Int} (e : ls = x :: r) (hy : y = x + 1 ∨ y = x - 1) : levelB (y :: r) = false := by
  rw [level_lots, List.any_eq_true] at h
  obtain ⟨l, _, q⟩ := h
  have q := of_decide_eq_true q
  rw [level_lots]
  refine List.any_eq_false.mpr fun m _ z => ?_
  have z := of_decide_eq_true z
  subst e
  rw [List.sum_cons] at q z
  omega
theorem tabS_but {h : Addr} {xs : List V} {H H' : Hp} {P : Addr} {q : Str} (t : TabS H P q) (b : But h H H') (hh : H h = some (.lst xs)) : TabS H' P q := by
  obtain ⟨ps, h1, h2, h3⟩ := t
  refine ⟨ps, b _ _ (fun e => ?_) h1, h2, fun pos cv hc => ?_⟩
  · rw [e, hh] at h1
    cases h1
  · obtain ⟨c, e1, e2⟩ := h3 pos cv hc
    refine ⟨c, e1, b _ _ (fun e => ?_) e2⟩
    rw [e, hh] at e2
    cases e2
theorem tabs_but {h : Addr} {xs : List V} {H H' : Hp} {T : List (Addr × Str)} (t : Tabs T H) (b : But h H H') (hh : H h = some (.lst xs)) : Tabs T H' := fun p hp => tabS_but (t p hp) b hh
theorem PenAt.ext {K : PySem.W.Frag} {H H' : Hp} {p : Addr} {e : Addr × List Int} {n : Nat} (h : PenAt K H p e n) (s : ExtN H H') : PenAt K H' p e n := by
  obtain ⟨a, r, h1, h5, h6, h7⟩ := h.ex
  refine ⟨⟨a, r, s _ _ h1 (fun _ z => nomatch z), h5, h6, h7⟩, ?_, h.np, h.ln⟩
  rcases h.sq with (z | ⟨o, z⟩) | z
  · exact .inl (.inl (s _ _ z (fun _ z => nomatch z)))
  · exact .inl (.inr ⟨o, s _ _ z (fun _ z => nomatch z)⟩)
  · exact .inr z
/-- what stood stands, but for what is at p and the tables -/
def Kp (p : Addr) (H H' : Hp) : Prop := ∀ b o, H b = some o → b ≠ p → (∀ ps, o ≠ .tbl ps) → H' b = some o
theorem Kp.refl (p : Addr) (H : Hp) : Kp p H H := fun _ _ h _ _ => h
theorem Kp.but {p : Addr} {H H1 H2 : Hp} (a : Kp p H H1) (s : But p H1 H2) : Kp p H H2 := fun b o q n t => s b o n (a b o q n t)
theorem Kp.ext {p : Addr} {H H1 H2 : Hp} (a : Kp p H H1) (s : ExtN H1 H2) : Kp p H H2 := fun b o q n t => s b o (a b o q n t) t
theorem Kp.trans {p : Addr} {H H1 H2 : Hp} (a : Kp p H H1) (s : Kp p H1 H2) : Kp p H H2 := fun b o q n t => s b o (a b o q n t) n t
theorem Kp.of {p : Addr} {H H' : Hp} (s : ExtN H H') : Kp p H H' := fun b o h _ t => s b o h t
theorem Kp.tup {p a : Addr} {H H' : Hp} {us px : List V} (k : Kp p H H') (hp : H p = some (.lst px)) (h : H a = some (.tup us)) : H' a = some (.tup us) := k _ _ h (fun z => by rw [z, hp] at h; cases h) (fun _ z => nomatch z)
theorem PapG.kp {C : Addr} {word : Str} {fs : List (Str × V)} {p : Addr} {px : List V} {H H' : Hp} {r : Addr} (h : PapG C word fs H r) (k : Kp p H H') (hp : H p = some (.lst px)) : PapG C word fs H' r := by
  obtain ⟨dx, t, h1, h2⟩ := h
  exact ⟨dx, t, k _ _ h1 (fun z => by rw [z, hp] at h1; cases h1) (fun _ q => nomatch q), k.tup hp h2⟩
theorem LotR.kp {p : Addr} {px : List V} {H H' : Hp} {o : Option (List Int)} {v : V} (h : LotR H o v) (k : Kp p H H') (hp : H p = some (.lst px)) : LotR H' o v := by
  rcases h with h | ⟨t, l, e, a, b⟩
  · exact .inl h
  · exact .inr ⟨t, l, e, a, k.tup hp b⟩
theorem RingAt.kp {K : PySem.W.Frag} {C p : Addr} {px : List V} {H H' : Hp} {r : Addr} {ls : List Int} (h : RingAt K C H r ls) (k : Kp p H H') (hp : H p = some (.lst px)) : RingAt K C H' r ls := by
  obtain ⟨dx, t, h1, h2, o, h3, h4⟩ := h
  have h3' := k _ _ h3 (fun z => by rw [z, hp] at h3; cases h3) (fun _ q => nomatch q)
  exact ⟨dx, t, k _ _ h1 (fun z => by rw [z, hp] at h1; cases h1) (fun _ q => nomatch q), .inl (.inr ⟨o, h3'⟩), o, h3', h4⟩
theorem SlackR.kp {C : Addr} {p : Addr} {px : List V} {H H' : Hp} {ls : List Int} {j : Nat} {q : Addr} {d : Int} {o : Option Int} {vl vh : V} {ol oh : Option (List Int)} (h : SlackR C H ls j q d o vl vh ol oh) (k : Kp p H H') (hp : H p = some (.lst px)) : SlackR C H' ls j q d o vl vh ol oh := ⟨h.dn, h.up, h.fl, h.fh, h.pp.kp k hp, h.rl.kp k hp, h.rh.kp k hp⟩
/-! ### the lots in their order, the book of a ring -/
noncomputable def allN (n : Nat) : List (List Int) := (allL_ex n).choose
theorem allN_all (n : Nat) : AllL n (allN n) := (allL_ex n).choose_spec
noncomputable def bookN (n : Nat) (ls : List Int) : List (List Int) := (allN n).filter (shB ls)
theorem bookN_same {n : Nat} {ls ms : List Int} (h : ∀ l ∈ lotsN n, (gapE ls l < 0 ↔ gapE ms l < 0)) : bookN n ls = bookN n ms := List.filter_congr fun l hl => decide_eq_decide.mpr (h l ((allN_all n).pm.mem_iff.mp hl))
theorem bookN_mem {n : Nat} {ls l : List Int} : l ∈ bookN n ls ↔ l ∈ lotsN n ∧ gapE ls l < 0 := by
  unfold bookN shB
  rw [List.mem_filter, (allN_all n).pm.mem_iff, decide_eq_true_iff]
theorem bookN_other {n : Nat} {ls ms : List Int} {l : List Int} (hl : l ∈ lotsN n) (h : ¬ (gapE ls l < 0 ↔ gapE ms l < 0)) : bookN n ls ≠ bookN n ms := fun z => h (by
  have : l ∈ bookN n ls ↔ l ∈ bookN n ms := by rw [z]
  rw [bookN_mem, bookN_mem] at this
  exact ⟨fun k => (this.mp ⟨hl, k⟩).2, fun k => (this.mpr ⟨hl, k⟩).2⟩)
theorem AllL.of_law {n : Nat} {xs : List V} {kf : V → List Int} (pm : (xs.map kf).Perm (lotsN n)) (pw : xs.Pairwise fun u v => HT.lexLt (((kf v).length : Int) :: kf v) (((kf u).length : Int) :: kf u) = false) : xs.map kf = allN n := (AllL.mk pm (List.pairwise_map.mpr (pw.imp fun h => h))).eq (allN_all n)
def rMin2 : List V → Hp → VK → Prop := fun xs H Q => ∃ i j, xs = [.int i, .int j] ∧ Q (.int (if j < i then j else i)) H
theorem cr_min2 {X : Cx} (hc : X.calm = true) : CallR X (.builtin "min") rMin2 := call_min2 hc
section
variable {P : Program} {w : World} {K : PySem.W.Frag} {mg : Str → Option Value} {base : Heap}
def spLR (K : PySem.W.Frag) : Sp := fun vs H Q _ => ∃ (p : Addr) (e : Addr × List Int) (m n : Nat), vs = [.ref p, .int (m : Nat)] ∧ 3 ≤ m ∧ m ≤ 8 ∧ n < 800000 ∧ PenAt K H p e n ∧
  ∀ (l : Addr) (ls : List Int) (H' : Hp), ls.length = m → Bd 1000000 ls → levelB ls = false → H l = none → But p H H' → H' l = some (.lst (ls.map V.int)) → PenAt K H' p e (n + 9) → Q (.ref l) H'
abbrev nLR : List Str := ["_law_reel_here", "_law_many", "_law_lengths_here", "_law_lot", "_law_length"]
theorem scLR : FnScope nLR ["_law_reel_here", "_law_many"] (defScope sLwRing) := ⟨rfl, rfl, rfl, by decide +kernel, rfl, by decide +kernel, by decide +kernel⟩
theorem ok_lr {f fL fG fN : Addr} {fd fdL fdG fdN : FuncData} (F : Fun K "_law_ring" "_law_ring" sLwRing f fd) (T : Bi mg) (LN : DefAt P w K mg base CX0 3 "_law_lengths" ["_law_reel_here", "_law_many"] (spLengths K) fN fdN) (LL : DefAt P w K mg base CX0 2 "_law_lots" ["_law_many"] (spLots K) fL fdL) (GP : DefAt P w K mg base CX0 2 "_law_gap" ["_law_lengths_here", "_law_lot"] (spGap K) fG fdG) :
    FnOk P w K mg base CX0 5 f fd ["_law_reel_here", "_law_many"] (spLR K) := by
  refine F.ok scLR (fun vs H Q E h => ?_) (fun cdv A outer s H vs Q E hr h => ?_)
  · obtain ⟨p, e, m, n, rfl, _⟩ := h
    rfl
  · have nd := scLR.nd
    refine ⟨_, (pss_cons (ps_set (i := 2) nd rfl (Or.inr rfl) (pe_call LN.ok (hr.mono (by decide)) rfl LN.g LN.kp LN.b .nil pass0 (pa_cons (pv 0) (pa_cons (pv 1) pa_nil))))
      (pss_cut (ps_if (pt_cmpR (op_neD hr.units) (pe_lc (own := [("_law_lot", 3)]) (g := (gName 3)) (tt := tTest (tOp rEq (tCall (spGap K) [] E0 (tCons (tVar 2) (tCons (tVar 3) tNil))) (tC (.int 0)))) (te := tVar 3)  rfl nd (pi_list (pe_call LL.ok (hr.mono (by decide)) rfl LL.g LL.kp LL.b .nil pass0 (pa_cons (pv 1) pa_nil)))
          (blkOk_by (N := nLR) (sc := defScope sLwRing) (by decide +kernel)) (fun _ _ _ _ _ => (pg_name (i := 3) nd rfl (Or.inl rfl))) (fun _ _ _ _ _ => (pts_one (pt_cmpR op_eq (pe_call GP.ok (hr.mono (by decide)) rfl GP.g GP.kp GP.b .nil pass0 (pa_cons (pv 2) (pa_cons (pv 3) pa_nil))) pe_int (nomark _)))) (fun _ _ _ _ _ => (pv 3))) (pe_lst pa_nil) (nomark _)) (pss_one (ps_asg (pe_ifExp (pt_cmpR op_lt (pe_ix (r := rIxL K) ix_list (pv 2) pe_int (fun _ _ => rfl)) pe_int (nomark _)) (pe_op op_add (pe_ix (r := rIxL K) ix_list (pv 2) pe_int (fun _ _ => rfl)) pe_int) (pe_op op_sub (pe_ix (r := rIxL K) ix_list (pv 2) pe_int (fun _ _ => rfl)) pe_int)) (pg_sub (pv 2) pe_int set_list))) pss_nil)
      (pss_cons (ps_if (pt_cmpR (op_neD hr.units) (pe_lc (own := [("_law_lot", 3)]) (g := (gName 3)) (tt := tTest (tOp rEq (tCall (spGap K) [] E0 (tCons (tVar 2) (tCons (tVar 3) tNil))) (tC (.int 0)))) (te := tVar 3)  rfl nd (pi_list (pe_call LL.ok (hr.mono (by decide)) rfl LL.g LL.kp LL.b .nil pass0 (pa_cons (pv 1) pa_nil)))
          (blkOk_by (N := nLR) (sc := defScope sLwRing) (by decide +kernel)) (fun _ _ _ _ _ => (pg_name (i := 3) nd rfl (Or.inl rfl))) (fun _ _ _ _ _ => (pts_one (pt_cmpR op_eq (pe_call GP.ok (hr.mono (by decide)) rfl GP.g GP.kp GP.b .nil pass0 (pa_cons (pv 2) (pa_cons (pv 3) pa_nil))) pe_int (nomark _)))) (fun _ _ _ _ _ => (pv 3))) (pe_lst pa_nil) (nomark _)) (pss_one ps_never) pss_nil)
      (pss_one (ps_ret (pv 2)))))), ?_⟩
    obtain ⟨p, e, m, n, rfl, m3, m8, hn, pen, q⟩ := h
    refine ⟨_, rfl, _, rfl, p, e, m, n, rfl, m8, hn, pen, fun l ls H1 ll bd nl b1 hl1 pen1 => ?_⟩
    have lp : l ≠ p := pen.ne nl
    refine ⟨fun σ' H' => ∃ (z3 z4 : Option V) (ls2 : List Int), σ' = [some (.ref p), some (.int (m : Nat)), some (.ref l), z3, z4] ∧ ls2.length = m ∧ Bd 1000000 ls2 ∧ levelB ls2 = false ∧ But p H H' ∧ H' l = some (.lst (ls2.map V.int)) ∧ PenAt K H' p e (n + 9), ?_, ?_⟩
    · -- a level lot, or none
      refine ⟨_, rfl, m, rfl, by omega, m8, fun pa xsa kfa Ha sa hpa laa pma _ => ⟨pa, rfl, ⟨_, SqL.of hpa⟩, fun Da hDa => ?_⟩⟩
      have lotsa : ∀ y ∈ xsa, kfa y ∈ lotsN (ls).length := fun y hy => by rw [ll]; exact pma.mem_iff.mp (List.mem_map.mpr ⟨_, hy, rfl⟩)
      have fewa : xsa.length ≤ 256 := by
        have e := pma.length_eq
        rw [List.length_map, lotsN_length] at e
        rw [e]
        exact Nat.pow_le_pow_right (by decide) (show m ≤ 8 from m8)
      refine lc_list (K := K) (a := pa) (xs := xsa) (fun i H' => Same Ha H' ∧ H' Da = some (.lst ((xsa.take i).filter fun y => decide (gapE (ls) (kfa y) = 0)))) ⟨(Same.refl Ha).new hDa, upd_same⟩ (fun i H' _ q => SqL.of (q.1 _ _ hpa)) ?_ ?_
      · rintro i y H' hy ⟨s3, h3⟩
        have hym := List.mem_of_getElem? hy
        obtain ⟨a, rfl, ha⟩ := laa y hym
        refine ⟨rfl, _, rfl, _, rfl, l, a, ls, kfa (.ref a), rfl, s3 _ _ (sa _ _ hl1), s3 _ _ ha, by rw [ll]; exact m8, lotsN_lot (lotsa _ hym), fun H6 s6 => ⟨rfl, _, rfl, ?_⟩⟩
        have h6 := s6 _ _ h3
        have s36 := s3.trans s6
        rw [← take_snoc hy, List.filter_append]
        by_cases c : gapE (ls) (kfa (.ref a)) = 0
        · refine iteDT (by rw [c]) ⟨_, rfl, _, h6, ?_, s36.mut hDa, ?_⟩
          · exact sm (Nat.le_trans (List.length_filter_le ..) (by rw [List.length_take]; omega))
          · rw [upd_same]
            simp [List.filter, c]
        · refine iteDF (fun k => c (V.int.inj k)) ⟨s36, ?_⟩
          rw [h6]
          simp [List.filter, c]
      rintro Ga ⟨ta, ga⟩
      rw [List.take_length] at ga
      have eLa : (xsa.filter fun y => decide (gapE (ls) (kfa y) = 0)).isEmpty = !levelB (ls) := by
        rw [level_lots, ll]
        have z : ((lotsN m).any fun l => decide (2 * lsum (ls) l = (ls).sum)) = (xsa.map kfa).any fun l => decide (2 * lsum (ls) l = (ls).sum) := by
          rw [Bool.eq_iff_iff, List.any_eq_true, List.any_eq_true]
          exact ⟨fun ⟨x, hx, q⟩ => ⟨x, pma.mem_iff.mpr hx, q⟩, fun ⟨x, hx, q⟩ => ⟨x, pma.mem_iff.mp hx, q⟩⟩
        rw [z, List.any_map, Bool.eq_iff_iff, List.isEmpty_iff, List.filter_eq_nil_iff, Bool.not_eq_true', List.any_eq_false]
        refine ⟨fun h x hx k => h x hx ?_, fun h x hx k => h x hx ?_⟩
        · have := of_decide_eq_true k
          exact decide_eq_true (by unfold gapE; omega)
        · have := of_decide_eq_true k
          exact decide_eq_true (by unfold gapE at this; omega)
      refine ⟨(by show 0 ≤ sizeLine; decide), fun ua nua => ?_⟩
      have va : Same Ga (upd Ga ua (.lst [])) := (Same.refl Ga).new nua
      have tla : TL (upd Ga ua (.lst [])) (xsa.filter fun y => decide (gapE (ls) (kfa y) = 0)) ((xsa.filter fun y => decide (gapE (ls) (kfa y) = 0)).map kfa) := lots_tl fun y hy => by
        obtain ⟨a, e, ha⟩ := laa y (List.mem_filter.mp hy).1
        exact ⟨a, e, va _ _ (ta _ _ ha)⟩
      refine ⟨_, _, .lst (SqL.of (va _ _ ga)) (tl_dp tla), .lst (SqL.of upd_same) .nil, tl_shaped _, shaped_nil, _, rfl, ?_⟩
      rw [tl_nil, List.isEmpty_map, eLa, Bool.not_not]
      have sa3 := (sa.trans ta).trans va
      have hl3 := sa3 _ _ hl1
      have pen3 := pen1.same sa3
      have b3 : But p H (upd Ga ua (.lst [])) := b1.trans (But.of sa3)
      generalize upd Ga ua (.lst []) = H3 at hl3 pen3 b3 ⊢
      cases lv : levelB ls with
      | false => exact iteF ⟨none, none, ls, rfl, ll, bd, lv, b3, hl3, pen3⟩
      | true =>
        refine iteT ?_
        obtain ⟨x, r, e1⟩ : ∃ x r, ls = x :: r := by
          cases ls with
          | nil => simp at ll; omega
          | cons x r => exact ⟨x, r, rfl⟩
        have bx := bd x (by rw [e1]; exact List.mem_cons_self ..)
        have g0 : atI (ls.map V.int) 0 = some (.int x) := by rw [e1]; exact atI_nat (j := 0) rfl
        have fin : ∀ y : Int, (y = x + 1 ∨ y = x - 1) → 1 ≤ y → y ≤ 1000000 → rSetL (.ref l) (.int 0) (.int y) H3 fun H' => ∃ (z3 z4 : Option V) (ls2 : List Int), [some (V.ref p), some (.int (m : Nat)), some (.ref l), none, none] = [some (.ref p), some (.int (m : Nat)), some (.ref l), z3, z4] ∧ ls2.length = m ∧ Bd 1000000 ls2 ∧ levelB ls2 = false ∧ But p H H' ∧ H' l = some (.lst (ls2.map V.int)) ∧ PenAt K H' p e (n + 9) := fun y hy y1 y2 => by
          refine ⟨l, ls.map V.int, 0, 0, rfl, rfl, hl3, ?_, none, none, y :: r, rfl, ?_, ?_, odd_clear lv e1 hy, b3.mut nl, ?_, ?_⟩
          · rw [e1]
            simp [ixN]
          · rw [← ll, e1]
            rfl
          · intro z hz
            rcases List.mem_cons.mp hz with k | k
            · rw [k]; exact ⟨y1, y2⟩
            · exact bd z (by rw [e1]; exact List.mem_cons_of_mem _ k)
          · rw [upd_same, e1]
            rfl
          · exact pen.mut pen3 b3 nl
        refine ⟨_, rfl, l, _, 0, _, rfl, rfl, SqL.of hl3, g0, _, _, rfl, rfl, _, rfl, ?_⟩
        by_cases c : x < 1000000
        · refine iteBT (decide_eq_true c) ⟨_, rfl, l, _, 0, _, rfl, rfl, SqL.of hl3, g0, _, _, rfl, rfl, _, rfl, ?_⟩
          exact fin (x + 1) (.inl rfl) (by omega) (by omega)
        · refine iteBF (decide_eq_false c) ⟨_, rfl, l, _, 0, _, rfl, rfl, SqL.of hl3, g0, _, _, rfl, rfl, _, rfl, ?_⟩
          exact fin (x - 1) (.inr rfl) (by omega) (by omega)
    rintro σ H2 ⟨z3, z4, ls2, rfl, ll2, bd2, nl2, b2, hl2, pen2⟩
    refine ⟨_, rfl, m, rfl, by omega, m8, fun pb xsb kfb Hb sb hpb lab pmb _ => ⟨pb, rfl, ⟨_, SqL.of hpb⟩, fun Db hDb => ?_⟩⟩
    have lotsb : ∀ y ∈ xsb, kfb y ∈ lotsN (ls2).length := fun y hy => by rw [ll2]; exact pmb.mem_iff.mp (List.mem_map.mpr ⟨_, hy, rfl⟩)
    have fewb : xsb.length ≤ 256 := by
      have e := pmb.length_eq
      rw [List.length_map, lotsN_length] at e
      rw [e]
      exact Nat.pow_le_pow_right (by decide) (show m ≤ 8 from m8)
    refine lc_list (K := K) (a := pb) (xs := xsb) (fun i H' => Same Hb H' ∧ H' Db = some (.lst ((xsb.take i).filter fun y => decide (gapE (ls2) (kfb y) = 0)))) ⟨(Same.refl Hb).new hDb, upd_same⟩ (fun i H' _ q => SqL.of (q.1 _ _ hpb)) ?_ ?_
    · rintro i y H' hy ⟨s3, h3⟩
      have hym := List.mem_of_getElem? hy
      obtain ⟨a, rfl, ha⟩ := lab y hym
      refine ⟨rfl, _, rfl, _, rfl, l, a, ls2, kfb (.ref a), rfl, s3 _ _ (sb _ _ hl2), s3 _ _ ha, by rw [ll2]; exact m8, lotsN_lot (lotsb _ hym), fun H6 s6 => ⟨rfl, _, rfl, ?_⟩⟩
      have h6 := s6 _ _ h3
      have s36 := s3.trans s6
      rw [← take_snoc hy, List.filter_append]
      by_cases c : gapE (ls2) (kfb (.ref a)) = 0
      · refine iteDT (by rw [c]) ⟨_, rfl, _, h6, ?_, s36.mut hDb, ?_⟩
        · exact sm (Nat.le_trans (List.length_filter_le ..) (by rw [List.length_take]; omega))
        · rw [upd_same]
          simp [List.filter, c]
      · refine iteDF (fun k => c (V.int.inj k)) ⟨s36, ?_⟩
        rw [h6]
        simp [List.filter, c]
    rintro Gb ⟨tb, gb⟩
    rw [List.take_length] at gb
    have eLb : (xsb.filter fun y => decide (gapE (ls2) (kfb y) = 0)).isEmpty = !levelB (ls2) := by
      rw [level_lots, ll2]
      have z : ((lotsN m).any fun l => decide (2 * lsum (ls2) l = (ls2).sum)) = (xsb.map kfb).any fun l => decide (2 * lsum (ls2) l = (ls2).sum) := by
        rw [Bool.eq_iff_iff, List.any_eq_true, List.any_eq_true]
        exact ⟨fun ⟨x, hx, q⟩ => ⟨x, pmb.mem_iff.mpr hx, q⟩, fun ⟨x, hx, q⟩ => ⟨x, pmb.mem_iff.mp hx, q⟩⟩
      rw [z, List.any_map, Bool.eq_iff_iff, List.isEmpty_iff, List.filter_eq_nil_iff, Bool.not_eq_true', List.any_eq_false]
      refine ⟨fun h x hx k => h x hx ?_, fun h x hx k => h x hx ?_⟩
      · have := of_decide_eq_true k
        exact decide_eq_true (by unfold gapE; omega)
      · have := of_decide_eq_true k
        exact decide_eq_true (by unfold gapE at this; omega)
    refine ⟨(by show 0 ≤ sizeLine; decide), fun ub nub => ?_⟩
    have vb : Same Gb (upd Gb ub (.lst [])) := (Same.refl Gb).new nub
    have tlb : TL (upd Gb ub (.lst [])) (xsb.filter fun y => decide (gapE (ls2) (kfb y) = 0)) ((xsb.filter fun y => decide (gapE (ls2) (kfb y) = 0)).map kfb) := lots_tl fun y hy => by
      obtain ⟨a, e, ha⟩ := lab y (List.mem_filter.mp hy).1
      exact ⟨a, e, vb _ _ (tb _ _ ha)⟩
    refine ⟨_, _, .lst (SqL.of (vb _ _ gb)) (tl_dp tlb), .lst (SqL.of upd_same) .nil, tl_shaped _, shaped_nil, _, rfl, ?_⟩
    rw [tl_nil, List.isEmpty_map, eLb, Bool.not_not]
    rw [nl2]
    refine iteF ?_
    have sb3 := (sb.trans tb).trans vb
    exact ⟨_, rfl, q l ls2 _ ll2 bd2 nl2 nl (b2.trans (But.of sb3)) (sb3 _ _ hl2) (pen2.same sb3)⟩
def spSBc (K : PySem.W.Frag) (C : Addr) (T : List (Addr × Str)) : Sp := fun vs H Q _ => ∃ (r s : Addr) (ls ms : List Int), vs = [.ref r, .ref s] ∧ RingW K C H r ls ∧ RingW K C H s ms ∧ ls.length = ms.length ∧ 3 ≤ ls.length ∧ ls.length ≤ 8 ∧ Tabs T H ∧
  ∀ b H', ExtN H H' → Tabs T H' → (∀ L, AllL ls.length L → b = (L.filter (unl ls ms)).isEmpty) → Q (.bl b) H'
theorem ok_sbc {C cR cM f : Addr} {fd : FuncData} {T : List (Addr × Str)} {k : Nat} (F : FnOk P w K mg base (L2.CX P w) k f fd ["one", "other"] (spSB K C cR cM T)) : FnOk P w K mg base CX0 k f fd ["one", "other"] (spSBc K C T) :=
  (fn_calm F).imp fun vs H Q E ⟨r, s, ls, ms, hv, r1, r2, e, l3, l8, tab, q⟩ => ⟨.ref r, .ref s, hv, .inl ⟨r, s, ls, ms, rfl, rfl, r1, r2, e, l3, l8, tab, fun b H' x t _ hb => q b H' x t hb⟩⟩
/-! ### the book, as the law tells it -/
def spBook (K : PySem.W.Frag) : Sp := fun vs H Q _ => ∃ (l : Addr) (ls : List Int), vs = [.ref l] ∧ H l = some (.lst (ls.map V.int)) ∧ 3 ≤ ls.length ∧ ls.length ≤ 8 ∧ ∀ t zs H', Same H H' → H' t = some (.tup zs) → TL H' zs (bookN ls.length ls) → zs.length ≤ 256 → Q (.ref t) H'
abbrev nBK : List Str := ["_law_lengths_here", "_law_lot"]
theorem scBK : FnScope nBK ["_law_lengths_here"] (defScope sLwBook) := ⟨rfl, rfl, rfl, by decide +kernel, rfl, by decide +kernel, by decide +kernel⟩
theorem ok_bk {f fL fG : Addr} {fd fdL fdG : FuncData} (F : Fun K "_law_book" "_law_book" sLwBook f fd) (T : Bi mg) (LL : DefAt P w K mg base CX0 2 "_law_lots" ["_law_many"] (spLots K) fL fdL) (GP : DefAt P w K mg base CX0 2 "_law_gap" ["_law_lengths_here", "_law_lot"] (spGap K) fG fdG) :
    FnOk P w K mg base CX0 4 f fd ["_law_lengths_here"] (spBook K) := by
  refine F.ok scBK (fun vs H Q E h => ?_) (fun cdv A outer s H vs Q E hr h => ?_)
  · obtain ⟨l, ls, rfl, _⟩ := h
    rfl
  · have nd := scBK.nd
    refine ⟨_, (pss_one (ps_ret (pe_callTy call_tuple_of (by rfl) T.tuple (by decide +kernel) (pa_cons (pe_lc (own := [("_law_lot", 1)]) (g := (gName 1)) (tt := tTest (tOp (rI0 fun i j => .bl (decide (i < j))) (tCall (spGap K) [] E0 (tCons (tVar 0) (tCons (tVar 1) tNil))) (tC (.int 0)))) (te := tVar 1)  rfl nd (pi_list (pe_call LL.ok (hr.mono (by decide)) rfl LL.g LL.kp LL.b .nil pass0 (pa_cons (pe_callB (r := rLenS K) call_len_seq (by rfl) T.len PySem.boot_len (pa_cons (pv 0) pa_nil)) pa_nil)))
          (blkOk_by (N := nBK) (sc := defScope sLwBook) (by decide +kernel)) (fun _ _ _ _ _ => (pg_name (i := 1) nd rfl (Or.inl rfl))) (fun _ _ _ _ _ => (pts_one (pt_cmpR op_lt (pe_call GP.ok (hr.mono (by decide)) rfl GP.g GP.kp GP.b .nil pass0 (pa_cons (pv 0) (pa_cons (pv 1) pa_nil))) pe_int (nomark _)))) (fun _ _ _ _ _ => (pv 1))) pa_nil)))), ?_⟩
    obtain ⟨l, ls, rfl, hl, l3, l8, q⟩ := h
    refine ⟨_, rfl, l, _, rfl, .inl (SqL.of hl), ls.length, (by rw [List.length_map]; rfl), by omega, l8, fun p xs kf H1 s1 hp la pm pw => ⟨p, rfl, ⟨_, SqL.of hp⟩, fun D hD => ?_⟩⟩
    have lots : ∀ y ∈ xs, kf y ∈ lotsN ls.length := fun y hy => pm.mem_iff.mp (List.mem_map.mpr ⟨_, hy, rfl⟩)
    have x2 : xs.length ≤ 256 := by
      have e := pm.length_eq
      rw [List.length_map, lotsN_length] at e
      rw [e]
      exact Nat.pow_le_pow_right (by decide) (show ls.length ≤ 8 by omega)
    have hl1 := s1 _ _ hl
    refine lc_list (K := K) (a := p) (xs := xs) (fun i H' => Same H1 H' ∧ H' D = some (.lst ((xs.take i).filter fun y => shB ls (kf y)))) ⟨(Same.refl H1).new hD, upd_same⟩ (fun i H' _ q => q.1.seq (SqL.of hp)) ?_ ?_
    · rintro i y H' hy ⟨s2, h2⟩
      have hym := List.mem_of_getElem? hy
      obtain ⟨a, rfl, ha⟩ := la y hym
      refine ⟨rfl, _, rfl, _, rfl, l, a, ls, kf (.ref a), rfl, s2 _ _ hl1, s2 _ _ ha, l8, lotsN_lot (lots _ hym), fun H3 s3 => ⟨_, _, rfl, rfl, _, rfl, ?_⟩⟩
      have h3 := s3 _ _ h2
      have s23 := s2.trans s3
      rw [← take_snoc hy, List.filter_append]
      by_cases c : gapE ls (kf (.ref a)) < 0
      · refine iteBT (decide_eq_true c) ⟨_, rfl, _, h3, ?_, s23.mut hD, ?_⟩
        · exact sm (Nat.le_trans (List.length_filter_le ..) (by rw [List.length_take]; omega))
        · rw [upd_same]
          simp [List.filter, shB, c]
      · refine iteBF (decide_eq_false c) ⟨s23, ?_⟩
        rw [h3]
        simp [List.filter, shB, c]
    rintro H2 ⟨s2, h2⟩
    rw [List.take_length] at h2
    refine ⟨D, _, rfl, .inl ⟨SqL.of h2, fun t nt => ?_⟩⟩
    have s3 : Same H2 (upd H2 t (.tup (xs.filter fun y => shB ls (kf y)))) := (Same.refl H2).new nt
    have tl : TL (upd H2 t (.tup (xs.filter fun y => shB ls (kf y)))) (xs.filter fun y => shB ls (kf y)) ((xs.filter fun y => shB ls (kf y)).map kf) := lots_tl fun y hy => by
      obtain ⟨a, e, ha⟩ := la y (List.mem_filter.mp hy).1
      exact ⟨a, e, s3 _ _ (s2 _ _ ha)⟩
    have e : (xs.filter fun y => shB ls (kf y)).map kf = bookN ls.length ls := by
      unfold bookN
      rw [← AllL.of_law pm pw, List.filter_map]
      rfl
    rw [e] at tl
    exact q t _ _ ((s1.trans s2).trans s3) upd_same tl (Nat.le_trans (List.length_filter_le ..) x2)
/-! ### lengths with one changed -/
def spLWith (K : PySem.W.Frag) : Sp := fun vs H Q _ => ∃ (l : Addr) (ls : List Int) (j : Nat) (v : Int), vs = [.ref l, .int (j : Nat), .int v] ∧ H l = some (.lst (ls.map V.int)) ∧ j < ls.length ∧ ls.length ≤ 8 ∧ ∀ t H', Same H H' → H t = none → H' t = some (.lst ((withL ls j v).map V.int)) → Q (.ref t) H'
theorem scWT : FnScope ["_law_lengths_here", "_law_bar", "_law_length"] ["_law_lengths_here", "_law_bar", "_law_length"] (defScope sLwWith) := ⟨rfl, rfl, rfl, by decide +kernel, rfl, by decide +kernel, by decide +kernel⟩
theorem cut_from' {ls : List Int} {i : Nat} {z : Int} (hz : z = ((i : Nat) : Int)) : cutV (ls.map V.int) (some z) none = (ls.drop i).map V.int := by
  rw [T1.cut_from _ hz, List.map_drop]
theorem ok_wt {f : Addr} {fd : FuncData} (F : Fun K "_law_with" "_law_with" sLwWith f fd) : FnOk P w K mg base CX0 1 f fd ["_law_lengths_here", "_law_bar", "_law_length"] (spLWith K) := by
  refine F.ok scWT (fun vs H Q E h => ?_) (fun cdv A outer s H vs Q E hr h => ?_)
  · obtain ⟨l, ls, j, v, rfl, _⟩ := h
    rfl
  · have nd := scWT.nd
    refine ⟨_, (pss_one (ps_ret (pe_op op_cat (pe_op op_cat (pe_slice sl_list (pv 0) po_none (po_some (pv 1))) (pe_lst (pa_cons (pv 2) pa_nil))) (pe_slice sl_list (pv 0) (po_some (pe_op op_add (pv 1) pe_int)) po_none)))), ?_⟩
    obtain ⟨l, ls, j, v, rfl, hl, hj, l8, q⟩ := h
    refine ⟨_, rfl, _, rfl, _, rfl, l, _, rfl, SqL.of hl, fun a na => ?_⟩
    have e1 : cutV (ls.map V.int) none (some (j : Int)) = (ls.take j).map V.int := by rw [cutV_to, List.map_take]
    rw [e1]
    have s1 : Same H (upd H a (.lst ((ls.take j).map V.int))) := (Same.refl H).new na
    have ha : upd H a (.lst ((ls.take j).map V.int)) a = some (.lst ((ls.take j).map V.int)) := upd_same
    generalize upd H a (.lst ((ls.take j).map V.int)) = H1 at s1 ha ⊢
    refine ⟨_, rfl, (by show 1 ≤ sizeLine; decide), fun b nb => ?_⟩
    have s2 : Same H1 (upd H1 b (.lst [.int v])) := (Same.refl H1).new nb
    have hb : upd H1 b (.lst [.int v]) b = some (.lst [.int v]) := upd_same
    generalize upd H1 b (.lst [.int v]) = H2 at s2 hb ⊢
    refine ⟨a, b, _, _, rfl, rfl, s2 _ _ ha, hb, (by rw [List.length_map, List.length_take]; exact Nat.le_of_lt (sm (by show min j ls.length + 1 ≤ 10000; omega))), fun c nc => ?_⟩
    have s3 : Same H2 (upd H2 c (.lst ((ls.take j).map V.int ++ [.int v]))) := (Same.refl H2).new nc
    have hc : upd H2 c (.lst ((ls.take j).map V.int ++ [.int v])) c = some (.lst ((ls.take j).map V.int ++ [.int v])) := upd_same
    generalize upd H2 c (.lst ((ls.take j).map V.int ++ [.int v])) = H3 at s3 hc ⊢
    have s13 := (s1.trans s2).trans s3
    refine ⟨_, rfl, _, rfl, _, _, rfl, rfl, _, rfl, ?_⟩
    dsimp only [tNoPart]
    refine ⟨l, _, rfl, SqL.of (s13 _ _ hl), fun d nd' => ?_⟩
    rw [cut_from' (i := j + 1) (by omega)]
    have s4 : Same H3 (upd H3 d (.lst ((ls.drop (j + 1)).map V.int))) := (Same.refl H3).new nd'
    have hd : upd H3 d (.lst ((ls.drop (j + 1)).map V.int)) d = some (.lst ((ls.drop (j + 1)).map V.int)) := upd_same
    generalize upd H3 d (.lst ((ls.drop (j + 1)).map V.int)) = H4 at s4 hd ⊢
    refine ⟨c, d, _, _, rfl, rfl, s4 _ _ hc, hd, (by rw [List.length_append, List.length_map, List.length_map, List.length_take, List.length_drop, List.length_singleton]; exact Nat.le_of_lt (sm (by show min j ls.length + 1 + (ls.length - (j + 1)) ≤ 10000; omega))), fun t nt => ?_⟩
    have s14 := s13.trans s4
    refine q t _ (s14.new nt) (s14.free nt) ?_
    rw [upd_same]
    unfold withL
    rw [List.map_append, List.map_append]
    rfl
/-! ### a length between -/
def spBR (K : PySem.W.Frag) (C aE : Addr) (T : List (Addr × Str)) : Sp := fun vs H Q _ => ∃ (p r l q0 : Addr) (e : Addr × List Int) (ls : List Int) (j n : Nat) (d : Int) (o : Option Int) (vl vh : V) (ol oh : Option (List Int)), vs = [.ref p, .ref r, .ref l, .int (j : Nat), .ref q0] ∧
  PenAt K H p e n ∧ n < 800000 ∧ RingAt K C H r ls ∧ H l = some (.lst (ls.map V.int)) ∧ l ≠ p ∧ Er ls ∧ j < ls.length ∧ SlackR aE H ls j q0 d o vl vh ol oh ∧ Tabs T H ∧ ∀ H', Kp p H H' → PenAt K H' p e (n + 1) → Tabs T H' → Q (.bl true) H'
abbrev nBR : List Str := ["_law_reel_here", "_law_ring_here", "_law_lengths_here", "_law_bar", "_law_told", "_law_low", "_law_high", "_law_length"]
theorem scBR : FnScope nBR ["_law_reel_here", "_law_ring_here", "_law_lengths_here", "_law_bar", "_law_told"] (defScope sLwBetweenRight) := ⟨rfl, rfl, rfl, by decide +kernel, rfl, by decide +kernel, by decide +kernel⟩
theorem ok_br {C aE f fD fW fB : Addr} {fd fdD fdW fdB : FuncData} {TB : List (Addr × Str)} (F : Fun K "_law_between_right" "_law_between_right" sLwBetweenRight f fd) (T : Bi mg) (B2 : Bi2 mg) (RG : RingC K mg C) (EC : SlackC K mg aE) (D : DrawAt P w K mg base fD fdD)
    (WL : MethV P w K mg base C "with_length" ["self", "bar", "length"] (T1.spWith K C) fW fdW) (SB : DefAt P w K mg base CX0 8 "same_book" ["one", "other"] (spSBc K C TB) fB fdB) : FnOk P w K mg base CX0 9 f fd ["_law_reel_here", "_law_ring_here", "_law_lengths_here", "_law_bar", "_law_told"] (spBR K C aE TB) := by
  refine F.ok scBR (fun vs H Q E h => ?_) (fun cdv A outer s H vs Q E hr h => ?_)
  · obtain ⟨p, r, l, q0, e, ls, j, n, d, o, vl, vh, ol, oh, rfl, _⟩ := h
    rfl
  · have nd := scBR.nd
    refine ⟨_, (pss_cut (ps_par (i := 5) (j := 6) (by rfl) nd rfl rfl (by decide) rfl rfl (pa_cons (pe_op op_sub (pe_ix (r := rIxL K) ix_list (pv 2) (pv 3) (fun _ _ => rfl)) (pe_fld (pv 4) rfl)) (pa_cons (pe_op op_add (pe_ix (r := rIxL K) ix_list (pv 2) (pv 3) (fun _ _ => rfl)) (pe_ifExp (pt_cmpR op_isN (pe_fld (pv 4) rfl) pe_non (nomark _)) pe_int (pe_fld (pv 4) rfl))) pa_nil)) (by rfl))
      (pss_cons (ps_set (i := 7) nd rfl (Or.inl rfl) (pe_op op_add (pv 5) (pe_call D.ok (hr.mono (by decide)) rfl D.g D.kp D.b .nil pass0 (pa_cons (pv 0) (pa_cons (pe_callB (r := rMin2) (cr_min2 rfl) (by rfl) B2.min (by decide +kernel) (pa_cons (pe_op op_add (pe_op op_sub (pv 6) (pv 5)) pe_int) (pa_cons (pe_op op_pow pe_int pe_int) pa_nil))) pa_nil)))))
      (pss_one (ps_ret (pe_or (pe_cmpR op_gt (pv 7) pe_int (nomark _)) (pe_one (pe_cmpR op_isBl (pe_call SB.ok (hr.mono (by decide)) rfl SB.g SB.kp SB.b .nil pass0 (pa_cons (pv 1) (pa_cons (pe_meth (pv 1) RG.cl WL.m WL.ok (hr.mono (by decide)) WL.b .nil pass0 (pa_cons (pv 3) (pa_cons (pv 7) pa_nil))) pa_nil))) pe_bl (nomark _)))))))), ?_⟩
    obtain ⟨p, r, l, q0, e, ls, j, n, d, o, vl, vh, ol, oh, rfl, pen, hn, ra, hl, lp, er, hj, sr, tab, q⟩ := h
    have l3 := er.l3
    have l8 := er.l8
    have g0 : atI (ls.map V.int) (j : Int) = some (.int (ls.getD j 0)) := atI_nat (j := j) (by rw [List.getElem?_map, List.getElem?_eq_getElem hj, List.getD_eq_getElem?_getD, List.getElem?_eq_getElem hj]; rfl)
    obtain ⟨dx, t, hq0, _⟩ := id sr.pp
    obtain ⟨hi, ehi, hi1, hi2⟩ : ∃ hi : Int, (match o with | none => 5 | some u => u) = hi ∧ 0 ≤ hi ∧ ∀ u, o = some u → hi = u := by
      cases o with
      | none => exact ⟨5, rfl, by decide, fun u z => nomatch z⟩
      | some u => exact ⟨u, rfl, sr.up.pos, fun w z => Option.some.inj z⟩
    have dp := sr.dn.pos er hj
    have db := sr.dn.bar
    refine ⟨fun σ' H' => σ' = [some (.ref p), some (.ref r), some (.ref l), some (.int (j : Nat)), some (.ref q0), some (.int (ls.getD j 0 - d)), some (.int (ls.getD j 0 + hi)), none] ∧ H' = H, ?_, ?_⟩
    · refine ⟨_, rfl, _, rfl, l, _, (j : Nat), _, rfl, rfl, SqL.of hl, g0, _, rfl, q0, aE, dx, _, _, rfl, hq0, EC.pc.cl, EC.nd, rfl, _, _, rfl, rfl, ?_⟩
      refine ⟨_, rfl, _, rfl, l, _, (j : Nat), _, rfl, rfl, SqL.of hl, g0, _, rfl, q0, aE, dx, _, _, rfl, hq0, EC.pc.cl, EC.nu, rfl, rfl, _, rfl, ?_⟩
      cases o with
      | none =>
        subst ehi
        exact iteDT rfl ⟨_, _, rfl, rfl, _, _, rfl, rfl, rfl⟩
      | some u =>
        subst ehi
        exact iteDF (fun z => nomatch z) ⟨_, rfl, q0, aE, dx, _, _, rfl, hq0, EC.pc.cl, EC.nu, rfl, _, _, rfl, rfl, _, _, rfl, rfl, rfl⟩
    rintro σ H' ⟨rfl, rfl⟩
    have e10 : (10 : Int) ^ (7 : Int).toNat = 10000000 := by decide
    obtain ⟨mn, emn, m1, m2, m3⟩ : ∃ mn : Int, (if (10 : Int) ^ (7 : Int).toNat < ls.getD j 0 + hi - (ls.getD j 0 - d) + 1 then (10 : Int) ^ (7 : Int).toNat else ls.getD j 0 + hi - (ls.getD j 0 - d) + 1) = mn ∧ 1 ≤ mn ∧ mn ≤ 10000000 ∧ mn ≤ hi + d + 1 := by
      rw [e10]
      by_cases c : 10000000 < ls.getD j 0 + hi - (ls.getD j 0 - d) + 1
      · exact ⟨_, if_pos c, by omega, by omega, by omega⟩
      · exact ⟨_, if_neg c, by omega, by omega, by omega⟩
    refine ⟨_, rfl, _, rfl, _, rfl, _, rfl, _, _, rfl, rfl, _, _, rfl, rfl, _, _, rfl, rfl, ⟨by decide, by decide, by decide⟩, _, _, rfl, ?_⟩
    rw [emn]
    refine ⟨p, e, mn, n, rfl, m1, m2, by omega, pen, fun rr H1 r0 r1 b1 pen1 => ⟨_, _, rfl, rfl, ?_⟩⟩
    obtain ⟨px, hpx⟩ := pen.some
    have k1 : Kp p H' H1 := (Kp.refl p _).but b1
    have tab1 := tabs_but tab b1 hpx
    have ra1 := ra.kp k1 hpx
    obtain ⟨v, ev, v1, v2, v3⟩ : ∃ v : Int, ls.getD j 0 - d + rr = v ∧ 1 ≤ v ∧ ls.getD j 0 - d ≤ v ∧ v ≤ ls.getD j 0 + hi := ⟨_, rfl, by omega, by omega, by omega⟩
    change gName 7 (V.int (ls.getD j 0 - d + rr)) _ _ _
    rw [ev]
    refine ⟨_, rfl, _, _, rfl, rfl, _, rfl, ?_⟩
    by_cases c : 1000000 < v
    · exact iteBT (decide_eq_true c) (q H1 k1 pen1 tab1)
    refine iteBF (decide_eq_false c) ?_
    obtain ⟨dr, tr, hr1, htr⟩ := id ra1.weak
    refine ⟨_, rfl, _, rfl, r, dr, _, rfl, hr1, rf_no _ _ (by decide +kernel) (by decide +kernel) (by decide +kernel) (by decide +kernel), _, rfl, _, rfl, r, j, v, ls, rfl, ra1.weak, l3, l8, er.bd, hj, v1, by omega, fun r2 H2 ra2 s2 nr2 => ?_⟩
    have wl : (ls.take j ++ [v] ++ ls.drop (j + 1)).length = ls.length := with_len (ls := ls) (v := v) hj
    refine ⟨r, r2, ls, _, rfl, ra1.weak.same s2, ra2, wl.symm, l3, l8, tab1.ext s2, fun sb H3 e3 tab3 hsb => ?_⟩
    obtain ⟨L, aL⟩ := allL_ex ls.length
    have sbt : sb = true := by
      rw [hsb L aL, List.isEmpty_iff]
      refine List.filter_eq_nil_iff.mpr fun x hx => ?_
      have hx' := aL.pm.mem_iff.mp hx
      have s := slack_side (v := v) er hj sr.dn sr.up v2 (fun u z => by have := hi2 u z; omega) hx'
      have : sortV ls x = sortV (withL ls j v) x := sort_same (er.gap hx') s.1 s.2
      unfold unl
      rw [show (ls.take j ++ [v] ++ ls.drop (j + 1)) = withL ls j v from rfl, decide_eq_true this]
      decide
    subst sbt
    exact ⟨true, true, rfl, rfl, q H3 (((k1.ext (ExtN.of s2)).ext e3)) ((pen1.same s2).ext e3) tab3⟩
end
end K
namespace K
open PySem L2 Rg LamX
open Evl (pss_cut)
/-- == of the papers of a class -/
structure PapQ (P : Program) (w : World) (K : PySem.W.Frag) (mg : Str → Option Value) (base : Heap) (C fQ : Addr) (fdQ : FuncData) (word nm : Str) (n : Nat) : Prop where
  ok : FnOk P w K mg base CX0 2 fQ fdQ ["self", "other"] (spAE K C word nm n)
  ne : PySem.W.findIn K (.ref C) "__ne__" = some (some (.builtin "object.__ne__"))
  sub : PySem.W.subIn K (.ref C) (.type "object") = some true
  eq : PySem.W.findIn K (.ref C) "__eq__" = some (some (.ref fQ))
  fn : PySem.W.isFn K (.ref fQ) = true
  b : Binds K fdQ ["self", "other"] []
abbrev gK2 {α : Type} : List α → List α → List α := fun us ws => match us, ws with
  | [], [b, r] => [r, b]
  | _, _ => []
theorem TL.kp {p : Addr} {px : List V} {H H' : Hp} {xs : List V} {nss : List (List Int)} (h : TL H xs nss) (k : Kp p H H') (hp : H p = some (.lst px)) : TL H' xs nss := par_imp (fun _ _ ⟨a, e, q⟩ => ⟨a, e, k.tup hp q⟩) h
theorem tup_dp {K : PySem.W.Frag} {H : Hp} {t : Addr} {zs : List V} {B : List (List Int)} (h : H t = some (.tup zs)) (tl : TL H zs B) : Dp K H (.ref t) (.tuple (B.map fun ns => PyData.tuple (ns.map PyData.int))) := .tup (.inl (.inl h)) (tl_dp tl)
section
variable {P : Program} {w : World} {K : PySem.W.Frag} {mg : Str → Option Value} {base : Heap}
/-! ### the program's defs, where no error comes -/
def spSLc (K : PySem.W.Frag) (C aE : Addr) (T : List (Addr × Str)) : Sp := fun vs H Q _ => ∃ (r : Addr) (j : Nat) (ls : List Int), vs = [.ref r, .int (j : Nat)] ∧ RingAt K C H r ls ∧ Er ls ∧ j < ls.length ∧ Tabs T H ∧ SlackQ aE T H Q ls j
theorem ok_slc {C cR cN cV aE f : Addr} {fd : FuncData} {T : List (Addr × Str)} {k : Nat} (F : FnOk P w K mg base (L2.CX P w) k f fd ["ring", "bar"] (spSL K C cR cN cV aE T)) : FnOk P w K mg base CX0 k f fd ["ring", "bar"] (spSLc K C aE T) :=
  (fn_calm F).imp fun vs H Q E ⟨r, j, ls, hv, ra, er, hj, tab, q⟩ => ⟨.ref r, .int (j : Nat), hv, .inl ⟨r, ls, rfl, ra, er.l3, er.l8, tab, .inr ⟨j, rfl, hj, .inl ⟨er.nl, q⟩⟩⟩⟩
def spSHc (K : PySem.W.Frag) (C aE : Addr) (T : List (Addr × Str)) : Sp := fun vs H Q _ => ∃ (r : Addr) (j : Nat) (ls : List Int) (q0 : Addr) (d : Int) (o : Option Int) (vl vh : V) (ol oh : Option (List Int)), vs = [.ref r, .int (j : Nat), .ref q0] ∧ RingAt K C H r ls ∧ Er ls ∧ j < ls.length ∧ Tabs T H ∧ SlackR aE H ls j q0 d o vl vh ol oh ∧ ∀ H', ExtN H H' → Tabs T H' → Q (.bl true) H'
theorem ok_shc {C cR cN cV aE f : Addr} {fd : FuncData} {T : List (Addr × Str)} {k : Nat} (F : FnOk P w K mg base (L2.CX P w) k f fd ["ring", "bar", "value"] (spSH K C cR cN cV aE T)) : FnOk P w K mg base CX0 k f fd ["ring", "bar", "value"] (spSHc K C aE T) :=
  (fn_calm F).imp fun vs H Q E ⟨r, j, ls, q0, d, o, vl, vh, ol, oh, hv, ra, er, hj, tab, sr, q⟩ => ⟨.ref r, .int (j : Nat), .ref q0, hv, .inl ⟨r, ls, rfl, ra, er.l3, er.l8, tab, .inr ⟨j, rfl, hj, .inl ⟨er.nl, ⟨q0, d, o, vl, vh, ol, oh, rfl, sr⟩, q⟩⟩⟩⟩
/-! ### the state of the trial -/
structure SW (K : PySem.W.Frag) (C aE : Addr) (T : List (Addr × Str)) (p : Addr) (e : Addr × List Int) (l r q0 bk : Addr) (zs : List V) (ls : List Int) (j : Nat) (d : Int) (o : Option Int) (vl vh : V) (ol oh : Option (List Int)) (n : Nat) (H : Hp) : Prop where
  tab : Tabs T H
  hl : H l = some (.lst (ls.map V.int))
  lp : l ≠ p
  ra : RingAt K C H r ls
  sr : SlackR aE H ls j q0 d o vl vh ol oh
  pen : PenAt K H p e n
  hb : H bk = some (.tup zs)
  tb : TL H zs (bookN ls.length ls)
section
variable {C aE p l r q0 bk : Addr} {T : List (Addr × Str)} {e : Addr × List Int} {zs : List V} {ls : List Int} {j : Nat} {d : Int} {o : Option Int} {vl vh : V} {ol oh : Option (List Int)} {n m : Nat} {H H' : Hp}
theorem SW.kp (h : SW K C aE T p e l r q0 bk zs ls j d o vl vh ol oh n H) (k : Kp p H H') (tab : Tabs T H') (pen : PenAt K H' p e m) : SW K C aE T p e l r q0 bk zs ls j d o vl vh ol oh m H' := by
  obtain ⟨px, hp⟩ := h.pen.some
  exact ⟨tab, k _ _ h.hl h.lp (fun _ z => nomatch z), h.lp, h.ra.kp k hp, h.sr.kp k hp, pen, k.tup hp h.hb, h.tb.kp k hp⟩
theorem SW.ext (h : SW K C aE T p e l r q0 bk zs ls j d o vl vh ol oh n H) (s : ExtN H H') (tab : Tabs T H') : SW K C aE T p e l r q0 bk zs ls j d o vl vh ol oh n H' := h.kp (Kp.of s) tab (h.pen.ext s)
theorem SW.same (h : SW K C aE T p e l r q0 bk zs ls j d o vl vh ol oh n H) (s : Same H H') : SW K C aE T p e l r q0 bk zs ls j d o vl vh ol oh n H' := h.ext (ExtN.of s) (h.tab.ext s)
end
def spSR (K : PySem.W.Frag) (T : List (Addr × Str)) : Sp := fun vs H Q _ => ∃ (p l : Addr) (e : Addr × List Int) (ls : List Int) (j n : Nat), vs = [.ref p, .ref l, .int (j : Nat)] ∧ H l = some (.lst (ls.map V.int)) ∧ l ≠ p ∧ Er ls ∧ j < ls.length ∧ n < 700000 ∧ PenAt K H p e n ∧ Tabs T H ∧
  ∀ H', Kp p H H' → PenAt K H' p e (n + 1) → Tabs T H' → Q (.bl true) H'
abbrev nSR : List Str := ["_law_reel_here", "_law_lengths_here", "_law_bar", "_law_ring_here", "_law_book_here", "_law_told", "_law_low", "_law_with_bar", "_law_high", "_law_lot"]
theorem scSR : FnScope nSR ["_law_reel_here", "_law_lengths_here", "_law_bar"] (defScope sLwSlackRight) := ⟨rfl, rfl, rfl, by decide +kernel, rfl, by decide +kernel, by decide +kernel⟩
theorem ok_sr {C aE aD f fA fH fG fR fB2 fQ fBk fWt fBr : Addr} {fd fdA fdH fdG fdR fdB2 fdQ fdBk fdWt fdBr : FuncData} {TB : List (Addr × Str)} {g1 : List Value → List Value → List Value} (F : Fun K "_law_slack_right" "_law_slack_right" sLwSlackRight f fd) (T : Bi mg) (R : RingP P w K mg base C fR fdR) (RG : RingC K mg C)
    (EC : SlackC K mg aE) (EI : C8.InsC K aE) (EM : NamC K aE "Slack") (DG : mg "Denial" = some (.ref aD)) (ND : PySem.W.kitOne K (.ref aE) (.ref aD) = some false) (FB : FnOk P w K mg base CX0 1 fB2 fdB2 ["self"] spPB) (BB : Binds K fdB2 ["self"] []) (BF : PySem.W.findIn K (.ref aE) "__bool__" = some (some (.ref fB2))) (BN : PySem.W.isFn K (.ref fB2) = true)
    (PQ : PapQ P w K mg base aE fQ fdQ "slack" "Slack" 1) (SL : DefAt P w K mg base CX0 11 "slack" ["ring", "bar"] (spSLc K C aE TB) fA fdA) (KB : KBinds K fdA ["ring", "bar"] ["bar", "ring"] g1 gK2) (SHW : DefAt P w K mg base CX0 11 "shows_slack" ["ring", "bar", "value"] (spSHc K C aE TB) fH fdH)
    (GP : DefAt P w K mg base CX0 2 "_law_gap" ["_law_lengths_here", "_law_lot"] (spGap K) fG fdG) (BK : DefAt P w K mg base CX0 4 "_law_book" ["_law_lengths_here"] (spBook K) fBk fdBk) (WT : DefAt P w K mg base CX0 1 "_law_with" ["_law_lengths_here", "_law_bar", "_law_length"] (spLWith K) fWt fdWt)
    (BR : DefAt P w K mg base CX0 9 "_law_between_right" ["_law_reel_here", "_law_ring_here", "_law_lengths_here", "_law_bar", "_law_told"] (spBR K C aE TB) fBr fdBr) :
    FnOk P w K mg base CX0 13 f fd ["_law_reel_here", "_law_lengths_here", "_law_bar"] (spSR K TB) := by
  refine F.ok scSR (fun vs H Q E h => ?_) (fun cdv A outer s H vs Q E hr h => ?_)
  · obtain ⟨p, l, e, ls, j, n, rfl, _⟩ := h
    rfl
  · have nd := scSR.nd
    have hu65 : (A.deeper (PyProof.Rows.envOfC "_law_slack_right" (defScope sLwSlackRight) s.heap.objs.size f cdv)).units + 65 < cLine := by have := hr.un; omega
    have G := R
    refine ⟨_, (pss_cons (ps_par (i := 3) (j := 4) (by rfl) nd rfl rfl (by decide) rfl rfl (pa_cons (pe_make G.made G.ok (hr.mono (by decide)) (by rfl) RG.g G.b .nil pass0 (pa_cons (pv 1) pa_nil)) (pa_cons (pe_call BK.ok (hr.mono (by decide)) rfl BK.g BK.kp BK.b .nil pass0 (pa_cons (pv 1) pa_nil)) pa_nil)) (by rfl))
      (pss_cons (ps_set (i := 5) nd rfl (Or.inl rfl) (pe_call SL.ok (hr.mono (by decide)) rfl SL.g SL.kp SL.b .nil pass0 (pa_cons (pv 3) (pa_cons (pv 2) pa_nil))))
      (pss_cons (ps_if (PW.pt (pw_or (pt_not (pt_val (pe_callB call_isi (by rfl) T.isinstance (by decide +kernel) (pa_cons (pv 5) (pa_cons (pe_glob (v := .ref aE) rfl EC.g rfl) pa_nil))))) (pw_or (pt_val (pe_callB call_isi (by rfl) T.isinstance (by decide +kernel) (pa_cons (pv 5) (pa_cons (pe_glob (v := .ref aD) rfl DG rfl) pa_nil)))) (pw_or (pt_not (pt_bool FB (hr.mono (by decide)) BB (pv 5))) (pw_or (pt_cmpR op_ne (pe_fld (pv 5) rfl) pe_str (nomark _)) (pw_or1 (pt_cmpR (op_neD hr.units) (pe_fld (pv 5) rfl) (pe_tup (pa_cons (pe_fld (pv 5) rfl) (pa_cons (pe_fld (pv 5) rfl) (pa_cons (pe_fld (pv 5) rfl) (pa_cons (pe_fld (pv 5) rfl) pa_nil))))) (nomark _)))))))) (pss_one ps_never) pss_nil)
      (pss_cons (ps_if (PW.pt (pw_or (pt_cmpR (op_insNe PQ.ok PQ.ne PQ.sub PQ.eq PQ.fn PQ.b (hr.mono (by decide))) (pe_callK0 SL.ok (hr.mono (by decide)) rfl SL.g SL.kp KB pass0 (pk_cons (pv 2) (pk_cons (pv 3) pk_nil))) (pv 5) (nomark _)) (pw_or (pt_cmpR op_notBl (pe_call SHW.ok (hr.mono (by decide)) rfl SHW.g SHW.kp SHW.b .nil pass0 (pa_cons (pv 3) (pa_cons (pv 2) (pa_cons (pv 5) pa_nil)))) pe_bl (nomark _)) (pw_or (pt_val (pe_callB call_isi (by rfl) T.isinstance (by decide +kernel) (pa_cons (pe_fld (pv 5) rfl) (pa_cons (pe_bltn (v := .ty "bool") (u := .type "bool") (by rfl) T.bool (by decide +kernel) rfl) pa_nil)))) (pw_or1 (pt_val (pe_callB call_isi (by rfl) T.isinstance (by decide +kernel) (pa_cons (pe_fld (pv 5) rfl) (pa_cons (pe_bltn (v := .ty "bool") (u := .type "bool") (by rfl) T.bool (by decide +kernel) rfl) pa_nil))))))))) (pss_one ps_never) pss_nil)
      (pss_cons (ps_par (i := 6) (j := 7) (by rfl) nd rfl rfl (by decide) rfl rfl (pa_cons (pe_op op_sub (pe_ix (r := rIxL K) ix_list (pv 1) (pv 2) (fun _ _ => rfl)) (pe_fld (pv 5) rfl)) (pa_cons (pe_lc (own := [("_law_lot", 9)]) (g := (gName 9)) (tt := tTest (tOp (rIn K false) (tVar 2) (tVar 9))) (te := tVar 9)  rfl nd (pi_tup (pv 4))
          (blkOk_by (N := nSR) (sc := defScope sLwSlackRight) (by decide +kernel)) (fun _ _ _ _ _ => (pg_name (i := 9) nd rfl (Or.inl rfl))) (fun _ _ _ _ _ => (pts_one (pt_cmpR op_in_seq (pv 2) (pv 9) (by rfl)))) (fun _ _ _ _ _ => (pv 9))) pa_nil)) (by rfl))
      (pss_cut (ps_if (PW.pt (pw_or (pt_cmpR op_lt (pv 6) pe_int (nomark _)) (pw_or (pt_cmpR (op_neD hr.units) (pe_call BK.ok (hr.mono (by decide)) rfl BK.g BK.kp BK.b .nil pass0 (pa_cons (pe_call WT.ok (hr.mono (by decide)) rfl WT.g WT.kp WT.b .nil pass0 (pa_cons (pv 1) (pa_cons (pv 2) (pa_cons (pv 6) pa_nil)))) pa_nil)) (pv 4) (nomark _)) (pw_or1 (PW.pt (pw_and (pt_cmpR op_gt (pv 6) pe_int (nomark _)) (pw_and1 (pt_cmpR (op_eqD hr.units) (pe_call BK.ok (hr.mono (by decide)) rfl BK.g BK.kp BK.b .nil pass0 (pa_cons (pe_call WT.ok (hr.mono (by decide)) rfl WT.g WT.kp WT.b .nil pass0 (pa_cons (pv 1) (pa_cons (pv 2) (pa_cons (pe_op op_sub (pv 6) pe_int) pa_nil)))) pa_nil)) (pv 4) (nomark _))))))))) (pss_one ps_never) pss_nil)
      (pss_cut (ps_if (pt_cmpR op_isN (pe_fld (pv 5) rfl) pe_non (nomark _)) (pss_one (ps_if (PW.pt (pw_or (pt_cmpR (op_neD hr.units) (pv 7) (pe_lst pa_nil) (nomark _)) (pw_or (pt_cmpR op_notN (pe_fld (pv 5) rfl) pe_non (nomark _)) (pw_or1 (pt_cmpR (op_neD hr.units) (pe_call BK.ok (hr.mono (by decide)) rfl BK.g BK.kp BK.b .nil pass0 (pa_cons (pe_call WT.ok (hr.mono (by decide)) rfl WT.g WT.kp WT.b .nil pass0 (pa_cons (pv 1) (pa_cons (pv 2) (pa_cons (pe_op op_pow pe_int pe_int) pa_nil)))) pa_nil)) (pv 4) (nomark _)))))) (pss_one ps_never) pss_nil)) (pss_cons (ps_set (i := 8) nd rfl (Or.inl rfl) (pe_op op_add (pe_ix (r := rIxL K) ix_list (pv 1) (pv 2) (fun _ _ => rfl)) (pe_fld (pv 5) rfl)))
      (pss_cons (ps_if (PW.pt (pw_or (pt_cmpR (op_neD hr.units) (pe_call BK.ok (hr.mono (by decide)) rfl BK.g BK.kp BK.b .nil pass0 (pa_cons (pe_call WT.ok (hr.mono (by decide)) rfl WT.g WT.kp WT.b .nil pass0 (pa_cons (pv 1) (pa_cons (pv 2) (pa_cons (pv 8) pa_nil)))) pa_nil)) (pv 4) (nomark _)) (pw_or (pt_cmpR (op_eqD hr.units) (pe_call BK.ok (hr.mono (by decide)) rfl BK.g BK.kp BK.b .nil pass0 (pa_cons (pe_call WT.ok (hr.mono (by decide)) rfl WT.g WT.kp WT.b .nil pass0 (pa_cons (pv 1) (pa_cons (pv 2) (pa_cons (pe_op op_add (pv 8) pe_int) pa_nil)))) pa_nil)) (pv 4) (nomark _)) (pw_or1 (pt_cmpR (op_eqD hr.units) (pv 7) (pe_lst pa_nil) (nomark _)))))) (pss_one ps_never) pss_nil)
      (pss_one (ps_if (PW.pt (pw_or (pt_cmpR (op_notInD hu65) (pe_fld (pv 5) rfl) (pv 7) (by rfl)) (pw_or1 (pt_cmpR op_lt (pe_call GP.ok (hr.mono (by decide)) rfl GP.g GP.kp GP.b .nil pass0 (pa_cons (pe_call WT.ok (hr.mono (by decide)) rfl WT.g WT.kp WT.b .nil pass0 (pa_cons (pv 1) (pa_cons (pv 2) (pa_cons (pe_op op_add (pv 8) pe_int) pa_nil)))) (pa_cons (pe_fld (pv 5) rfl) pa_nil))) pe_int (nomark _))))) (pss_one ps_never) pss_nil)))))
      (pss_cons (ps_if (pt_cmpR op_isN (pe_fld (pv 5) rfl) pe_non (nomark _)) (pss_one (ps_ret (pe_and (pe_cmpR op_eq (pv 6) pe_int (nomark _)) (pe_one (pe_call BR.ok (hr.mono (by decide)) rfl BR.g BR.kp BR.b .nil pass0 (pa_cons (pv 0) (pa_cons (pv 3) (pa_cons (pv 1) (pa_cons (pv 2) (pa_cons (pv 5) pa_nil)))))))))) pss_nil)
      (pss_cons (ps_if (PW.pt (pw_or (pt_cmpR op_notIn_seq (pv 2) (pe_fld (pv 5) rfl) (by rfl)) (pw_or (pt_cmpR op_le (pe_call GP.ok (hr.mono (by decide)) rfl GP.g GP.kp GP.b .nil pass0 (pa_cons (pv 1) (pa_cons (pe_fld (pv 5) rfl) pa_nil))) pe_int (nomark _)) (pw_or1 (pt_cmpR op_gt (pe_call GP.ok (hr.mono (by decide)) rfl GP.g GP.kp GP.b .nil pass0 (pa_cons (pe_call WT.ok (hr.mono (by decide)) rfl WT.g WT.kp WT.b .nil pass0 (pa_cons (pv 1) (pa_cons (pv 2) (pa_cons (pe_op op_sub (pv 6) pe_int) pa_nil)))) (pa_cons (pe_fld (pv 5) rfl) pa_nil))) pe_int (nomark _)))))) (pss_one ps_never) pss_nil)
      (pss_one (ps_ret (pe_call BR.ok (hr.mono (by decide)) rfl BR.g BR.kp BR.b .nil pass0 (pa_cons (pv 0) (pa_cons (pv 3) (pa_cons (pv 1) (pa_cons (pv 2) (pa_cons (pv 5) pa_nil))))))))))))))))), ?_⟩
    obtain ⟨p, l, e, ls, j, n, rfl, hl, lp, er, hj, hn, pen, tab, q⟩ := h
    have l3 := er.l3
    have l8 := er.l8
    have ex := allL_ex ls.length
    have g0 : atI (ls.map V.int) (j : Int) = some (.int (ls.getD j 0)) := atI_nat (j := j) (by rw [List.getElem?_map, List.getElem?_eq_getElem hj, List.getD_eq_getElem?_getD, List.getElem?_eq_getElem hj]; rfl)
    refine ⟨_, rfl, madeL2 hl l3 l8 er.bd fun r H1 ra s1 nr => ⟨rfl, ?_⟩⟩
    refine ⟨_, rfl, l, ls, rfl, s1 _ _ hl, l3, l8, fun bk zs H2 s2 hb tb z2 => ⟨_, _, rfl, ?_⟩⟩
    have s12 := s1.trans s2
    have ra2 := ra.kp (Kp.of (ExtN.of s2)) (pen.same s1).some.choose_spec
    have tab2 := tab.ext s12
    -- told
    refine ⟨_, rfl, _, rfl, r, j, ls, rfl, ra2, er, hj, tab2, fun q0 d o vl vh ol oh H3 e3 tab3 sr => ?_⟩
    have k3 : Kp p H H3 := (Kp.of (ExtN.of s12)).ext e3
    have W3 : SW K C aE TB p e l r q0 bk zs ls j d o vl vh ol oh n H3 := ⟨tab3, e3 _ _ (s12 _ _ hl) (fun _ z => nomatch z), lp, ra2.kp (Kp.of e3) (pen.same s12).some.choose_spec, sr, (pen.same s12).ext e3, e3 _ _ hb (fun _ z => nomatch z), tb.ext e3⟩
    clear sr tab3 pen tab2 ra2 ra tab hb tb
    have dp := W3.sr.dn.pos er hj
    have db := W3.sr.dn.bar
    have ll : ∀ m, ol = some m → m.length ≤ 1000 := fun m z => by
      have := W3.sr.fl
      rw [z] at this
      have := lot_len (lotsN_lot (this.some ex).1)
      omega
    have lh : ∀ m, oh = some m → m.length ≤ 1000 := fun m z => by
      have := W3.sr.fh
      rw [z] at this
      have := lot_len (lotsN_lot (this.some ex).1)
      omega
    have fvs : ∀ {H' : Hp} {wl wh : V}, LotR H' ol wl → LotR H' oh wh → Paired (FV H' false 1) [.int d, oI o, wl, wh] [.int d, dO o, lotO ol, lotO oh] := fun a b => .cons (FV.int d) (.cons (fv_oI o) (.cons (a.fv ll) (.cons (b.fv lh) .nil)))
    obtain ⟨dx, t, hq0, ht0⟩ := id W3.sr.pp
    refine ⟨_, rfl, .ref q0, .ref aE, .ref aE, .ref aE, true, rfl, .own _, .base (.ins hq0 EI.cl EI.ha EI.hn EI.htk EI.hm), EI.me, _, rfl, iteF ?_⟩
    refine ⟨_, rfl, .ref q0, .ref aD, .ref aE, .ref aD, false, rfl, .own _, .base (.ins hq0 EI.cl EI.ha EI.hn EI.htk EI.hm), ND, _, rfl, iteF ?_⟩
    refine ⟨_, rfl, q0, aE, dx, _, rfl, hq0, BF, BN, _, rfl, true, rfl, iteF ?_⟩
    refine ⟨_, rfl, q0, aE, dx, _, _, rfl, hq0, EC.pc.cl, EC.pc.nw, rfl, rfl, _, rfl, iteBF (ne_vv _) ?_⟩
    refine ⟨_, rfl, q0, aE, dx, _, _, rfl, hq0, EC.pc.cl, EC.pc.np, rfl, ?_⟩
    refine ⟨_, rfl, q0, aE, dx, _, _, rfl, hq0, EC.pc.cl, EC.nd, rfl, _, rfl, q0, aE, dx, _, _, rfl, hq0, EC.pc.cl, EC.nu, rfl, _, rfl, q0, aE, dx, _, _, rfl, hq0, EC.pc.cl, EC.nl, rfl, _, rfl, q0, aE, dx, _, _, rfl, hq0, EC.pc.cl, EC.nh, rfl, (by show 4 ≤ sizeLine; decide), fun u nu => ?_⟩
    have s4 : Same H3 (upd H3 u (.tup [.int d, oI o, vl, vh])) := (Same.refl H3).new nu
    have hu : upd H3 u (.tup [.int d, oI o, vl, vh]) u = some (.tup [.int d, oI o, vl, vh]) := upd_same
    generalize upd H3 u (.tup [.int d, oI o, vl, vh]) = H4 at s4 hu ⊢
    have W4 := W3.same s4
    have k4 := k3.ext (ExtN.of s4)
    have f1 : FV H4 false 2 (.ref t) (.tuple [.int d, dO o, lotO ol, lotO oh]) := FV.tup (s4 _ _ ht0) (by show 4 ≤ 1000; decide) (fvs W4.sr.rl W4.sr.rh)
    have f2 : FV H4 false 2 (.ref u) (.tuple [.int d, dO o, lotO ol, lotO oh]) := FV.tup hu (by show 4 ≤ 1000; decide) (fvs W4.sr.rl W4.sr.rh)
    refine ⟨_, _, fv_dp f1, fv_dp f2, fv_shaped f1 (by decide), fv_shaped f2 (by decide), _, rfl, ?_⟩
    rw [(fv_good f1).2.2]
    refine iteF ?_
    -- told again
    refine ⟨_, rfl, _, rfl, r, j, ls, rfl, W4.ra, er, hj, W4.tab, fun q1 d1 o1 vl1 vh1 ol1 oh1 H5 e5 tab5 sr1 => ?_⟩
    obtain rfl := W4.sr.dn.uniq sr1.dn
    obtain rfl := W4.sr.up.uniq sr1.up
    obtain rfl := W4.sr.fl.uniq ex sr1.fl
    obtain rfl := W4.sr.fh.uniq ex sr1.fh
    have W5 := W4.ext e5 tab5
    have k5 := k4.ext e5
    obtain ⟨dx1, t1, hq1, ht1⟩ := id sr1.pp
    obtain ⟨dx5, t5, hq5, ht5⟩ := id W5.sr.pp
    refine ⟨_, rfl, q1, q0, dx1, dx5, _, _, rfl, rfl, hq1, hq5, q1, q0, fsS (.int d) (oI o) vl1 vh1, fsS (.int d) (oI o) vl vh, _, rfl, sr1.pp, W5.sr.pp, EI, EC.pc, EM, (by show 4 ≤ 1000; decide), fvs sr1.rl sr1.rh, (by show 4 ≤ 1000; decide), fvs W5.sr.rl W5.sr.rh, (by decide), fun H6 s6 => ⟨true, rfl, ?_⟩⟩
    refine ⟨_, rfl, iteF ?_⟩
    have W6 := W5.same s6
    have k6 := k5.ext (ExtN.of s6)
    refine ⟨_, rfl, _, rfl, _, rfl, r, j, ls, q0, d, o, vl, vh, ol, oh, rfl, W6.ra, er, hj, W6.tab, W6.sr, fun H7 e7 tab7 => ⟨true, true, rfl, rfl, _, rfl, iteBF (by decide) ?_⟩⟩
    have W7 := W6.ext e7 tab7
    have k7 := k6.ext e7
    obtain ⟨dx7, t7, hq7, ht7⟩ := id W7.sr.pp
    clear W3 W4 W5 W6 k3 k4 k5 k6 hq0 ht0 hq1 ht1 hq5 ht5 f1 f2 hu sr1 tab5 tab7
    refine ⟨_, rfl, q0, aE, dx7, _, _, rfl, hq7, EC.pc.cl, EC.nd, rfl, .int d, .ty "bool", _, _, false, rfl, .ty _, .base (.int d), kit_ty (by decide +kernel), _, rfl, iteF ?_⟩
    have tyo : ∃ k : String, TyX K H7 (oI o) (.type k) ∧ kitB k "bool" = some false := by
      cases o with
      | none => exact ⟨"NoneType", .base .non, by decide +kernel⟩
      | some i => exact ⟨"int", .base (.int i), by decide +kernel⟩
    obtain ⟨ko, tyo, kbo⟩ := tyo
    refine ⟨_, rfl, q0, aE, dx7, _, _, rfl, hq7, EC.pc.cl, EC.nu, rfl, oI o, .ty "bool", _, _, false, rfl, .ty _, tyo, kit_ty kbo, _, rfl, iteF ?_⟩
    -- those with the bar
    refine ⟨_, rfl, _, rfl, l, _, (j : Nat), _, rfl, rfl, SqL.of W7.hl, g0, _, rfl, q0, aE, dx7, _, _, rfl, hq7, EC.pc.cl, EC.nd, rfl, _, _, rfl, rfl, ?_⟩
    refine ⟨_, rfl, bk, rfl, ⟨_, .inl (.inl W7.hb)⟩, fun D hD => ?_⟩
    have zl : zs.length = (bookN ls.length ls).length := par_len W7.tb
    refine lc_tup (K := K) (a := bk) (xs := zs) (fun i H' => Same H7 H' ∧ ∃ us, H' D = some (.lst us) ∧ TL H' us (((bookN ls.length ls).take i).filter fun b => hasB b j) ∧ us.length ≤ i) ⟨(Same.refl H7).new hD, [], upd_same, .nil, Nat.le_refl _⟩ (fun i H' _ z => .inl (.inl (z.1 _ _ W7.hb))) ?_ ?_
    · rintro i y H' hy ⟨s8, us, h8, tl8, ul⟩
      obtain ⟨b, hbi, a, rfl, ha⟩ := par_get W7.tb hy
      have hi : i < zs.length := (List.getElem?_eq_some_iff.mp hy).1
      refine ⟨rfl, _, rfl, _, rfl, a, _, rfl, .inr (.inl (.inl (s8 _ _ ha))), rfl, flat_ints _, _, rfl, ?_⟩
      show (if inV (.int (j : Nat)) (b.map V.int) = true then _ else _)
      rw [hasB_in, ← take_snoc hbi, List.filter_append]
      cases c : hasB b j with
      | false =>
        refine iteF ⟨s8, us, h8, ?_, by omega⟩
        rw [show [b].filter (fun b => hasB b j) = [] by simp [List.filter, c], List.append_nil]
        exact tl8
      | true =>
        refine iteT ⟨_, rfl, us, h8, sm (by omega), s8.mut hD, us ++ [.ref a], upd_same, ?_, by rw [List.length_append]; show us.length + 1 ≤ i + 1; omega⟩
        rw [show [b].filter (fun b => hasB b j) = [b] by simp [List.filter, c]]
        refine par_app (tl8.mut h8) (.cons ⟨a, rfl, ?_⟩ .nil)
        rw [upd_ne fun z => by have := s8 _ _ ha; rw [z, h8] at this; cases this]
        exact s8 _ _ ha
    rintro H8 ⟨s8, us, h8, tl8, ul⟩
    rw [zl, List.take_length] at tl8
    have W8 := W7.same s8
    have k8 := k7.ext (ExtN.of s8)
    clear W7 k7 hq7 ht7 tyo
    refine ⟨_, _, rfl, ?_⟩
    have bsame : ∀ {v : Int}, ls.getD j 0 - d ≤ v → (∀ u, o = some u → v ≤ ls.getD j 0 + u) → bookN ls.length (withL ls j v) = bookN ls.length ls := fun lo hi => (bookN_same fun x hx => (slack_side er hj W8.sr.dn W8.sr.up lo hi hx).2).symm
    have wlen : ∀ v : Int, (withL ls j v).length = ls.length := fun v => with_len hj
    refine ⟨fun σ' H' => σ' = [some (.ref p), some (.ref l), some (.int (j : Nat)), some (.ref r), some (.ref bk), some (.ref q0), some (.int (ls.getD j 0 - d)), some (.ref D), none, none] ∧ Same H8 H', ?_, ?_⟩
    · refine ⟨_, rfl, _, _, rfl, rfl, _, rfl, iteBF (decide_eq_false (by omega)) ?_⟩
      refine ⟨_, rfl, _, rfl, _, rfl, l, ls, j, _, rfl, W8.hl, hj, l8, fun t1 Ha sa nta hta => ⟨t1, _, rfl, hta, by rw [wlen]; exact l3, by rw [wlen]; exact l8, fun t2 zs2 Hb sb h2 tl2 z2 => ?_⟩⟩
      have sab := sa.trans sb
      rw [wlen] at tl2
      refine ⟨_, rfl, _, _, tup_dp h2 tl2, tup_dp (sab _ _ W8.hb) (W8.tb.same sab), tl_shapedT _, tl_shapedT _, _, rfl, iteBF (by rw [tl_eqT, decide_eq_true (bsame (by omega) fun u z => by rw [z] at W8; have := W8.sr.up.pos; omega)]; rfl) ?_⟩
      refine ⟨_, rfl, _, _, rfl, rfl, _, rfl, ?_⟩
      by_cases c : 1 < ls.getD j 0 - d
      · refine iteBT (decide_eq_true c) ?_
        have W9 := W8.same sab
        refine ⟨_, rfl, _, rfl, _, rfl, _, _, rfl, rfl, l, ls, j, _, rfl, W9.hl, hj, l8, fun t3 Hc sc ntc htc => ⟨t3, _, rfl, htc, by rw [wlen]; exact l3, by rw [wlen]; exact l8, fun t4 zs4 Hd sd h4 tl4 z4 => ?_⟩⟩
        have scd := sc.trans sd
        rw [wlen] at tl4
        have ne : bookN ls.length (withL ls j (ls.getD j 0 - d - 1)) ≠ bookN ls.length ls := by
          obtain ⟨x, hx, ne⟩ := slack_low er hj W8.sr.dn (by omega)
          exact (bookN_other hx ne).symm
        exact ⟨_, rfl, _, _, tup_dp h4 tl4, tup_dp (scd _ _ W9.hb) (W9.tb.same scd), tl_shapedT _, tl_shapedT _, _, rfl, iteBF (by rw [tl_eqT, decide_eq_false ne]) ⟨rfl, sab.trans scd⟩⟩
      · exact iteBF (decide_eq_false c) (iteF ⟨rfl, sab⟩)
    rintro σ H9 ⟨rfl, s9⟩
    have W9 := W8.same s9
    have h9 := s9 _ _ h8
    have tl9 := tl8.same s9
    have k9 := k8.ext (ExtN.of s9)
    clear W8 k8 s9 h8 tl8
    refine ⟨fun σ' H' => ∃ z8 : Option V, σ' = [some (.ref p), some (.ref l), some (.int (j : Nat)), some (.ref r), some (.ref bk), some (.ref q0), some (.int (ls.getD j 0 - d)), some (.ref D), z8, none] ∧ Same H9 H', ?_, ?_⟩
    · obtain ⟨dx, t, hq, ht⟩ := id W9.sr.pp
      refine ⟨_, rfl, q0, aE, dx, _, _, rfl, hq, EC.pc.cl, EC.nu, rfl, rfl, _, rfl, ?_⟩
      cases o with
      | none =>
        refine iteDT rfl ?_
        have nb : (bookN ls.length ls).filter (fun b => hasB b j) = [] := List.filter_eq_nil_iff.mpr fun x hx k => by
          have := bookN_mem.mp hx
          exact W9.sr.up x ⟨this.1, k⟩ this.2
        rw [nb] at tl9
        refine ⟨_, rfl, (by show 0 ≤ sizeLine; decide), fun u nu => ?_⟩
        have s10 : Same H9 (upd H9 u (.lst [])) := (Same.refl H9).new nu
        have hu : upd H9 u (.lst []) u = some (.lst []) := upd_same
        generalize upd H9 u (.lst []) = H10 at s10 hu ⊢
        have W10 := W9.same s10
        refine ⟨_, _, .lst (SqL.of (s10 _ _ h9)) (tl_dp (tl9.same s10)), .lst (SqL.of hu) .nil, tl_shaped _, shaped_nil, _, rfl, iteBF (by rw [tl_nil]; rfl) ?_⟩
        have : oh = none := by
          cases oh with
          | none => rfl
          | some l => exact absurd (W9.sr.fh.some ex).2 (by simp)
        subst this
        have vn : vh = .non := by
          rcases W9.sr.rh with ⟨_, z⟩ | ⟨_, _, z, _⟩
          · exact z
          · cases z
        subst vn
        refine ⟨_, rfl, q0, aE, dx, _, _, rfl, s10 _ _ hq, EC.pc.cl, EC.nh, rfl, rfl, _, rfl, iteBF (by rw [decide_eq_true rfl]; rfl) ?_⟩
        refine ⟨_, rfl, _, rfl, _, _, rfl, rfl, ⟨by decide, by decide, by decide⟩, l, ls, j, _, rfl, W10.hl, hj, l8, fun t1 Ha sa nta hta => ⟨t1, _, rfl, hta, by rw [wlen]; exact l3, by rw [wlen]; exact l8, fun t2 zs2 Hb sb h2 tl2 z2 => ?_⟩⟩
        have sab := sa.trans sb
        rw [wlen] at tl2
        have e9 : (10 : Int) ^ (9 : Int).toNat = 1000000000 := by decide
        have lm : ls.getD j 0 ≤ 1000000 := by
          have : ls.getD j 0 ∈ ls := by rw [List.getD_eq_getElem?_getD, List.getElem?_eq_getElem hj]; exact List.getElem_mem hj
          exact (er.bd _ this).2
        exact ⟨_, rfl, _, _, tup_dp h2 tl2, tup_dp (sab _ _ W10.hb) (W10.tb.same sab), tl_shapedT _, tl_shapedT _, _, rfl, iteBF (by rw [tl_eqT, decide_eq_true (bsame (by rw [e9]; omega) fun u z => nomatch z)]; rfl) ⟨_, rfl, s10.trans sab⟩⟩
      | some u =>
        refine iteDF (fun z => nomatch z) ?_
        have up0 := W9.sr.up.pos
        refine ⟨_, rfl, _, rfl, l, _, (j : Nat), _, rfl, rfl, SqL.of W9.hl, g0, _, rfl, q0, aE, dx, _, _, rfl, hq, EC.pc.cl, EC.nu, rfl, _, _, rfl, rfl, ?_⟩
        refine ⟨_, rfl, _, rfl, _, rfl, l, ls, j, _, rfl, W9.hl, hj, l8, fun t1 Ha sa nta hta => ⟨t1, _, rfl, hta, by rw [wlen]; exact l3, by rw [wlen]; exact l8, fun t2 zs2 Hb sb h2 tl2 z2 => ?_⟩⟩
        have sab := sa.trans sb
        rw [wlen] at tl2
        refine ⟨_, rfl, _, _, tup_dp h2 tl2, tup_dp (sab _ _ W9.hb) (W9.tb.same sab), tl_shapedT _, tl_shapedT _, _, rfl, iteBF (by rw [tl_eqT, decide_eq_true (bsame (by omega) fun w z => by cases z; omega)]; rfl) ?_⟩
        have W10 := W9.same sab
        refine ⟨_, rfl, _, rfl, _, rfl, _, _, rfl, rfl, l, ls, j, _, rfl, W10.hl, hj, l8, fun t3 Hc sc ntc htc => ⟨t3, _, rfl, htc, by rw [wlen]; exact l3, by rw [wlen]; exact l8, fun t4 zs4 Hd sd h4 tl4 z4 => ?_⟩⟩
        have scd := sc.trans sd
        rw [wlen] at tl4
        have ne : bookN ls.length (withL ls j (ls.getD j 0 + u + 1)) ≠ bookN ls.length ls := by
          obtain ⟨x, hx, ne⟩ := slack_high er hj W9.sr.up
          exact (bookN_other hx ne).symm
        refine ⟨_, rfl, _, _, tup_dp h4 tl4, tup_dp (scd _ _ W10.hb) (W10.tb.same scd), tl_shapedT _, tl_shapedT _, _, rfl, iteBF (by rw [tl_eqT, decide_eq_false ne]) ?_⟩
        have s10 := sab.trans scd
        have W11 := W10.same scd
        have h11 := s10 _ _ h9
        have tl11 := tl9.same s10
        obtain ⟨lt, rfl⟩ := W9.sr.up.first_some ex W9.sr.fh
        have hlt := W9.sr.fh.some ex
        have hpu := puB_iff.mp (show puB ls j u lt = true from hlt.2)
        have lot := lotsN_lot hlt.1
        have inb : lt ∈ (bookN ls.length ls).filter (fun b => hasB b j) := List.mem_filter.mpr ⟨bookN_mem.mpr ⟨hlt.1, hpu.2.2⟩, hpu.1⟩
        refine ⟨_, rfl, (by show 0 ≤ sizeLine; decide), fun u1 nu => ?_⟩
        have s11 : Same Hd (upd Hd u1 (.lst [])) := (Same.refl Hd).new nu
        have hu : upd Hd u1 (.lst []) u1 = some (.lst []) := upd_same
        generalize upd Hd u1 (.lst []) = H12 at s11 hu ⊢
        have W12 := W11.same s11
        have h12 := s11 _ _ h11
        have tl12 := tl11.same s11
        refine ⟨_, _, .lst (SqL.of h12) (tl_dp tl12), .lst (SqL.of hu) .nil, tl_shaped _, shaped_nil, _, rfl, iteBF (by rw [tl_nil, List.isEmpty_eq_false_iff]; exact List.ne_nil_of_mem inb) ?_⟩
        obtain ⟨dx2, t5, hq2, ht5⟩ := id W12.sr.pp
        rcases W12.sr.rh with ⟨z, _⟩ | ⟨tl, lt', e1, rfl, htl⟩
        · cases z
        cases e1
        refine ⟨_, rfl, q0, aE, dx2, _, _, rfl, hq2, EC.pc.cl, EC.nh, rfl, _, rfl, _, _, .tup (.inl (.inl htl)) (dp_ints _), .lst (SqL.of h12) (tl_dp tl12), sh_tup _, tl_shaped _, _, rfl, ?_⟩
        rw [tl_any, decide_eq_true inb]
        refine iteF ?_
        refine ⟨_, rfl, _, rfl, _, rfl, _, _, rfl, rfl, l, ls, j, _, rfl, W12.hl, hj, l8, fun t6 He se nte hte => ?_⟩
        refine ⟨_, rfl, q0, aE, dx2, _, _, rfl, se _ _ hq2, EC.pc.cl, EC.nh, rfl, t6, tl, _, lt, rfl, hte, se _ _ htl, by rw [wlen]; exact l8, by rw [wlen]; exact lot, fun Hf sf => ⟨_, _, rfl, rfl, _, rfl, ?_⟩⟩
        have gp := with_gap (v := ls.getD j 0 + u + 1) hj lot
        rw [hpu.1, if_pos rfl] at gp
        exact iteBF (decide_eq_false (by have := hpu.2.1; omega)) ⟨_, rfl, (s10.trans s11).trans (se.trans sf)⟩
    rintro σ H10 ⟨z8, rfl, s10⟩
    have W10 := W9.same s10
    have k10 := k9.ext (ExtN.of s10)
    clear W9 k9 h9 tl9
    obtain ⟨dx, t, hq, ht⟩ := id W10.sr.pp
    refine ⟨_, rfl, q0, aE, dx, _, _, rfl, hq, EC.pc.cl, EC.nl, rfl, rfl, _, rfl, ?_⟩
    rcases id W10.sr.rl with ⟨rfl, rfl⟩ | ⟨tl, lt, rfl, rfl, htl⟩
    · refine iteDT rfl ?_
      have e1 : ls.getD j 0 - d = 1 := by
        have := W10.sr.dn.first_none ex W10.sr.fl
        omega
      refine ⟨_, rfl, rfl, _, rfl, iteBT (decide_eq_true (by rw [e1])) ?_⟩
      refine ⟨_, rfl, _, rfl, _, rfl, _, rfl, _, rfl, p, r, l, q0, e, ls, j, n, d, o, .non, vh, none, oh, rfl, W10.pen, by omega, W10.ra, W10.hl, lp, er, hj, W10.sr, W10.tab, fun H' k' pen' tab' => ?_⟩
      exact q H' (k10.trans k') pen' tab'
    · refine iteDF (fun z => nomatch z) ?_
      have hlt := W10.sr.fl.some ex
      have hpd := pdB_iff.mp hlt.2
      have lot := lotsN_lot hlt.1
      refine ⟨_, rfl, _, rfl, q0, aE, dx, _, _, rfl, hq, EC.pc.cl, EC.nl, rfl, tl, _, rfl, .inr (.inl (.inl htl)), rfl, flat_ints _, _, rfl, iteBF (by show (!inV (.int (j : Nat)) (lt.map V.int)) = false; rw [hasB_in, hpd.1]; rfl) ?_⟩
      refine ⟨_, rfl, _, rfl, q0, aE, dx, _, _, rfl, hq, EC.pc.cl, EC.nl, rfl, l, tl, ls, lt, rfl, W10.hl, htl, l8, lot, fun H11 s11 => ⟨_, _, rfl, rfl, _, rfl, iteBF (decide_eq_false (by have := hpd.2.1; omega)) ?_⟩⟩
      have W11 := W10.same s11
      have k11 := k10.ext (ExtN.of s11)
      refine ⟨_, rfl, _, rfl, _, rfl, _, _, rfl, rfl, l, ls, j, _, rfl, W11.hl, hj, l8, fun t6 He se nte hte => ?_⟩
      refine ⟨_, rfl, q0, aE, dx, _, _, rfl, se _ _ (s11 _ _ hq), EC.pc.cl, EC.nl, rfl, t6, tl, _, lt, rfl, hte, se _ _ (s11 _ _ htl), by rw [wlen]; exact l8, by rw [wlen]; exact lot, fun Hf sf => ⟨_, _, rfl, rfl, _, rfl, ?_⟩⟩
      have gp := with_gap (v := ls.getD j 0 - d - 1) hj lot
      rw [hpd.1, if_pos rfl] at gp
      refine iteBF (decide_eq_false (by have := hpd.2.2; omega)) ?_
      have sef := se.trans sf
      have W12 := W11.same sef
      refine ⟨_, rfl, _, rfl, _, rfl, _, rfl, _, rfl, p, r, l, q0, e, ls, j, n, d, o, .ref tl, vh, some lt, oh, rfl, W12.pen, by omega, W12.ra, W12.hl, lp, er, hj, W12.sr, W12.tab, fun H' k' pen' tab' => ?_⟩
      exact q H' ((k11.ext (ExtN.of sef)).trans k') pen' tab'
end
end K
namespace K
open PySem L2 Rg LamX
open Evl (pss_cut)
/-- what is no ring, as the law draws it -/
def OddV (H : Hp) (v : V) : Prop := v = .non ∨ v = .int 5 ∨ (∃ y, v = .str y) ∨ ∃ (o : Addr) (xs : List V), v = .ref o ∧ H o = some (.lst xs)
theorem OddV.ext {H H' : Hp} {v : V} (h : OddV H v) (e : ExtN H H') (k : ∀ o xs, v = .ref o → H o = some (.lst xs) → H' o = some (.lst xs)) : OddV H' v := by
  rcases h with h | h | h | ⟨o, xs, h1, h2⟩
  · exact .inl h
  · exact .inr (.inl h)
  · exact .inr (.inr (.inl h))
  · exact .inr (.inr (.inr ⟨o, xs, h1, k o xs h1 h2⟩))
structure NoC (K : PySem.W.Frag) (C : Addr) : Prop where
  non : PySem.W.kitOne K (.type "NoneType") (.ref C) = some false
  int : PySem.W.kitOne K (.type "int") (.ref C) = some false
  str : PySem.W.kitOne K (.type "str") (.ref C) = some false
  list : PySem.W.kitOne K (.type "list") (.ref C) = some false
theorem OddV.no {K : PySem.W.Frag} {C : Addr} {H : Hp} {v : V} (h : OddV H v) (N : NoC K C) : NoR K C H v := by
  rcases h with rfl | rfl | ⟨y, rfl⟩ | ⟨o, xs, rfl, h2⟩
  · exact ⟨_, .base .non, N.non⟩
  · exact ⟨_, .base (.int 5), N.int⟩
  · exact ⟨_, .base (.str _), N.str⟩
  · exact ⟨_, .base (.lst h2), N.list⟩
/-! ### data that can be laid and is like itself -/
structure Good (n : Nat) (d : PyData) : Prop where
  lay : d.canLay0 = true
  deep : d.depth ≤ n
  eqv : PyData.eqv d d = true
theorem good_all {n : Nat} : ∀ {ds : List PyData}, (∀ d ∈ ds, Good n d) → PyData.canLayAll0 ds = true ∧ PyData.depthAll ds ≤ n ∧ PyData.eqvAll ds ds = true
  | [], _ => ⟨by simp [PyData.canLayAll0], by simp [PyData.depthAll], by simp [PyData.eqvAll]⟩
  | d :: ds, h => by
    have a := h d (List.mem_cons_self ..)
    obtain ⟨c1, c2, c3⟩ := good_all fun x hx => h x (List.mem_cons_of_mem _ hx)
    have := a.deep
    exact ⟨by simp [PyData.canLayAll0, a.lay, c1], by simp only [PyData.depthAll]; omega, by simp [PyData.eqvAll, a.eqv, c3]⟩
theorem Good.tup {n : Nat} {ds : List PyData} (h : ∀ d ∈ ds, Good n d) : Good (n + 1) (.tuple ds) := by
  obtain ⟨c1, c2, c3⟩ := good_all h
  exact ⟨by simp [PyData.canLay0, c1], by simp only [PyData.depth]; omega, by simp [PyData.eqv, c3]⟩
theorem Good.lst {n : Nat} {ds : List PyData} (h : ∀ d ∈ ds, Good n d) : Good (n + 1) (.list ds) := by
  obtain ⟨c1, c2, c3⟩ := good_all h
  exact ⟨by simp [PyData.canLay0, c1], by simp only [PyData.depth]; omega, by simp [PyData.eqv, c3]⟩
theorem Good.up {n m : Nat} {d : PyData} (h : Good n d) (l : n ≤ m) : Good m d := ⟨h.lay, Nat.le_trans h.deep l, h.eqv⟩
theorem Good.shaped {n : Nat} {d : PyData} (h : Good n d) (hn : n ≤ 64) : SeqAt.shaped d = true := by
  have := h.deep
  simp [SeqAt.shaped, h.lay]
  omega
theorem Good.int {n : Nat} (i : Int) : Good n (.int i) := ⟨by simp [PyData.canLay0], by simp [PyData.depth], by simp [PyData.eqv]⟩
theorem Good.non {n : Nat} : Good n .none := ⟨by simp [PyData.canLay0], by simp [PyData.depth], by simp [PyData.eqv]⟩
theorem Good.bool {n : Nat} (b : Bool) : Good n (.bool b) := ⟨by simp [PyData.canLay0], by simp [PyData.depth], by simp [PyData.eqv]⟩
theorem Good.str {n : Nat} (z : Str) (h : PyData.strOk z = true) : Good n (.str z) := ⟨by simp [PyData.canLay0, h], by simp [PyData.depth], by simp [PyData.eqv]⟩
theorem Good.ints {n : Nat} (l : List Int) : Good (n + 1) (.tuple (l.map PyData.int)) := Good.tup fun d hd => by
  obtain ⟨i, _, rfl⟩ := List.mem_map.mp hd
  exact Good.int i
/-! ### what is no bar, as the law draws it -/
def BadV (n : Nat) (H : Hp) (v : V) : Prop := v = .non ∨ v = .int (-1) ∨ v = .int (n : Nat) ∨ v = .bl true ∨ v = .str "0" ∨ ∃ t, v = .ref t ∧ H t = some (.tup [.int 0])
theorem BadV.kp {n : Nat} {p : Addr} {px : List V} {H H' : Hp} {v : V} (h : BadV n H v) (k : Kp p H H') (hp : H p = some (.lst px)) : BadV n H' v := by
  rcases h with h | h | h | h | h | ⟨t, e, q⟩
  · exact .inl h
  · exact .inr (.inl h)
  · exact .inr (.inr (.inl h))
  · exact .inr (.inr (.inr (.inl h)))
  · exact .inr (.inr (.inr (.inr (.inl h))))
  · exact .inr (.inr (.inr (.inr (.inr ⟨t, e, k.tup hp q⟩))))
theorem BadV.ext {n : Nat} {H H' : Hp} {v : V} (h : BadV n H v) (s : ExtN H H') : BadV n H' v := by
  rcases h with h | h | h | h | h | ⟨t, e, q⟩
  · exact .inl h
  · exact .inr (.inl h)
  · exact .inr (.inr (.inl h))
  · exact .inr (.inr (.inr (.inl h)))
  · exact .inr (.inr (.inr (.inr (.inl h))))
  · exact .inr (.inr (.inr (.inr (.inr ⟨t, e, s _ _ q (fun _ z => nomatch z)⟩))))
theorem BadV.no {K : PySem.W.Frag} {n : Nat} {H : Hp} {v : V} (h : BadV n H v) : ∃ k, KndI K H v k ∧ winB k 0 ((n : Nat) - 1) v = false := by
  rcases h with rfl | rfl | rfl | rfl | rfl | ⟨t, rfl, q⟩
  · exact ⟨"NoneType", ⟨⟨.base .non, by decide⟩, fun z => absurd z (by decide)⟩, by show (decide (("NoneType" : String) = "int") && false) = false; decide⟩
  · refine ⟨"int", ⟨Knd.int, fun _ => ⟨_, rfl⟩⟩, ?_⟩
    show (true && (decide ((0 : Int) ≤ -1) && _)) = false
    rfl
  · refine ⟨"int", ⟨Knd.int, fun _ => ⟨_, rfl⟩⟩, ?_⟩
    show (true && (decide ((0 : Int) ≤ (n : Int)) && decide ((n : Int) ≤ (n : Int) - 1))) = false
    rw [decide_eq_false (by omega : ¬ (n : Int) ≤ (n : Int) - 1), Bool.and_false, Bool.and_false]
  · exact ⟨"bool", ⟨⟨.base (.bl true), by decide⟩, fun z => absurd z (by decide)⟩, by show (decide (("bool" : String) = "int") && false) = false; decide⟩
  · exact ⟨"str", ⟨⟨.base (.str _), by decide⟩, fun z => absurd z (by decide)⟩, by show (decide (("str" : String) = "int") && false) = false; decide⟩
  · exact ⟨"tuple", ⟨⟨.base (.tup q), by decide⟩, fun z => absurd z (by decide)⟩, by show (decide (("tuple" : String) = "int") && false) = false; decide⟩
theorem BadV.data {n : Nat} {H : Hp} {v : V} (h : BadV n H v) : ∃ d, Good 1 d ∧ ∀ {K : PySem.W.Frag} {H' : Hp}, ExtN H H' → Dp K H' v d := by
  rcases h with rfl | rfl | rfl | rfl | rfl | ⟨t, rfl, q⟩
  · exact ⟨.none, Good.non, fun _ => .non⟩
  · exact ⟨.int (-1), Good.int _, fun _ => .int _⟩
  · exact ⟨.int (n : Nat), Good.int _, fun _ => .int _⟩
  · exact ⟨.bool true, Good.bool _, fun _ => .bl _⟩
  · exact ⟨.str "0", Good.str _ (by decide +kernel), fun _ => .str _⟩
  · exact ⟨.tuple ([0].map PyData.int), Good.ints _, fun s => .tup (.inl (.inl (s _ _ q (fun _ z => nomatch z)))) (dp_ints [0])⟩
/-! ### the level ring -/
abbrev evL : List Int := [2, 1, 2, 1]
theorem ev_lv : levelB evL = true ∧ Bd 1000000 evL := by
  refine ⟨by decide +kernel, fun x hx => ?_⟩
  simp only [evL, List.mem_cons, List.not_mem_nil, or_false] at hx
  rcases hx with rfl | rfl | rfl | rfl <;> decide
theorem first_of {es l0 : List Int} {n : Nat} (hn : es.length = n) {M : List (List Int)} (pm : M.Perm ((lotsN n).filter (levB es))) (od : M.Pairwise fun u v => HT.lexLt (lotK v) (lotK u) = false) (h : ∀ L, AllL es.length L → (L.filter (levB es))[0]? = some l0) : M[0]? = some l0 := by
  subst hn
  obtain ⟨L, aL⟩ := allL_ex es.length
  rw [aL.filter pm od]
  exact h L aL
theorem ev_first {l0 : List Int} (h : ∀ L, AllL evL.length L → (L.filter (levB evL))[0]? = some l0) : l0 = [0, 1] := by
  have := first_of (n := 4) rfl (M := [[0, 1], [0, 3], [1, 2], [2, 3]]) (by decide +kernel) (by decide +kernel) h
  exact (Option.some.inj this).symm
/-! ### the state of the law -/
structure FW (K : PySem.W.Frag) (T : List (Addr × Str)) (p : Addr) (e : Addr × List Int) (l : Addr) (ls : List Int) (n : Nat) (H : Hp) : Prop where
  tab : Tabs T H
  hl : H l = some (.lst (ls.map V.int))
  lp : l ≠ p
  pen : PenAt K H p e n
section
variable {K : PySem.W.Frag} {p l : Addr} {T : List (Addr × Str)} {e : Addr × List Int} {ls : List Int} {n m : Nat} {H H' : Hp}
theorem FW.kp (h : FW K T p e l ls n H) (k : Kp p H H') (tab : Tabs T H') (pen : PenAt K H' p e m) : FW K T p e l ls m H' := ⟨tab, k _ _ h.hl h.lp (fun _ z => nomatch z), h.lp, pen⟩
theorem FW.ext (h : FW K T p e l ls n H) (s : ExtN H H') (tab : Tabs T H') : FW K T p e l ls n H' := h.kp (Kp.of s) tab (h.pen.ext s)
theorem FW.same (h : FW K T p e l ls n H) (s : Same H H') : FW K T p e l ls n H' := h.ext (ExtN.of s) (h.tab.ext s)
theorem FW.but (h : FW K T p e l ls n H) (b : But p H H') (pen : PenAt K H' p e m) : FW K T p e l ls m H' := by
  obtain ⟨px, hp⟩ := h.pen.some
  exact h.kp ((Kp.refl p H).but b) (tabs_but h.tab b hp) pen
end
/-- what stands while it is heard -/
structure HW (K : PySem.W.Frag) (T : List (Addr × Str)) (C aE l : Addr) (ls : List Int) (r : Addr) (bad : V) (j : Nat) (q0 : Addr) (d : Int) (o : Option Int) (vl vh : V) (ol oh : Option (List Int)) (H : Hp) : Prop where
  tab : Tabs T H
  hl : H l = some (.lst (ls.map V.int))
  ra : RingAt K C H r evL
  bd : BadV ls.length H bad
  sr : SlackR aE H ls j q0 d o vl vh ol oh
section
variable {K : PySem.W.Frag} {C aE l r q0 : Addr} {T : List (Addr × Str)} {ls : List Int} {bad : V} {j : Nat} {d : Int} {o : Option Int} {vl vh : V} {ol oh : Option (List Int)} {H H' : Hp}
theorem HW.ext (h : HW K T C aE l ls r bad j q0 d o vl vh ol oh H) (s : ExtN H H') (tab : Tabs T H') : HW K T C aE l ls r bad j q0 d o vl vh ol oh H' := ⟨tab, s _ _ h.hl (fun _ z => nomatch z), (by obtain ⟨dx, t, a, b, o, c, d⟩ := h.ra; exact ⟨dx, t, s _ _ a (fun _ q => nomatch q), .inl (.inr ⟨o, s _ _ c (fun _ q => nomatch q)⟩), o, s _ _ c (fun _ q => nomatch q), d⟩), h.bd.ext s, h.sr.ext s⟩
theorem HW.same (h : HW K T C aE l ls r bad j q0 d o vl vh ol oh H) (s : Same H H') : HW K T C aE l ls r bad j q0 d o vl vh ol oh H' := h.ext (ExtN.of s) (h.tab.ext s)
theorem HW.grow {g : Addr} {xs ys : List V} (h : HW K T C aE l ls r bad j q0 d o vl vh ol oh H) (hg : H g = some (.lst xs)) (nl : l ≠ g) : HW K T C aE l ls r bad j q0 d o vl vh ol oh (upd H g (.lst ys)) := by
  have b : But g H (upd H g (.lst ys)) := (But.refl g H).at
  have k := (Kp.refl g H).but b
  exact ⟨tabs_but h.tab b hg, b _ _ nl h.hl, h.ra.kp k hg, h.bd.kp k hg, h.sr.kp k hg⟩
end
section
variable {P : Program} {w : World} {K : PySem.W.Frag} {mg : Str → Option Value} {base : Heap}
abbrev nLaw : List Str := ["_law_script", "_law_reel_here", "_law_many", "_law_lengths_here", "_law_bar", "_law_step", "_law_mine", "_law_its", "_law_even", "_law_odd", "_law_bad", "_law_heard_here"]
theorem scLaw : FnScope nLaw ["_law_script"] (defScope sLaw) := ⟨rfl, rfl, rfl, by decide +kernel, rfl, by decide +kernel, by decide +kernel⟩
def spLaw (K : PySem.W.Frag) (P1 P2 : Addr) : Sp := fun vs H Q _ => ∃ (a : Addr) (ns : List Int), vs = [.ref a] ∧ SqL K H a (ns.map V.int) ∧ ns.length ≤ 63 ∧ Tabs (T2 P1 P2) H ∧ ∀ H', Q (.bl true) H'
theorem ok_law {C aE cR cN cM cB cV eR cd P1 P2 f fP fK fD fLR fSR fA fS fH fR fBg : Addr} {fd fdP fdK fdD fdLR fdSR fdA fdS fdH fdR fdBg : FuncData} (F : FunC K "law" "law" sLaw f fd cd) (T : Bi mg)
    (PN : DefAt P w K mg base CX0 2 "_law_reel" ["_law_script"] (spPen K) fP fdP) (PK : DefAt P w K mg base CX0 3 "_law_pick" ["_law_reel_here", "_law_some"] (spPick K) fK fdK)
    (D : DrawAt P w K mg base fD fdD) (LR : DefAt P w K mg base CX0 5 "_law_ring" ["_law_reel_here", "_law_many"] (spLR K) fLR fdLR) (SR : DefAt P w K mg base CX0 13 "_law_slack_right" ["_law_reel_here", "_law_lengths_here", "_law_bar"] (spSR K (T2 P1 P2)) fSR fdSR)
    (SL : DefAt P w K mg base CX0 11 "slack" ["ring", "bar"] (spSLc K C aE (T2 P1 P2)) fA fdA) (E0A : DefAt P w K mg base (L2.CX P w) 11 "slack" ["ring", "bar"] (spSL K C cR cN cV aE (T2 P1 P2)) fA fdA) (E0S : DefAt P w K mg base (L2.CX P w) 11 "shows_slack" ["ring", "bar", "value"] (spSH K C cR cN cV aE (T2 P1 P2)) fS fdS)
    (BG : MethV P w K mg base C "begun_at" ["self", "bar"] (_root_.K.T.spBegun K C) fBg fdBg) (G : RingP P w K mg base C fR fdR) (RG : RingC K mg C) (EC : SlackC K mg aE) (NC : NoC K C)
    (Hc : HeardC K mg cR cB cM cN cV eR) (TB : TabB base mg cd P1) (hmT : (P1, qLaw) ∈ T2 P1 P2) (hu : ∀ p ∈ T2 P1 P2, p.1 = P1 → p.2 = qLaw)
    (FH : Fun K "_law_heard" "_law_heard" sLwHeard fH fdH) (BH : Binds K fdH ["_law_ask"] []) (GH : mg "_law_heard" = some (.ref fH)) : FnOk P w K mg base CX0 14 f fd ["_law_script"] (spLaw K P1 P2) := by
  refine F.ok scLaw (fun vs H Q E h => ?_) (fun A outer s H vs Q E hr h => ?_)
  · obtain ⟨a, ns, rfl, _⟩ := h
    rfl
  · have nd := scLaw.nd
    obtain ⟨oc, od, kV, doc, pm, an, cdv, ct, osl, rfl, lk, hcd⟩ := FH.ex
    refine ⟨_, (pss_cons (ps_set (i := 1) nd rfl (Or.inl rfl) (pe_call PN.ok (hr.mono (by decide)) rfl PN.g PN.kp PN.b .nil pass0 (pa_cons (pv 0) pa_nil)))
      (pss_cons (ps_set (i := 2) nd rfl (Or.inl rfl) (pe_call PK.ok (hr.mono (by decide)) rfl PK.g PK.kp PK.b .nil pass0 (pa_cons (pv 1) (pa_cons (pe_lst (pa_cons pe_int (pa_cons pe_int (pa_cons pe_int (pa_cons pe_int (pa_cons pe_int (pa_cons pe_int (pa_cons pe_int (pa_cons pe_int pa_nil))))))))) pa_nil))))
      (pss_cons (ps_set (i := 3) nd rfl (Or.inr rfl) (pe_call LR.ok (hr.mono (by decide)) rfl LR.g LR.kp LR.b .nil pass0 (pa_cons (pv 1) (pa_cons (pv 2) pa_nil))))
      (pss_cons (ps_set (i := 4) nd rfl (Or.inl rfl) (pe_call D.ok (hr.mono (by decide)) rfl D.g D.kp D.b .nil pass0 (pa_cons (pv 1) (pa_cons (pv 2) pa_nil))))
      (pss_cons (ps_if (PW.pt (pw_or (pt_not (pt_val (pe_call SR.ok (hr.mono (by decide)) rfl SR.g SR.kp SR.b .nil pass0 (pa_cons (pv 1) (pa_cons (pv 3) (pa_cons (pv 4) pa_nil)))))) (pw_or1 (pt_not (pt_val (pe_call SR.ok (hr.mono (by decide)) rfl SR.g SR.kp SR.b .nil pass0 (pa_cons (pv 1) (pa_cons (pv 3) (pa_cons (pe_call D.ok (hr.mono (by decide)) rfl D.g D.kp D.b .nil pass0 (pa_cons (pv 1) (pa_cons (pv 2) pa_nil))) pa_nil))))))))) (pss_one ps_never) pss_nil)
      (pss_cons (ps_set (i := 5) nd rfl (Or.inl rfl) (pe_call D.ok (hr.mono (by decide)) rfl D.g D.kp D.b .nil pass0 (pa_cons (pv 1) (pa_cons (pv 2) pa_nil))))
      (pss_cons (ps_asg (pe_tup (pa_cons (pe_call SL.ok (hr.mono (by decide)) rfl SL.g SL.kp SL.b .nil pass0 (pa_cons (pe_make G.made G.ok (hr.mono (by decide)) (by rfl) RG.g G.b .nil pass0 (pa_cons (pv 3) pa_nil)) (pa_cons (pv 4) pa_nil))) (pa_cons (pe_call SL.ok (hr.mono (by decide)) rfl SL.g SL.kp SL.b .nil pass0 (pa_cons (pe_meth (pe_make G.made G.ok (hr.mono (by decide)) (by rfl) RG.g G.b .nil pass0 (pa_cons (pv 3) pa_nil)) RG.cl BG.m BG.ok (hr.mono (by decide)) BG.b .nil pass0 (pa_cons (pv 5) pa_nil)) (pa_cons (pe_op op_mod (pe_callTy call_int1 (by rfl) T.int (by decide +kernel) (pa_cons (pe_op op_sub (pv 4) (pv 5)) pa_nil)) (pv 2)) pa_nil))) pa_nil))) (pg_tup (by rfl) (pgs_cons (pg_name (i := 6) nd rfl (Or.inr rfl)) (pgs_cons (pg_name (i := 7) nd rfl (Or.inl rfl)) pgs_nil))))
      (pss_cons (ps_if (pt_cmpR (op_neD hr.units) (pe_tup (pa_cons (pe_fld (pv 6) rfl) (pa_cons (pe_fld (pv 6) rfl) pa_nil))) (pe_tup (pa_cons (pe_fld (pv 7) rfl) (pa_cons (pe_fld (pv 7) rfl) pa_nil))) (nomark _)) (pss_one ps_never) pss_nil)
      (pss_cons (ps_set (i := 8) nd rfl (Or.inr rfl) (pe_make G.made G.ok (hr.mono (by decide)) (by rfl) RG.g G.b .nil pass0 (pa_cons (pe_lst (pa_cons pe_int (pa_cons pe_int (pa_cons pe_int (pa_cons pe_int pa_nil))))) pa_nil)))
      (pss_cons (ps_asg (pe_tup (pa_cons (pe_call PK.ok (hr.mono (by decide)) rfl PK.g PK.kp PK.b .nil pass0 (pa_cons (pv 1) (pa_cons (pe_lst (pa_cons pe_non (pa_cons pe_int (pa_cons (pv 3) (pa_cons pe_str pa_nil))))) pa_nil))) (pa_cons (pe_call PK.ok (hr.mono (by decide)) rfl PK.g PK.kp PK.b .nil pass0 (pa_cons (pv 1) (pa_cons (pe_lst (pa_cons pe_non (pa_cons (pe_un un_neg pe_int) (pa_cons (pv 2) (pa_cons pe_bl (pa_cons pe_str (pa_cons (pe_tup (pa_cons pe_int pa_nil)) pa_nil))))))) pa_nil))) pa_nil))) (pg_tup (by rfl) (pgs_cons (pg_name (i := 9) nd rfl (Or.inr rfl)) (pgs_cons (pg_name (i := 10) nd rfl (Or.inr rfl)) pgs_nil))))
      (pss_cons (ps_set (i := 11) nd rfl (Or.inl rfl) (pe_lst (pa_cons (pe_lamcall (T := T2 P1 P2) (TT := (THeard cR "ring" "part")) (a := "_law_ask") (g := fH) (c := cd) (P := P1) (k := 11) (Ng := nHeard) rfl GH FH.kp lk hcd BH scHeard rfl (Or.inl rfl) (heard_ring T Hc) TB rfl hmT hu (hr.mono (by decide)) (lamS_by (sc := defScope sLaw) (by decide +kernel)) rfl (fun _ _ _ _ _ => rfl) (fun A outer s H E f c' hr' => (pe_call E0A.ok hr' rfl E0A.g E0A.kp E0A.b .nil (passes_call (takes_of rfl rfl rfl rfl) (fun _ _ _ _ h => h)) (pa_cons (pv 9) (pa_cons (pv 10) pa_nil))))) pa_nil)))
      (pss_cons (ps_expr (pe_bm PySem.F.plainAttrs_list PySem.F.slot_list_append PySem.F.type_list_append mt_append (pv 11) (pa_cons (pe_lamcall (T := T2 P1 P2) (TT := (THeard cN "bar" "value")) (a := "_law_ask") (g := fH) (c := cd) (P := P1) (k := 11) (Ng := nHeard) rfl GH FH.kp lk hcd BH scHeard rfl (Or.inl rfl) (heard_bar T Hc) TB rfl hmT hu (hr.mono (by decide)) (lamS_by (sc := defScope sLaw) (by decide +kernel)) rfl (fun _ _ _ _ _ => rfl) (fun A outer s H E f c' hr' => (pe_call E0A.ok hr' rfl E0A.g E0A.kp E0A.b .nil (passes_call (takes_of rfl rfl rfl rfl) (fun _ _ _ _ h => h)) (pa_cons (pe_make G.made G.ok (hr'.mono (by decide)) (by rfl) RG.g G.b .nil pass0 (pa_cons (pv 3) pa_nil)) (pa_cons (pv 10) pa_nil))))) pa_nil)))
      (pss_cons (ps_expr (pe_bm PySem.F.plainAttrs_list PySem.F.slot_list_append PySem.F.type_list_append mt_append (pv 11) (pa_cons (pe_lamcall (T := T2 P1 P2) (TT := (THeard cN "bar" "value")) (a := "_law_ask") (g := fH) (c := cd) (P := P1) (k := 11) (Ng := nHeard) rfl GH FH.kp lk hcd BH scHeard rfl (Or.inl rfl) (heard_bar T Hc) TB rfl hmT hu (hr.mono (by decide)) (lamS_by (sc := defScope sLaw) (by decide +kernel)) rfl (fun _ _ _ _ _ => rfl) (fun A outer s H E f c' hr' => (pe_call E0A.ok hr' rfl E0A.g E0A.kp E0A.b .nil (passes_call (takes_of rfl rfl rfl rfl) (fun _ _ _ _ h => h)) (pa_cons (pv 8) (pa_cons pe_int pa_nil))))) pa_nil)))
      (pss_cons (ps_expr (pe_bm PySem.F.plainAttrs_list PySem.F.slot_list_append PySem.F.type_list_append mt_append (pv 11) (pa_cons (pe_lamcall (T := T2 P1 P2) (TT := (THeard cV "level" "lot")) (a := "_law_ask") (g := fH) (c := cd) (P := P1) (k := 11) (Ng := nHeard) rfl GH FH.kp lk hcd BH scHeard rfl (Or.inl rfl) (heard_level T Hc) TB rfl hmT hu (hr.mono (by decide)) (lamS_by (sc := defScope sLaw) (by decide +kernel)) rfl (fun _ _ _ _ _ => rfl) (fun A outer s H E f c' hr' => (pe_call E0A.ok hr' rfl E0A.g E0A.kp E0A.b .nil (passes_call (takes_of rfl rfl rfl rfl) (fun _ _ _ _ h => h)) (pa_cons (pv 8) (pa_cons pe_int pa_nil))))) pa_nil)))
      (pss_cons (ps_expr (pe_bm PySem.F.plainAttrs_list PySem.F.slot_list_append PySem.F.type_list_append mt_append (pv 11) (pa_cons (pe_lamcall (T := T2 P1 P2) (TT := (THeard cR "ring" "part")) (a := "_law_ask") (g := fH) (c := cd) (P := P1) (k := 11) (Ng := nHeard) rfl GH FH.kp lk hcd BH scHeard rfl (Or.inl rfl) (heard_ring T Hc) TB rfl hmT hu (hr.mono (by decide)) (lamS_by (sc := defScope sLaw) (by decide +kernel)) rfl (fun _ _ _ _ _ => rfl) (fun A outer s H E f c' hr' => (pe_call E0S.ok hr' rfl E0S.g E0S.kp E0S.b .nil (passes_call (takes_of rfl rfl rfl rfl) (fun _ _ _ _ h => h)) (pa_cons (pv 9) (pa_cons (pv 10) (pa_cons pe_non pa_nil)))))) pa_nil)))
      (pss_cons (ps_expr (pe_bm PySem.F.plainAttrs_list PySem.F.slot_list_append PySem.F.type_list_append mt_append (pv 11) (pa_cons (pe_lamcall (T := T2 P1 P2) (TT := (THeard cN "bar" "value")) (a := "_law_ask") (g := fH) (c := cd) (P := P1) (k := 11) (Ng := nHeard) rfl GH FH.kp lk hcd BH scHeard rfl (Or.inl rfl) (heard_bar T Hc) TB rfl hmT hu (hr.mono (by decide)) (lamS_by (sc := defScope sLaw) (by decide +kernel)) rfl (fun _ _ _ _ _ => rfl) (fun A outer s H E f c' hr' => (pe_call E0S.ok hr' rfl E0S.g E0S.kp E0S.b .nil (passes_call (takes_of rfl rfl rfl rfl) (fun _ _ _ _ h => h)) (pa_cons (pe_make G.made G.ok (hr'.mono (by decide)) (by rfl) RG.g G.b .nil pass0 (pa_cons (pv 3) pa_nil)) (pa_cons (pv 10) (pa_cons (pv 6) pa_nil)))))) pa_nil)))
      (pss_cons (ps_expr (pe_bm PySem.F.plainAttrs_list PySem.F.slot_list_append PySem.F.type_list_append mt_append (pv 11) (pa_cons (pe_lamcall (T := T2 P1 P2) (TT := (THeard cN "bar" "value")) (a := "_law_ask") (g := fH) (c := cd) (P := P1) (k := 11) (Ng := nHeard) rfl GH FH.kp lk hcd BH scHeard rfl (Or.inl rfl) (heard_bar T Hc) TB rfl hmT hu (hr.mono (by decide)) (lamS_by (sc := defScope sLaw) (by decide +kernel)) rfl (fun _ _ _ _ _ => rfl) (fun A outer s H E f c' hr' => (pe_call E0S.ok hr' rfl E0S.g E0S.kp E0S.b .nil (passes_call (takes_of rfl rfl rfl rfl) (fun _ _ _ _ h => h)) (pa_cons (pv 8) (pa_cons pe_int (pa_cons pe_non pa_nil)))))) pa_nil)))
      (pss_cons (ps_expr (pe_bm PySem.F.plainAttrs_list PySem.F.slot_list_append PySem.F.type_list_append mt_append (pv 11) (pa_cons (pe_lamcall (T := T2 P1 P2) (TT := (THeard cV "level" "lot")) (a := "_law_ask") (g := fH) (c := cd) (P := P1) (k := 11) (Ng := nHeard) rfl GH FH.kp lk hcd BH scHeard rfl (Or.inl rfl) (heard_level T Hc) TB rfl hmT hu (hr.mono (by decide)) (lamS_by (sc := defScope sLaw) (by decide +kernel)) rfl (fun _ _ _ _ _ => rfl) (fun A outer s H E f c' hr' => (pe_call E0S.ok hr' rfl E0S.g E0S.kp E0S.b .nil (passes_call (takes_of rfl rfl rfl rfl) (fun _ _ _ _ h => h)) (pa_cons (pv 8) (pa_cons pe_int (pa_cons pe_non pa_nil)))))) pa_nil)))
      (pss_one (ps_ret (pe_cmpR (op_eqD hr.units) (pv 11) (pe_op op_rep (pe_lst (pa_cons (pe_tup (pa_cons pe_str (pa_cons pe_str pa_nil))) (pa_cons (pe_tup (pa_cons pe_str (pa_cons (pv 10) pa_nil))) (pa_cons (pe_tup (pa_cons pe_str (pa_cons pe_int pa_nil))) (pa_cons (pe_tup (pa_cons pe_str (pa_cons (pe_tup (pa_cons pe_int (pa_cons pe_int pa_nil))) pa_nil))) pa_nil))))) pe_int) (nomark _)))))))))))))))))))))), ?_⟩
    obtain ⟨a, ns, rfl, hs, hl, tab, q⟩ := h
    refine ⟨_, rfl, a, ns, rfl, hs, hl, fun p e H1 s1 np pen1 => ?_⟩
    have tab1 := tab.ext s1
    -- how many
    refine ⟨_, rfl, (by show 8 ≤ sizeLine; decide), fun u0 nu0 => ?_⟩
    have pu1 := pen1.put nu0 (o := .lst [.int 5, .int 4, .int 6, .int 3, .int 5, .int 7, .int 4, .int 8])
    have tu1 := tab1.ext ((Same.refl H1).new nu0 (o := .lst [.int 5, .int 4, .int 6, .int 3, .int 5, .int 7, .int 4, .int 8]))
    refine ⟨p, u0, e, _, 0, rfl, SqL.of upd_same, (pen1.ne nu0), (by show 1 ≤ 8; decide), (by show 8 ≤ 1000; decide), by decide, pu1, fun i0 v0 H2 hv0 b2 pen2 => ?_⟩
    obtain ⟨px1, hpx1⟩ := pu1.some
    have tab2 := tabs_but tu1 b2 hpx1
    have hvm : ∃ m : Nat, v0 = .int (m : Nat) ∧ 3 ≤ m ∧ m ≤ 8 := by
      have hm := List.mem_of_getElem? hv0
      simp only [List.mem_cons, List.not_mem_nil, or_false] at hm
      rcases hm with z | z | z | z | z | z | z | z
      · exact ⟨5, z, by decide, by decide⟩
      · exact ⟨4, z, by decide, by decide⟩
      · exact ⟨6, z, by decide, by decide⟩
      · exact ⟨3, z, by decide, by decide⟩
      · exact ⟨5, z, by decide, by decide⟩
      · exact ⟨7, z, by decide, by decide⟩
      · exact ⟨4, z, by decide, by decide⟩
      · exact ⟨8, z, by decide, by decide⟩
    obtain ⟨m, rfl, m3, m8⟩ := hvm
    -- the lengths
    refine ⟨_, rfl, _, rfl, p, e, m, _, rfl, m3, m8, by decide, pen2, fun l ls H3 ll bd lv nl b3 hl3 pen3 => ?_⟩
    obtain ⟨px2, hpx2⟩ := pen2.some
    have W3 : FW K (T2 P1 P2) p e l ls 10 H3 := ⟨tabs_but tab2 b3 hpx2, hl3, pen2.ne nl, pen3⟩
    subst ll
    have lp := W3.lp
    have er : Er ls := ⟨by omega, by omega, bd, lv⟩
    have l3 := er.l3
    have l8 := er.l8
    clear tab2 pen3 hl3 tu1 pu1 pen2
    -- a bar
    refine ⟨_, rfl, _, rfl, p, e, _, _, rfl, by omega, by omega, by decide, W3.pen, fun rb H4 r00 r01 b4 pen4 => ?_⟩
    have W4 : FW K (T2 P1 P2) p e l ls 11 H4 := W3.but b4 pen4
    obtain ⟨j, rfl⟩ : ∃ j : Nat, rb = (j : Int) := ⟨rb.toNat, by omega⟩
    have hj : j < ls.length := by omega
    -- tried
    refine ⟨_, rfl, _, rfl, _, rfl, p, l, e, ls, j, _, rfl, W4.hl, lp, er, hj, by decide, W4.pen, W4.tab, fun H5 k5 pen5 tab5 => ⟨_, rfl, iteF ?_⟩⟩
    have W5 := W4.kp k5 tab5 pen5
    refine ⟨_, rfl, _, rfl, _, rfl, _, rfl, p, e, _, _, rfl, by omega, by omega, by decide, W5.pen, fun rc H6 r10 r11 b6 pen6 => ?_⟩
    have W6 : FW K (T2 P1 P2) p e l ls 13 H6 := W5.but b6 pen6
    obtain ⟨j2, rfl⟩ : ∃ j : Nat, rc = (j : Int) := ⟨rc.toNat, by omega⟩
    refine ⟨p, l, e, ls, j2, _, rfl, W6.hl, lp, er, by omega, by decide, W6.pen, W6.tab, fun H7 k7 pen7 tab7 => ⟨_, rfl, iteF ?_⟩⟩
    have W7 := W6.kp k7 tab7 pen7
    -- begun elsewhere
    refine ⟨_, rfl, _, rfl, p, e, _, _, rfl, by omega, by omega, by decide, W7.pen, fun rd H8 r20 r21 b8 pen8 => ?_⟩
    have W8 : FW K (T2 P1 P2) p e l ls 15 H8 := W7.but b8 pen8
    obtain ⟨st, rfl⟩ : ∃ j : Nat, rd = (j : Int) := ⟨rd.toNat, by omega⟩
    have hst : st < ls.length := by omega
    refine ⟨_, rfl, madeL2 W8.hl l3 l8 er.bd fun r1 H9 ra1 s9 nr1 => ⟨rfl, ?_⟩⟩
    have W9 := W8.same s9
    refine ⟨_, rfl, r1, j, ls, rfl, ra1, er, hj, W9.tab, fun q0 d o vl vh ol oh H10 e10 tab10 sr => ?_⟩
    have W10 := W9.ext e10 tab10
    refine ⟨_, rfl, madeL2 W10.hl l3 l8 er.bd fun r2 H11 ra2 s11 nr2 => ⟨rfl, ?_⟩⟩
    have W11 := W10.same s11
    obtain ⟨dr, tr, hr2, _⟩ := id ra2.weak
    refine ⟨r2, dr, _, rfl, hr2, rf_no _ _ (by decide +kernel) (by decide +kernel) (by decide +kernel) (by decide +kernel), _, rfl, r2, st, ls, rfl, ra2, l3, l8, er.bd, hst, fun r3 H12 ra3 s12 nr3 => ?_⟩
    have W12 := W11.same s12
    have M := rot_map hst hj
    have er3 : Er (rotL ls st) := M.er (rot_bd er.bd) er
    have hk : (j + (ls.length - st)) % ls.length < (rotL ls st).length := by rw [M.len]; exact Nat.mod_lt _ (by omega)
    refine ⟨_, rfl, _, rfl, _, _, rfl, rfl, .inl ⟨_, rfl, _, rfl, _, _, rfl, rfl, (by show (0 : Int) < (ls.length : Nat); omega), ?_⟩⟩
    refine ⟨r3, (j + (ls.length - st)) % ls.length, rotL ls st, (by rw [← bar_mod hst hj]; rfl), ra3, er3, hk, W12.tab, fun q1 d1 o1 vl1 vh1 ol1 oh1 H13 e13 tab13 sr1 => ?_⟩
    obtain rfl := sr1.dn.uniq (M.down sr.dn)
    obtain rfl := sr1.up.uniq (M.up sr.up)
    have W13 := W12.ext e13 tab13
    have sr13 := sr.ext (((ExtN.of s11).trans (ExtN.of s12)).trans e13)
    clear sr W3 W4 W5 W6 W7 W8 W9 W10 W11 W12 ra1 ra2 ra3
    refine ⟨(by show 2 ≤ sizeLine; decide), fun u1 nu1 => ⟨u1, _, rfl, .inl (.inl upd_same), rfl, _, _, rfl, _, _, rfl, rfl, ?_⟩⟩
    have s14 : Same H13 (upd H13 u1 (.tup [.ref q0, .ref q1])) := (Same.refl H13).new nu1
    generalize upd H13 u1 (.tup [.ref q0, .ref q1]) = H14 at s14 ⊢
    have W14 := W13.same s14
    have sr14 := sr13.ext (ExtN.of s14)
    have srb := sr1.ext (ExtN.of s14)
    obtain ⟨dx, t, hq0, _⟩ := id sr14.pp
    obtain ⟨dy, t', hq1, _⟩ := id srb.pp
    refine ⟨_, rfl, q0, aE, dx, _, _, rfl, hq0, EC.pc.cl, EC.nd, rfl, _, rfl, q0, aE, dx, _, _, rfl, hq0, EC.pc.cl, EC.nu, rfl, (by show 2 ≤ sizeLine; decide), fun p1 n1 => ?_⟩
    have s15 : Same H14 (upd H14 p1 (.tup [.int d1, oI o1])) := (Same.refl H14).new n1
    have y1 : upd H14 p1 (.tup [.int d1, oI o1]) p1 = some (.tup [.int d1, oI o1]) := upd_same
    generalize upd H14 p1 (.tup [.int d1, oI o1]) = H15 at s15 y1 ⊢
    have hq15 := s15 _ _ hq1
    refine ⟨_, rfl, q1, aE, dy, _, _, rfl, hq15, EC.pc.cl, EC.nd, rfl, _, rfl, q1, aE, dy, _, _, rfl, hq15, EC.pc.cl, EC.nu, rfl, (by show 2 ≤ sizeLine; decide), fun p2 n2 => ?_⟩
    have s16 : Same H15 (upd H15 p2 (.tup [.int d1, oI o1])) := (Same.refl H15).new n2
    have y2 : upd H15 p2 (.tup [.int d1, oI o1]) p2 = some (.tup [.int d1, oI o1]) := upd_same
    generalize upd H15 p2 (.tup [.int d1, oI o1]) = H16 at s16 y2 ⊢
    have f1 : FV H16 false 1 (.ref p1) (.tuple [.int d1, dO o1]) := FV.tup (s16 _ _ y1) (by show 2 ≤ 1000; decide) (.cons (FV.int _) (.cons (fv_oI _) .nil))
    have f2 : FV H16 false 1 (.ref p2) (.tuple [.int d1, dO o1]) := FV.tup y2 (by show 2 ≤ 1000; decide) (.cons (FV.int _) (.cons (fv_oI _) .nil))
    refine ⟨_, _, fv_dp f1, fv_dp f2, fv_shaped f1 (by decide), fv_shaped f2 (by decide), _, rfl, ?_⟩
    rw [(fv_good f1).2.2]
    refine iteF ?_
    have W16 := (W14.same s15).same s16
    have sr16 := sr14.ext (ExtN.of (s15.trans s16))
    clear W13 W14 sr13 sr14 srb sr1 f1 f2 y1 y2 tab13 tab10
    -- a level ring
    refine ⟨(by show 4 ≤ sizeLine; decide), fun o2 n2 => ?_⟩
    have s17 : Same H16 (upd H16 o2 (.lst (evL.map V.int))) := (Same.refl H16).new n2
    have v2 : upd H16 o2 (.lst (evL.map V.int)) o2 = some (.lst (evL.map V.int)) := upd_same
    refine madeL2 (ls := evL) v2 (by decide) (by decide) ev_lv.2 fun r H18 ra18 s18 nr => ⟨rfl, ?_⟩
    have s1718 := s17.trans s18
    have W18 := W16.same s1718
    have sr18 := sr16.ext (ExtN.of s1718)
    -- what is no ring
    refine ⟨_, rfl, _, rfl, (by show 4 ≤ sizeLine; decide), fun o5 n5 => ?_⟩
    have s19 : Same H18 (upd H18 o5 (.lst [.non, .int 5, .ref l, .str "3 2 2"])) := (Same.refl H18).new n5
    have v5 : upd H18 o5 (.lst [.non, .int 5, .ref l, .str "3 2 2"]) o5 = some (.lst [.non, .int 5, .ref l, .str "3 2 2"]) := upd_same
    have p5 := W18.pen.ne n5
    generalize upd H18 o5 (.lst [.non, .int 5, .ref l, .str "3 2 2"]) = H19 at s19 v5 ⊢
    have W19 := W18.same s19
    refine ⟨p, o5, e, _, _, rfl, SqL.of v5, p5, (by show 1 ≤ 4; decide), (by show 4 ≤ 1000; decide), by decide, W19.pen, fun i2 v H20 hv b20 pen20 => ?_⟩
    obtain ⟨px19, hpx19⟩ := W19.pen.some
    have W20 : FW K (T2 P1 P2) p e l ls 16 H20 := W19.but b20 pen20
    have k20 : Kp p H18 H20 := (Kp.of (ExtN.of s19)).but b20
    have hp18 := W18.pen.some.choose_spec
    have ra20 := ra18.kp k20 hp18
    have sr20 := sr18.kp k20 hp18
    have odd : v = .non ∨ v = .int 5 ∨ v = .ref l ∨ v = .str "3 2 2" := by
      have hm := List.mem_of_getElem? hv
      simpa only [List.mem_cons, List.not_mem_nil, or_false] using hm
    -- what is no bar
    refine ⟨_, rfl, _, rfl, _, rfl, (by show 1 ≤ sizeLine; decide), fun tu ntu => ⟨(by show 6 ≤ sizeLine; decide), fun o6 n6 => ?_⟩⟩
    have s21 : Same H20 (upd H20 tu (.tup [.int 0])) := (Same.refl H20).new ntu
    have vtu : upd H20 tu (.tup [.int 0]) tu = some (.tup [.int 0]) := upd_same
    have ptu := W20.pen.ne ntu
    generalize upd H20 tu (.tup [.int 0]) = H21 at s21 vtu n6 ⊢
    have s22 : Same H21 (upd H21 o6 (.lst [.non, .int (-1), .int (ls.length : Nat), .bl true, .str "0", .ref tu])) := (Same.refl H21).new n6
    have v6 : upd H21 o6 (.lst [.non, .int (-1), .int (ls.length : Nat), .bl true, .str "0", .ref tu]) o6 = some (.lst [.non, .int (-1), .int (ls.length : Nat), .bl true, .str "0", .ref tu]) := upd_same
    have p6 := W20.pen.ne (s21.free n6)
    generalize upd H21 o6 (.lst [.non, .int (-1), .int (ls.length : Nat), .bl true, .str "0", .ref tu]) = H22 at s22 v6 ⊢
    have s2022 := s21.trans s22
    have W22 := W20.same s2022
    refine ⟨p, o6, e, _, _, rfl, SqL.of v6, p6, (by show 1 ≤ 6; decide), (by show 6 ≤ 1000; decide), by decide, W22.pen, fun i3 bad H23 hv3 b23 pen23 => ?_⟩
    obtain ⟨px22, hpx22⟩ := W22.pen.some
    have W23 : FW K (T2 P1 P2) p e l ls 17 H23 := W22.but b23 pen23
    have k23 : Kp p H20 H23 := (Kp.of (ExtN.of s2022)).but b23
    have hp20 := W20.pen.some.choose_spec
    have bd23 : BadV ls.length H23 bad := by
      have hm := List.mem_of_getElem? hv3
      simp only [List.mem_cons, List.not_mem_nil, or_false] at hm
      rcases hm with z | z | z | z | z | z
      · exact .inl z
      · exact .inr (.inl z)
      · exact .inr (.inr (.inl z))
      · exact .inr (.inr (.inr (.inl z)))
      · exact .inr (.inr (.inr (.inr (.inl z))))
      · exact .inr (.inr (.inr (.inr (.inr ⟨tu, z, b23 _ _ ptu (s22 _ _ vtu)⟩))))
    have h23 : HW K (T2 P1 P2) C aE l ls r bad j q0 d1 o1 vl vh ol oh H23 := ⟨W23.tab, W23.hl, ra20.kp k23 hp20, bd23, sr20.kp k23 hp20⟩
    refine ⟨(by show 2 ≤ sizeLine; decide), fun u2 nu2 => ⟨u2, _, rfl, .inl (.inl upd_same), rfl, _, _, rfl, _, _, rfl, rfl, ?_⟩⟩
    have s24 : Same H23 (upd H23 u2 (.tup [v, bad])) := (Same.refl H23).new nu2
    generalize upd H23 u2 (.tup [v, bad]) = H24 at s24 ⊢
    have h0 := h23.same s24
    have no : ∀ {J : Hp}, HW K (T2 P1 P2) C aE l ls r bad j q0 d1 o1 vl vh ol oh J → NoR K C J v := fun {J} hw => by
      refine OddV.no (H := J) ?_ NC
      rcases odd with z | z | z | z
      · exact .inl z
      · exact .inr (.inl z)
      · exact .inr (.inr (.inr ⟨l, _, z, hw.hl⟩))
      · exact .inr (.inr (.inl ⟨_, z⟩))
    have four : KndI K H24 (.int 4) "int" := ⟨Knd.int, fun _ => ⟨_, rfl⟩⟩
    clear hp20 hp18 W23 W22 W20 W19 W18 v5 v6 vtu h23 bd23
    -- heard
    refine hear h0.tab (fun E' J Q' xJ tJ er' => ⟨_, rfl, _, rfl, v, bad, rfl, .inr ⟨no (h0.ext xJ tJ), er'⟩⟩) fun M1 r11 xM tM hr1 => ?_
    have h1 := h0.ext xM tM
    refine ⟨(by show 1 ≤ sizeLine; decide), fun g ng => ?_⟩
    have nlg : l ≠ g := ne_of_none h1.hl ng
    have sg : Same M1 (upd M1 g (.lst [.ref r11])) := (Same.refl M1).new ng
    have hg : upd M1 g (.lst [.ref r11]) g = some (.lst [.ref r11]) := upd_same
    generalize upd M1 g (.lst [.ref r11]) = N1 at sg hg ⊢
    have h1 := h1.same sg
    have hr1 := sg _ _ hr1
    refine ⟨_, rfl, .inl ⟨rfl, _, SqL.of hg⟩, ?_⟩
    refine hearG (v := bad) h1.tab (fun E' J Q' xJ tJ er' => ⟨_, rfl, madeL2 (h1.ext xJ tJ).hl l3 l8 er.bd fun r3 J2 ring sJ nr3 => ⟨rfl, _, rfl, .ref r3, bad, rfl, .inl ⟨r3, ls, rfl, ring, l3, l8, tJ.ext sJ, .inl (let ⟨k, kd, wb⟩ := ((h1.ext xJ tJ).same sJ).bd.no (K := K); ⟨k, kd, wb, Errs.later er' sJ⟩)⟩⟩⟩) fun M2 r12 xM tM hr2 => ?_
    have h2 := h1.ext xM tM
    have hr1 := xM _ _ hr1 (fun _ z => nomatch z)
    have hg := xM _ _ hg (fun _ z => nomatch z)
    have nt : ∀ {x : Addr} {its : List V}, M2 x = some (.tup its) → x ≠ g := fun z y => by rw [y, hg] at z; cases z
    refine ⟨g, _, _, rfl, rfl, hg, (by show 1 < sizeLine; decide), ?_⟩
    have h2 := h2.grow (ys := [.ref r11] ++ [.ref r12]) hg nlg
    have bg : But g M2 (upd M2 g (.lst ([.ref r11] ++ [.ref r12]))) := (But.refl g M2).at
    have hg2 : upd M2 g (.lst ([.ref r11] ++ [.ref r12])) g = some (.lst [.ref r11, .ref r12]) := upd_same
    have hr1 := bg _ _ (nt hr1) hr1
    have hr2 := bg _ _ (nt hr2) hr2
    clear hg nt
    have hg := hg2
    clear hg2
    generalize upd M2 g (.lst ([.ref r11] ++ [.ref r12])) = N2 at h2 bg hg hr1 hr2 ⊢
    clear bg
    refine ⟨_, rfl, .inl ⟨rfl, _, SqL.of hg⟩, ?_⟩
    refine hearG (v := .int 4) h2.tab (fun E' J Q' xJ tJ er' => ⟨_, rfl, .ref r, .int 4, rfl, .inl ⟨r, evL, rfl, (h2.ext xJ tJ).ra, by decide, by decide, tJ, .inl ⟨"int", ⟨Knd.int, fun _ => ⟨_, rfl⟩⟩, by decide, er'⟩⟩⟩) fun M3 r13 xM tM hr3 => ?_
    have h3 := h2.ext xM tM
    have hr1 := xM _ _ hr1 (fun _ z => nomatch z)
    have hr2 := xM _ _ hr2 (fun _ z => nomatch z)
    have hg := xM _ _ hg (fun _ z => nomatch z)
    have nt : ∀ {x : Addr} {its : List V}, M3 x = some (.tup its) → x ≠ g := fun z y => by rw [y, hg] at z; cases z
    refine ⟨g, _, _, rfl, rfl, hg, (by show 2 < sizeLine; decide), ?_⟩
    have h3 := h3.grow (ys := [.ref r11, .ref r12] ++ [.ref r13]) hg nlg
    have bg : But g M3 (upd M3 g (.lst ([.ref r11, .ref r12] ++ [.ref r13]))) := (But.refl g M3).at
    have hg2 : upd M3 g (.lst ([.ref r11, .ref r12] ++ [.ref r13])) g = some (.lst [.ref r11, .ref r12, .ref r13]) := upd_same
    have hr1 := bg _ _ (nt hr1) hr1
    have hr2 := bg _ _ (nt hr2) hr2
    have hr3 := bg _ _ (nt hr3) hr3
    clear hg nt
    have hg := hg2
    clear hg2
    generalize upd M3 g (.lst ([.ref r11, .ref r12] ++ [.ref r13])) = N3 at h3 bg hg hr1 hr2 hr3 ⊢
    clear bg
    refine ⟨_, rfl, .inl ⟨rfl, _, SqL.of hg⟩, ?_⟩
    refine hearL (ls := evL) h3.tab (fun E' J Q' xJ tJ er' => ⟨_, rfl, .ref r, .int 0, rfl, .inl ⟨r, evL, rfl, (h3.ext xJ tJ).ra, by decide, by decide, tJ, .inr ⟨0, rfl, by decide, .inr ⟨ev_lv.1, er'⟩⟩⟩⟩) fun M4 r14 u14 l14 xM tM hr4 hu4 hall => ?_
    obtain rfl := ev_first hall
    have h4 := h3.ext xM tM
    have hr1 := xM _ _ hr1 (fun _ z => nomatch z)
    have hr2 := xM _ _ hr2 (fun _ z => nomatch z)
    have hr3 := xM _ _ hr3 (fun _ z => nomatch z)
    have hg := xM _ _ hg (fun _ z => nomatch z)
    have nt : ∀ {x : Addr} {its : List V}, M4 x = some (.tup its) → x ≠ g := fun z y => by rw [y, hg] at z; cases z
    refine ⟨g, _, _, rfl, rfl, hg, (by show 3 < sizeLine; decide), ?_⟩
    have h4 := h4.grow (ys := [.ref r11, .ref r12, .ref r13] ++ [.ref r14]) hg nlg
    have bg : But g M4 (upd M4 g (.lst ([.ref r11, .ref r12, .ref r13] ++ [.ref r14]))) := (But.refl g M4).at
    have hg2 : upd M4 g (.lst ([.ref r11, .ref r12, .ref r13] ++ [.ref r14])) g = some (.lst [.ref r11, .ref r12, .ref r13, .ref r14]) := upd_same
    have hr1 := bg _ _ (nt hr1) hr1
    have hr2 := bg _ _ (nt hr2) hr2
    have hr3 := bg _ _ (nt hr3) hr3
    have hr4 := bg _ _ (nt hr4) hr4
    have hu4 := bg _ _ (nt hu4) hu4
    clear hg nt
    have hg := hg2
    clear hg2
    generalize upd M4 g (.lst ([.ref r11, .ref r12, .ref r13] ++ [.ref r14])) = N4 at h4 bg hg hr1 hr2 hr3 hr4 hu4 ⊢
    clear bg
    refine ⟨_, rfl, .inl ⟨rfl, _, SqL.of hg⟩, ?_⟩
    refine hear h4.tab (fun E' J Q' xJ tJ er' => ⟨_, rfl, _, rfl, v, bad, .non, rfl, .inr ⟨no (h4.ext xJ tJ), er'⟩⟩) fun M5 r15 xM tM hr5 => ?_
    have h5 := h4.ext xM tM
    have hr1 := xM _ _ hr1 (fun _ z => nomatch z)
    have hr2 := xM _ _ hr2 (fun _ z => nomatch z)
    have hr3 := xM _ _ hr3 (fun _ z => nomatch z)
    have hr4 := xM _ _ hr4 (fun _ z => nomatch z)
    have hu4 := xM _ _ hu4 (fun _ z => nomatch z)
    have hg := xM _ _ hg (fun _ z => nomatch z)
    have nt : ∀ {x : Addr} {its : List V}, M5 x = some (.tup its) → x ≠ g := fun z y => by rw [y, hg] at z; cases z
    refine ⟨g, _, _, rfl, rfl, hg, (by show 4 < sizeLine; decide), ?_⟩
    have h5 := h5.grow (ys := [.ref r11, .ref r12, .ref r13, .ref r14] ++ [.ref r15]) hg nlg
    have bg : But g M5 (upd M5 g (.lst ([.ref r11, .ref r12, .ref r13, .ref r14] ++ [.ref r15]))) := (But.refl g M5).at
    have hg2 : upd M5 g (.lst ([.ref r11, .ref r12, .ref r13, .ref r14] ++ [.ref r15])) g = some (.lst [.ref r11, .ref r12, .ref r13, .ref r14, .ref r15]) := upd_same
    have hr1 := bg _ _ (nt hr1) hr1
    have hr2 := bg _ _ (nt hr2) hr2
    have hr3 := bg _ _ (nt hr3) hr3
    have hr4 := bg _ _ (nt hr4) hr4
    have hu4 := bg _ _ (nt hu4) hu4
    have hr5 := bg _ _ (nt hr5) hr5
    clear hg nt
    have hg := hg2
    clear hg2
    generalize upd M5 g (.lst ([.ref r11, .ref r12, .ref r13, .ref r14] ++ [.ref r15])) = N5 at h5 bg hg hr1 hr2 hr3 hr4 hu4 hr5 ⊢
    clear bg
    refine ⟨_, rfl, .inl ⟨rfl, _, SqL.of hg⟩, ?_⟩
    refine hearG (v := bad) h5.tab (fun E' J Q' xJ tJ er' => ⟨_, rfl, madeL2 (h5.ext xJ tJ).hl l3 l8 er.bd fun r3 J2 ring sJ nr3 => ⟨rfl, _, rfl, _, rfl, .ref r3, bad, .ref q0, rfl, .inl ⟨r3, ls, rfl, ring, l3, l8, tJ.ext sJ, .inl (let ⟨k, kd, wb⟩ := ((h5.ext xJ tJ).same sJ).bd.no (K := K); ⟨k, kd, wb, Errs.later er' sJ⟩)⟩⟩⟩) fun M6 r16 xM tM hr6 => ?_
    have h6 := h5.ext xM tM
    have hr1 := xM _ _ hr1 (fun _ z => nomatch z)
    have hr2 := xM _ _ hr2 (fun _ z => nomatch z)
    have hr3 := xM _ _ hr3 (fun _ z => nomatch z)
    have hr4 := xM _ _ hr4 (fun _ z => nomatch z)
    have hu4 := xM _ _ hu4 (fun _ z => nomatch z)
    have hr5 := xM _ _ hr5 (fun _ z => nomatch z)
    have hg := xM _ _ hg (fun _ z => nomatch z)
    have nt : ∀ {x : Addr} {its : List V}, M6 x = some (.tup its) → x ≠ g := fun z y => by rw [y, hg] at z; cases z
    refine ⟨g, _, _, rfl, rfl, hg, (by show 5 < sizeLine; decide), ?_⟩
    have h6 := h6.grow (ys := [.ref r11, .ref r12, .ref r13, .ref r14, .ref r15] ++ [.ref r16]) hg nlg
    have bg : But g M6 (upd M6 g (.lst ([.ref r11, .ref r12, .ref r13, .ref r14, .ref r15] ++ [.ref r16]))) := (But.refl g M6).at
    have hg2 : upd M6 g (.lst ([.ref r11, .ref r12, .ref r13, .ref r14, .ref r15] ++ [.ref r16])) g = some (.lst [.ref r11, .ref r12, .ref r13, .ref r14, .ref r15, .ref r16]) := upd_same
    have hr1 := bg _ _ (nt hr1) hr1
    have hr2 := bg _ _ (nt hr2) hr2
    have hr3 := bg _ _ (nt hr3) hr3
    have hr4 := bg _ _ (nt hr4) hr4
    have hu4 := bg _ _ (nt hu4) hu4
    have hr5 := bg _ _ (nt hr5) hr5
    have hr6 := bg _ _ (nt hr6) hr6
    clear hg nt
    have hg := hg2
    clear hg2
    generalize upd M6 g (.lst ([.ref r11, .ref r12, .ref r13, .ref r14, .ref r15] ++ [.ref r16])) = N6 at h6 bg hg hr1 hr2 hr3 hr4 hu4 hr5 hr6 ⊢
    clear bg
    refine ⟨_, rfl, .inl ⟨rfl, _, SqL.of hg⟩, ?_⟩
    refine hearG (v := .int 4) h6.tab (fun E' J Q' xJ tJ er' => ⟨_, rfl, .ref r, .int 4, .non, rfl, .inl ⟨r, evL, rfl, (h6.ext xJ tJ).ra, by decide, by decide, tJ, .inl ⟨"int", ⟨Knd.int, fun _ => ⟨_, rfl⟩⟩, by decide, er'⟩⟩⟩) fun M7 r17 xM tM hr7 => ?_
    have h7 := h6.ext xM tM
    have hr1 := xM _ _ hr1 (fun _ z => nomatch z)
    have hr2 := xM _ _ hr2 (fun _ z => nomatch z)
    have hr3 := xM _ _ hr3 (fun _ z => nomatch z)
    have hr4 := xM _ _ hr4 (fun _ z => nomatch z)
    have hu4 := xM _ _ hu4 (fun _ z => nomatch z)
    have hr5 := xM _ _ hr5 (fun _ z => nomatch z)
    have hr6 := xM _ _ hr6 (fun _ z => nomatch z)
    have hg := xM _ _ hg (fun _ z => nomatch z)
    have nt : ∀ {x : Addr} {its : List V}, M7 x = some (.tup its) → x ≠ g := fun z y => by rw [y, hg] at z; cases z
    refine ⟨g, _, _, rfl, rfl, hg, (by show 6 < sizeLine; decide), ?_⟩
    have h7 := h7.grow (ys := [.ref r11, .ref r12, .ref r13, .ref r14, .ref r15, .ref r16] ++ [.ref r17]) hg nlg
    have bg : But g M7 (upd M7 g (.lst ([.ref r11, .ref r12, .ref r13, .ref r14, .ref r15, .ref r16] ++ [.ref r17]))) := (But.refl g M7).at
    have hg2 : upd M7 g (.lst ([.ref r11, .ref r12, .ref r13, .ref r14, .ref r15, .ref r16] ++ [.ref r17])) g = some (.lst [.ref r11, .ref r12, .ref r13, .ref r14, .ref r15, .ref r16, .ref r17]) := upd_same
    have hr1 := bg _ _ (nt hr1) hr1
    have hr2 := bg _ _ (nt hr2) hr2
    have hr3 := bg _ _ (nt hr3) hr3
    have hr4 := bg _ _ (nt hr4) hr4
    have hu4 := bg _ _ (nt hu4) hu4
    have hr5 := bg _ _ (nt hr5) hr5
    have hr6 := bg _ _ (nt hr6) hr6
    have hr7 := bg _ _ (nt hr7) hr7
    clear hg nt
    have hg := hg2
    clear hg2
    generalize upd M7 g (.lst ([.ref r11, .ref r12, .ref r13, .ref r14, .ref r15, .ref r16] ++ [.ref r17])) = N7 at h7 bg hg hr1 hr2 hr3 hr4 hu4 hr5 hr6 hr7 ⊢
    clear bg
    refine ⟨_, rfl, .inl ⟨rfl, _, SqL.of hg⟩, ?_⟩
    refine hearL (ls := evL) h7.tab (fun E' J Q' xJ tJ er' => ⟨_, rfl, .ref r, .int 0, .non, rfl, .inl ⟨r, evL, rfl, (h7.ext xJ tJ).ra, by decide, by decide, tJ, .inr ⟨0, rfl, by decide, .inr ⟨ev_lv.1, er'⟩⟩⟩⟩) fun M8 r18 u18 l18 xM tM hr8 hu8 hall => ?_
    obtain rfl := ev_first hall
    have h8 := h7.ext xM tM
    have hr1 := xM _ _ hr1 (fun _ z => nomatch z)
    have hr2 := xM _ _ hr2 (fun _ z => nomatch z)
    have hr3 := xM _ _ hr3 (fun _ z => nomatch z)
    have hr4 := xM _ _ hr4 (fun _ z => nomatch z)
    have hu4 := xM _ _ hu4 (fun _ z => nomatch z)
    have hr5 := xM _ _ hr5 (fun _ z => nomatch z)
    have hr6 := xM _ _ hr6 (fun _ z => nomatch z)
    have hr7 := xM _ _ hr7 (fun _ z => nomatch z)
    have hg := xM _ _ hg (fun _ z => nomatch z)
    have nt : ∀ {x : Addr} {its : List V}, M8 x = some (.tup its) → x ≠ g := fun z y => by rw [y, hg] at z; cases z
    refine ⟨g, _, _, rfl, rfl, hg, (by show 7 < sizeLine; decide), ?_⟩
    have h8 := h8.grow (ys := [.ref r11, .ref r12, .ref r13, .ref r14, .ref r15, .ref r16, .ref r17] ++ [.ref r18]) hg nlg
    have bg : But g M8 (upd M8 g (.lst ([.ref r11, .ref r12, .ref r13, .ref r14, .ref r15, .ref r16, .ref r17] ++ [.ref r18]))) := (But.refl g M8).at
    have hg2 : upd M8 g (.lst ([.ref r11, .ref r12, .ref r13, .ref r14, .ref r15, .ref r16, .ref r17] ++ [.ref r18])) g = some (.lst [.ref r11, .ref r12, .ref r13, .ref r14, .ref r15, .ref r16, .ref r17, .ref r18]) := upd_same
    have hr1 := bg _ _ (nt hr1) hr1
    have hr2 := bg _ _ (nt hr2) hr2
    have hr3 := bg _ _ (nt hr3) hr3
    have hr4 := bg _ _ (nt hr4) hr4
    have hu4 := bg _ _ (nt hu4) hu4
    have hr5 := bg _ _ (nt hr5) hr5
    have hr6 := bg _ _ (nt hr6) hr6
    have hr7 := bg _ _ (nt hr7) hr7
    have hr8 := bg _ _ (nt hr8) hr8
    have hu8 := bg _ _ (nt hu8) hu8
    clear hg nt
    have hg := hg2
    clear hg2
    generalize upd M8 g (.lst ([.ref r11, .ref r12, .ref r13, .ref r14, .ref r15, .ref r16, .ref r17] ++ [.ref r18])) = N8 at h8 bg hg hr1 hr2 hr3 hr4 hu4 hr5 hr6 hr7 hr8 hu8 ⊢
    clear bg
    -- what is due
    obtain ⟨db, gdb, hdb⟩ := h8.bd.data
    refine ⟨_, rfl, (by show 2 ≤ sizeLine; decide), fun t1 n1 => ⟨_, rfl, (by show 2 ≤ sizeLine; decide), fun t2 n2 => ⟨(by show 2 ≤ sizeLine; decide), fun t3 n3 => ⟨(by show 2 ≤ sizeLine; decide), fun u4 n4 => ⟨(by show 2 ≤ sizeLine; decide), fun t4 n5 => ⟨(by show 4 ≤ sizeLine; decide), fun l1 n6 => ?_⟩⟩⟩⟩⟩⟩
    have a1 : Same N8 (upd N8 t1 (.tup [.str "ring", .str "ring"])) := (Same.refl N8).new n1
    have y1 : upd N8 t1 (.tup [.str "ring", .str "ring"]) t1 = some (.tup [.str "ring", .str "ring"]) := upd_same
    generalize upd N8 t1 (.tup [.str "ring", .str "ring"]) = J1 at a1 y1 n2 n3 n4 n5 n6 ⊢
    have a2 : Same J1 (upd J1 t2 (.tup [.str "bar", bad])) := (Same.refl J1).new n2
    have y2 : upd J1 t2 (.tup [.str "bar", bad]) t2 = some (.tup [.str "bar", bad]) := upd_same
    generalize upd J1 t2 (.tup [.str "bar", bad]) = J2 at a2 y2 n3 n4 n5 n6 ⊢
    have a3 : Same J2 (upd J2 t3 (.tup [.str "bar", .int 4])) := (Same.refl J2).new n3
    have y3 : upd J2 t3 (.tup [.str "bar", .int 4]) t3 = some (.tup [.str "bar", .int 4]) := upd_same
    generalize upd J2 t3 (.tup [.str "bar", .int 4]) = J3 at a3 y3 n4 n5 n6 ⊢
    have a4 : Same J3 (upd J3 u4 (.tup [.int 0, .int 1])) := (Same.refl J3).new n4
    have y4 : upd J3 u4 (.tup [.int 0, .int 1]) u4 = some (.tup ([0, 1].map V.int)) := upd_same
    generalize upd J3 u4 (.tup [.int 0, .int 1]) = J4 at a4 y4 n5 n6 ⊢
    have a5 : Same J4 (upd J4 t4 (.tup [.str "level", .ref u4])) := (Same.refl J4).new n5
    have y5 : upd J4 t4 (.tup [.str "level", .ref u4]) t4 = some (.tup [.str "level", .ref u4]) := upd_same
    generalize upd J4 t4 (.tup [.str "level", .ref u4]) = J5 at a5 y5 n6 ⊢
    have a6 : Same J5 (upd J5 l1 (.lst [.ref t1, .ref t2, .ref t3, .ref t4])) := (Same.refl J5).new n6
    have y6 : upd J5 l1 (.lst [.ref t1, .ref t2, .ref t3, .ref t4]) l1 = some (.lst [.ref t1, .ref t2, .ref t3, .ref t4]) := upd_same
    generalize upd J5 l1 (.lst [.ref t1, .ref t2, .ref t3, .ref t4]) = J6 at a6 y6 ⊢
    refine ⟨l1, 2, _, rfl, rfl, y6, by decide, by decide, (by show 8 ≤ sizeLine; decide), fun l2 n7 => ?_⟩
    rw [show (List.replicate (Int.toNat 2) [V.ref t1, V.ref t2, V.ref t3, V.ref t4]).flatten = [.ref t1, .ref t2, .ref t3, .ref t4, .ref t1, .ref t2, .ref t3, .ref t4] from rfl]
    have a7 : Same J6 (upd J6 l2 (.lst [.ref t1, .ref t2, .ref t3, .ref t4, .ref t1, .ref t2, .ref t3, .ref t4])) := (Same.refl J6).new n7
    have y7 : upd J6 l2 (.lst [.ref t1, .ref t2, .ref t3, .ref t4, .ref t1, .ref t2, .ref t3, .ref t4]) l2 = some (.lst [.ref t1, .ref t2, .ref t3, .ref t4, .ref t1, .ref t2, .ref t3, .ref t4]) := upd_same
    generalize upd J6 l2 (.lst [.ref t1, .ref t2, .ref t3, .ref t4, .ref t1, .ref t2, .ref t3, .ref t4]) = J7 at a7 y7 ⊢
    have x67 := a6.trans a7
    have x57 := a5.trans x67
    have x47 := a4.trans x57
    have x37 := a3.trans x47
    have x27 := a2.trans x37
    have x17 := a1.trans x27
    have dbJ : Dp K J7 bad db := hdb (ExtN.of x17)
    have tdA : ∀ {a : Addr} {x y : Str}, J7 a = some (.tup [.str x, .str y]) → Dp K J7 (.ref a) (.tuple [.str x, .str y]) := fun h => .tup (.inl (.inl h)) (.cons (.str _) (.cons (.str _) .nil))
    have tdB : ∀ {a : Addr} {x : Str}, J7 a = some (.tup [.str x, bad]) → Dp K J7 (.ref a) (.tuple [.str x, db]) := fun h => .tup (.inl (.inl h)) (.cons (.str _) (.cons dbJ .nil))
    have tdI : ∀ {a : Addr} {x : Str}, J7 a = some (.tup [.str x, .int 4]) → Dp K J7 (.ref a) (.tuple [.str x, .int 4]) := fun h => .tup (.inl (.inl h)) (.cons (.str _) (.cons (.int _) .nil))
    have tdC : ∀ {a b : Addr} {x : Str}, J7 a = some (.tup [.str x, .ref b]) → J7 b = some (.tup ([0, 1].map V.int)) → Dp K J7 (.ref a) (.tuple [.str x, .tuple ([0, 1].map PyData.int)]) := fun h h2 => .tup (.inl (.inl h)) (.cons (.str _) (.cons (.tup (.inl (.inl h2)) (dp_ints _)) .nil))
    have two : ∀ {a b : PyData}, Good 1 a → Good 1 b → Good 2 (.tuple [a, b]) := fun ha hb => Good.tup fun d hd => by
      rcases List.mem_cons.mp hd with rfl | hd
      · exact ha
      · rw [List.mem_singleton.mp hd]; exact hb
    have gA : Good 2 (.tuple [PyData.str "ring", PyData.str "ring"]) := two (Good.str _ (by decide +kernel)) (Good.str _ (by decide +kernel))
    have gB : Good 2 (.tuple [PyData.str "bar", db]) := two (Good.str _ (by decide +kernel)) gdb
    have gI : Good 2 (.tuple [PyData.str "bar", PyData.int 4]) := two (Good.str _ (by decide +kernel)) (Good.int _)
    have gC : Good 2 (.tuple [PyData.str "level", .tuple ([0, 1].map PyData.int)]) := two (Good.str _ (by decide +kernel)) (Good.ints _)
    have gD : Good 3 (.list [.tuple [PyData.str "ring", PyData.str "ring"], .tuple [PyData.str "bar", db], .tuple [PyData.str "bar", PyData.int 4], .tuple [PyData.str "level", .tuple ([0, 1].map PyData.int)], .tuple [PyData.str "ring", PyData.str "ring"], .tuple [PyData.str "bar", db], .tuple [PyData.str "bar", PyData.int 4], .tuple [PyData.str "level", .tuple ([0, 1].map PyData.int)]]) := Good.lst fun d hd => by
      simp only [List.mem_cons, List.not_mem_nil, or_false] at hd
      rcases hd with rfl | rfl | rfl | rfl | rfl | rfl | rfl | rfl
      · exact gA
      · exact gB
      · exact gI
      · exact gC
      · exact gA
      · exact gB
      · exact gI
      · exact gC
    refine ⟨_, _, .lst (SqL.of (x17 _ _ hg)) (.cons (tdA (x17 _ _ hr1)) (.cons (tdB (x17 _ _ hr2)) (.cons (tdI (x17 _ _ hr3)) (.cons (tdC (x17 _ _ hr4) (x17 _ _ hu4)) (.cons (tdA (x17 _ _ hr5)) (.cons (tdB (x17 _ _ hr6)) (.cons (tdI (x17 _ _ hr7)) (.cons (tdC (x17 _ _ hr8) (x17 _ _ hu8)) .nil)))))))),
      .lst (SqL.of y7) (.cons (tdA (x27 _ _ y1)) (.cons (tdB (x37 _ _ y2)) (.cons (tdI (x47 _ _ y3)) (.cons (tdC (x67 _ _ y5) (x57 _ _ y4)) (.cons (tdA (x27 _ _ y1)) (.cons (tdB (x37 _ _ y2)) (.cons (tdI (x47 _ _ y3)) (.cons (tdC (x67 _ _ y5) (x57 _ _ y4)) .nil)))))))), gD.shaped (by decide), gD.shaped (by decide), ?_⟩
    rw [gD.eqv]
    exact q _
end
end K
namespace K
open PySem L2 Rg LamX
theorem kb_two {K : PySem.W.Frag} {fd : FuncData} (h : ∀ (b r : Value) (s : Shared), BindsTo s fd ⟨[], [("bar", b), ("ring", r)]⟩ [("ring", r), ("bar", b)]) : KBinds K fd ["ring", "bar"] ["bar", "ring"] gK2 gK2 := by
  refine ⟨fun s us ws _ hl => ?_, fun {vs us zs ws} r1 r2 => ?_⟩
  · match us, ws, hl with
    | [], [b, r], _ => exact h b r s
  · cases r1 with
    | nil =>
      cases r2 with
      | nil => exact .nil
      | cons y t2 =>
        cases t2 with
        | nil => exact .nil
        | cons y2 t3 =>
          cases t3 with
          | nil => exact .cons y2 (.cons y .nil)
          | cons _ _ => exact .nil
    | cons _ _ => exact .nil
section
variable {P : Program} {w : World} {K : PySem.W.Frag} {mg : Str → Option Value} {base : Heap}
theorem scBadRing : FnScope ["self", "part"] ["self", "part"] (defScope sBadRingInit) := ⟨rfl, rfl, rfl, by decide +kernel, rfl, by decide +kernel, by decide +kernel⟩
theorem ok_badRingI {f : Addr} {fd : FuncData} (F : Fun K "__init__" "BadRing.__init__" sBadRingInit f fd) : FnOk P w K mg base CX0 1 f fd ["self", "part"] (spIni K "part") := by
  refine F.ok scBadRing (fun vs H Q E h => ?_) (fun cdv A outer s H vs Q E hr h => ?_)
  · obtain ⟨a, C, v, rfl, _⟩ := h
    rfl
  · refine ⟨_, pss_one (ps_ost (pv 0) (pv 1)), ?_⟩
    obtain ⟨a, C, v, rfl, o, n, ha, k⟩ := h
    exact ⟨_, rfl, _, rfl, a, C, rfl, o, n, .inl ⟨ha, fun d h1 h2 => k d h1 h2⟩⟩
theorem scMisfit : FnScope ["self", "part"] ["self", "part"] (defScope sMisfitInit) := ⟨rfl, rfl, rfl, by decide +kernel, rfl, by decide +kernel, by decide +kernel⟩
theorem ok_misfitI {f : Addr} {fd : FuncData} (F : Fun K "__init__" "Misfit.__init__" sMisfitInit f fd) : FnOk P w K mg base CX0 1 f fd ["self", "part"] (spIni K "part") := by
  refine F.ok scMisfit (fun vs H Q E h => ?_) (fun cdv A outer s H vs Q E hr h => ?_)
  · obtain ⟨a, C, v, rfl, _⟩ := h
    rfl
  · refine ⟨_, pss_one (ps_ost (pv 0) (pv 1)), ?_⟩
    obtain ⟨a, C, v, rfl, o, n, ha, k⟩ := h
    exact ⟨_, rfl, _, rfl, a, C, rfl, o, n, .inl ⟨ha, fun d h1 h2 => k d h1 h2⟩⟩
end
theorem code_hd {K : PySem.W.Frag} {c P : Addr} {o : Obj} (l : K.lookup c = some o) (h : PySem.W.codeHdIn [(c, o)] c P = true) : PySem.W.codeHdIn K c P = true := by
  have e : List.lookup c [(c, o)] = some o := by simp [List.lookup]
  unfold PySem.W.codeHdIn at h ⊢
  rw [e] at h
  rw [l]
  exact h
theorem lookup_out {K : PySem.W.Frag} {P : Addr} : ∀ {as : List Addr}, as = K.map (·.1) → P ∉ as → K.lookup P = none := by
  intro as e h
  subst e
  induction K with
  | nil => rfl
  | cons x r ih =>
    obtain ⟨a, o⟩ := x
    rw [List.map_cons, List.mem_cons, not_or] at h
    have hne : (P == a) = false := by simpa using h.1
    rw [List.lookup_cons, hne]
    exact ih h.2
theorem out_of {K : Params → PySem.W.Frag} {as : List Addr} {e : ∀ P, as = (K P).map (·.1)} {ts : List Addr} {w : World} {h : Heap} (_ : (PySem.W.kmHook K as e ts).says w h) {P : Addr} (hP : P ∉ as) : (K w.params).lookup P = none := lookup_out (e w.params) hP


theorem all_mk {oE : Obj} {fileE : Str} {l : PySem.W.OpenLaw} {w : World} {K : PySem.W.Frag} {h : Heap} {mg : Str → Option Value} {fa : Addr} (X : K.In h) (G : h.Ns mainGlobals mg) (hfa : mg "law" = some (.ref fa))
    {C Ez eX eR eL eN eT eM eV f0 f1 f2 f3 f4 f5 f6 f7 f8 f9 f10 f11 f12 f13 f14 f15 f16 f17 cIO f18 f19 f20 f21 f22 f23 f24 f25 f26 f27 f28 f29 f30 f31 f32 f33 f34 f35 f36 f37 f38 f39 f40 f41 f42 f43 f44 f45 f46 f47 cLW fm0 fm1 fm2 fm3 fm4 fm5 fm6 fm7 fm8 fm9 fm10 fm11 fm12 fm13 P1 P2 eBn Pa Dn fE ccE cE fPi : Addr} {od0 an0 od1 an1 od2 an2 od3 an3 od4 an4 od5 an5 od6 an6 od7 an7 od8 an8 od9 an9 od10 an10 od11 an11 od12 an12 od13 an13 od14 an14 od15 an15 od16 an16 od17 an17 od18 an18 od19 an19 od20 an20 od21 an21 od22 an22 od23 an23 od24 an24 od25 an25 od26 an26 od27 an27 od28 an28 od29 an29 od30 an30 od31 an31 od32 an32 od33 an33 od34 an34 od35 an35 od36 an36 od37 an37 od38 an38 od39 an39 od40 an40 od41 an41 od42 an42 od43 an43 od44 an44 od45 an45 od46 an46 od47 an47 odm0 anm0 odm1 anm1 odm2 anm2 odm3 anm3 odm4 anm4 odm5 anm5 odm6 anm6 odm7 anm7 odm8 anm8 odm9 anm9 odm10 anm10 odm11 anm11 odm12 anm12 odm13 anm13 odc1 odc2 odE anE odP anP cddE kcdE : Option Addr} {sl0 sl1 sl2 sl3 sl4 sl5 sl6 sl7 sl8 sl9 sl10 sl11 sl12 sl13 sl14 sl15 sl16 sl17 sl18 sl19 sl20 sl21 sl22 sl23 sl24 sl25 sl26 sl27 sl28 sl29 sl30 sl31 sl32 sl33 sl34 sl35 sl36 sl37 sl38 sl39 sl40 sl41 sl42 sl43 sl44 sl45 sl46 sl47 slm0 slm1 slm2 slm3 slm4 slm5 slm6 slm7 slm8 slm9 slm10 slm11 slm12 slm13 slc1 slc2 slE slP ccsE kcsE : Array (Option Value)} {oc0 kV0 dc0 pm0 ct0 cd0 oc1 kV1 dc1 pm1 ct1 cd1 oc2 kV2 dc2 pm2 ct2 cd2 oc3 kV3 dc3 pm3 ct3 cd3 oc4 kV4 dc4 pm4 ct4 cd4 oc5 kV5 dc5 pm5 ct5 cd5 oc6 kV6 dc6 pm6 ct6 cd6 oc7 kV7 dc7 pm7 ct7 cd7 oc8 kV8 dc8 pm8 ct8 cd8 oc9 kV9 dc9 pm9 ct9 cd9 oc10 kV10 dc10 pm10 ct10 cd10 oc11 kV11 dc11 pm11 ct11 cd11 oc12 kV12 dc12 pm12 ct12 cd12 oc13 kV13 dc13 pm13 ct13 cd13 oc14 kV14 dc14 pm14 ct14 cd14 oc15 kV15 dc15 pm15 ct15 cd15 oc16 kV16 dc16 pm16 ct16 cd16 oc17 kV17 dc17 pm17 ct17 oc18 kV18 dc18 pm18 ct18 cd18 oc19 kV19 dc19 pm19 ct19 cd19 oc20 kV20 dc20 pm20 ct20 cd20 oc21 kV21 dc21 pm21 ct21 cd21 oc22 kV22 dc22 pm22 ct22 cd22 oc23 kV23 dc23 pm23 ct23 cd23 oc24 kV24 dc24 pm24 ct24 cd24 oc25 kV25 dc25 pm25 ct25 cd25 oc26 kV26 dc26 pm26 ct26 cd26 oc27 kV27 dc27 pm27 ct27 cd27 oc28 kV28 dc28 pm28 ct28 cd28 oc29 kV29 dc29 pm29 ct29 cd29 oc30 kV30 dc30 pm30 ct30 cd30 oc31 kV31 dc31 pm31 ct31 cd31 oc32 kV32 dc32 pm32 ct32 cd32 oc33 kV33 dc33 pm33 ct33 cd33 oc34 kV34 dc34 pm34 ct34 cd34 oc35 kV35 dc35 pm35 ct35 cd35 oc36 kV36 dc36 pm36 ct36 cd36 oc37 kV37 dc37 pm37 ct37 cd37 oc38 kV38 dc38 pm38 ct38 cd38 oc39 kV39 dc39 pm39 ct39 cd39 oc40 kV40 dc40 pm40 ct40 cd40 oc41 kV41 dc41 pm41 ct41 cd41 oc42 kV42 dc42 pm42 ct42 cd42 oc43 kV43 dc43 pm43 ct43 cd43 oc44 kV44 dc44 pm44 ct44 cd44 oc45 kV45 dc45 pm45 ct45 cd45 oc46 kV46 dc46 pm46 ct46 cd46 oc47 kV47 dc47 pm47 ct47 ocm0 kVm0 dcm0 pmm0 ctm0 cdm0 ocm1 kVm1 dcm1 pmm1 ctm1 cdm1 ocm2 kVm2 dcm2 pmm2 ctm2 cdm2 ocm3 kVm3 dcm3 pmm3 ctm3 cdm3 ocm4 kVm4 dcm4 pmm4 ctm4 cdm4 ocm5 kVm5 dcm5 pmm5 ctm5 cdm5 ocm6 kVm6 dcm6 pmm6 ctm6 cdm6 ocm7 kVm7 dcm7 pmm7 ctm7 cdm7 ocm8 kVm8 dcm8 pmm8 ctm8 cdm8 ocm9 kVm9 dcm9 pmm9 ctm9 cdm9 ocm10 kVm10 dcm10 pmm10 ctm10 cdm10 ocm11 kVm11 dcm11 pmm11 ctm11 cdm11 ocm12 kVm12 dcm12 pmm12 ctm12 cdm12 ocm13 kVm13 dcm13 pmm13 ctm13 cdm13 ocE kVE dcE pmE ctE ocP kVP dcP pmP cdP ctP cclE kclE : Value} {tkMOST_LENGTH tkLEAST_BARS tkMOST_BARS tfE tkE : Tok} {vsc1 vsc2 vsE : Array Value}
    {nmeR nmeL nmeN nmeT nmeM nmeV qqeR qqeL qqeN qqeT qqeM qqeV : Str} {NeR NeL NeN NeT NeM NeV : Addr} {bseR bseL bseN bseT bseM bseV : List Value} {bmeR bmeL bmeN bmeT bmeM bmeV : List Value} {sneR sneL sneN sneT sneM sneV : List Str} {subeR subeL subeN subeT subeM subeV : List Value} {abeR abeL abeN abeT abeM abeV : Bool} {coleR coleL coleN coleT coleM coleV : Option Bool} {ddeR ddeL ddeN ddeT ddeM ddeV : Option Addr} {k0eR k1eR k2eR k3eR k5eR k0eL k1eL k2eL k3eL k5eL k0eN k1eN k2eN k3eN k5eN k0eT k1eT k2eT k3eT k5eT k0eM k1eM k2eM k3eM k5eM k0eV k1eV k2eV k3eV k5eV : Option Value}
    (aC : PySem.W.nsIn K mainGlobals "Ring" = some (some (.ref C)))
    (aEz : PySem.W.nsIn K mainGlobals "Slack" = some (some (.ref Ez)))
    (aeX : PySem.W.nsIn K mainGlobals "RingError" = some (some (.ref eX)))
    (aeR : PySem.W.nsIn K mainGlobals "BadRing" = some (some (.ref eR)))
    (aeL : PySem.W.nsIn K mainGlobals "BadLot" = some (some (.ref eL)))
    (aeN : PySem.W.nsIn K mainGlobals "NoBar" = some (some (.ref eN)))
    (aeT : PySem.W.nsIn K mainGlobals "Twice" = some (some (.ref eT)))
    (aeM : PySem.W.nsIn K mainGlobals "Misfit" = some (some (.ref eM)))
    (aeV : PySem.W.nsIn K mainGlobals "Level" = some (some (.ref eV)))
    (a0 : PySem.W.nsIn K mainGlobals "is_integer" = some (some (.ref f0)))
    (l0 : K.lookup f0 = some ⟨oc0, od0, .func (PySem.W.fnOf "is_integer" "is_integer" (defArgs sIsInteger) (defBody sIsInteger) (defScope sIsInteger) .none kV0 dc0 pm0 an0 cd0 ct0), sl0⟩)
    (c0 : PySem.W.codeIn K cd0 "is_integer" = true)
    (k0 : PySem.W.keepIn K (.ref f0) = true)
    (a1 : PySem.W.nsIn K mainGlobals "is_within" = some (some (.ref f1)))
    (l1 : K.lookup f1 = some ⟨oc1, od1, .func (PySem.W.fnOf "is_within" "is_within" (defArgs sIsWithin) (defBody sIsWithin) (defScope sIsWithin) .none kV1 dc1 pm1 an1 cd1 ct1), sl1⟩)
    (c1 : PySem.W.codeIn K cd1 "is_within" = true)
    (k1 : PySem.W.keepIn K (.ref f1) = true)
    (a2 : PySem.W.nsIn K mainGlobals "is_list" = some (some (.ref f2)))
    (l2 : K.lookup f2 = some ⟨oc2, od2, .func (PySem.W.fnOf "is_list" "is_list" (defArgs sIsList) (defBody sIsList) (defScope sIsList) .none kV2 dc2 pm2 an2 cd2 ct2), sl2⟩)
    (c2 : PySem.W.codeIn K cd2 "is_list" = true)
    (k2 : PySem.W.keepIn K (.ref f2) = true)
    (a3 : PySem.W.nsIn K mainGlobals "is_numbers" = some (some (.ref f3)))
    (l3 : K.lookup f3 = some ⟨oc3, od3, .func (PySem.W.fnOf "is_numbers" "is_numbers" (defArgs sIsNumbers) (defBody sIsNumbers) (defScope sIsNumbers) .none kV3 dc3 pm3 an3 cd3 ct3), sl3⟩)
    (c3 : PySem.W.codeIn K cd3 "is_numbers" = true)
    (k3 : PySem.W.keepIn K (.ref f3) = true)
    (a4 : PySem.W.nsIn K mainGlobals "fixed" = some (some (.ref f4)))
    (l4 : K.lookup f4 = some ⟨oc4, od4, .func (PySem.W.fnOf "fixed" "fixed" (defArgs sFixed) (defBody sFixed) (defScope sFixed) .none kV4 dc4 pm4 an4 cd4 ct4), sl4⟩)
    (c4 : PySem.W.codeIn K cd4 "fixed" = true)
    (k4 : PySem.W.keepIn K (.ref f4) = true)
    (a5 : PySem.W.nsIn K mainGlobals "first_twice" = some (some (.ref f5)))
    (l5 : K.lookup f5 = some ⟨oc5, od5, .func (PySem.W.fnOf "first_twice" "first_twice" (defArgs sFirstTwice) (defBody sFirstTwice) (defScope sFirstTwice) .none kV5 dc5 pm5 an5 cd5 ct5), sl5⟩)
    (c5 : PySem.W.codeIn K cd5 "first_twice" = true)
    (k5 : PySem.W.keepIn K (.ref f5) = true)
    (a6 : PySem.W.nsIn K mainGlobals "twice_at" = some (some (.ref f6)))
    (l6 : K.lookup f6 = some ⟨oc6, od6, .func (PySem.W.fnOf "twice_at" "twice_at" (defArgs sTwiceAt) (defBody sTwiceAt) (defScope sTwiceAt) .none kV6 dc6 pm6 an6 cd6 ct6), sl6⟩)
    (c6 : PySem.W.codeIn K cd6 "twice_at" = true)
    (k6 : PySem.W.keepIn K (.ref f6) = true)
    (a7 : PySem.W.nsIn K mainGlobals "want_number" = some (some (.ref f7)))
    (l7 : K.lookup f7 = some ⟨oc7, od7, .func (PySem.W.fnOf "want_number" "want_number" (defArgs sWantNumber) (defBody sWantNumber) (defScope sWantNumber) .none kV7 dc7 pm7 an7 cd7 ct7), sl7⟩)
    (c7 : PySem.W.codeIn K cd7 "want_number" = true)
    (k7 : PySem.W.keepIn K (.ref f7) = true)
    (a8 : PySem.W.nsIn K mainGlobals "want_bar" = some (some (.ref f8)))
    (l8 : K.lookup f8 = some ⟨oc8, od8, .func (PySem.W.fnOf "want_bar" "want_bar" (defArgs sWantBar) (defBody sWantBar) (defScope sWantBar) .none kV8 dc8 pm8 an8 cd8 ct8), sl8⟩)
    (c8 : PySem.W.codeIn K cd8 "want_bar" = true)
    (k8 : PySem.W.keepIn K (.ref f8) = true)
    (a9 : PySem.W.nsIn K mainGlobals "want_lot" = some (some (.ref f9)))
    (l9 : K.lookup f9 = some ⟨oc9, od9, .func (PySem.W.fnOf "want_lot" "want_lot" (defArgs sWantLot) (defBody sWantLot) (defScope sWantLot) .none kV9 dc9 pm9 an9 cd9 ct9), sl9⟩)
    (c9 : PySem.W.codeIn K cd9 "want_lot" = true)
    (k9 : PySem.W.keepIn K (.ref f9) = true)
    (a10 : PySem.W.nsIn K mainGlobals "sort_by" = some (some (.ref f10)))
    (l10 : K.lookup f10 = some ⟨oc10, od10, .func (PySem.W.fnOf "sort_by" "sort_by" (defArgs sSortBy) (defBody sSortBy) (defScope sSortBy) .none kV10 dc10 pm10 an10 cd10 ct10), sl10⟩)
    (c10 : PySem.W.codeIn K cd10 "sort_by" = true)
    (k10 : PySem.W.keepIn K (.ref f10) = true)
    (a11 : PySem.W.nsIn K mainGlobals "excess_of" = some (some (.ref f11)))
    (l11 : K.lookup f11 = some ⟨oc11, od11, .func (PySem.W.fnOf "excess_of" "excess_of" (defArgs sExcessOf) (defBody sExcessOf) (defScope sExcessOf) .none kV11 dc11 pm11 an11 cd11 ct11), sl11⟩)
    (c11 : PySem.W.codeIn K cd11 "excess_of" = true)
    (k11 : PySem.W.keepIn K (.ref f11) = true)
    (a12 : PySem.W.nsIn K mainGlobals "are_lengths" = some (some (.ref f12)))
    (l12 : K.lookup f12 = some ⟨oc12, od12, .func (PySem.W.fnOf "are_lengths" "are_lengths" (defArgs sAreLengths) (defBody sAreLengths) (defScope sAreLengths) .none kV12 dc12 pm12 an12 cd12 ct12), sl12⟩)
    (c12 : PySem.W.codeIn K cd12 "are_lengths" = true)
    (k12 : PySem.W.keepIn K (.ref f12) = true)
    (a13 : PySem.W.nsIn K mainGlobals "has_level" = some (some (.ref f13)))
    (l13 : K.lookup f13 = some ⟨oc13, od13, .func (PySem.W.fnOf "has_level" "has_level" (defArgs sHasLevel) (defBody sHasLevel) (defScope sHasLevel) .none kV13 dc13 pm13 an13 cd13 ct13), sl13⟩)
    (c13 : PySem.W.codeIn K cd13 "has_level" = true)
    (k13 : PySem.W.keepIn K (.ref f13) = true)
    (a14 : PySem.W.nsIn K mainGlobals "want_ring" = some (some (.ref f14)))
    (l14 : K.lookup f14 = some ⟨oc14, od14, .func (PySem.W.fnOf "want_ring" "want_ring" (defArgs sWantRing) (defBody sWantRing) (defScope sWantRing) .none kV14 dc14 pm14 an14 cd14 ct14), sl14⟩)
    (c14 : PySem.W.codeIn K cd14 "want_ring" = true)
    (k14 : PySem.W.keepIn K (.ref f14) = true)
    (a15 : PySem.W.nsIn K mainGlobals "lots_of" = some (some (.ref f15)))
    (l15 : K.lookup f15 = some ⟨oc15, od15, .func (PySem.W.fnOf "lots_of" "lots_of" (defArgs sLotsOf) (defBody sLotsOf) (defScope sLotsOf) .none kV15 dc15 pm15 an15 cd15 ct15), sl15⟩)
    (c15 : PySem.W.codeIn K cd15 "lots_of" = true)
    (k15 : PySem.W.keepIn K (.ref f15) = true)
    (a16 : PySem.W.nsIn K mainGlobals "level_lots" = some (some (.ref f16)))
    (l16 : K.lookup f16 = some ⟨oc16, od16, .func (PySem.W.fnOf "level_lots" "level_lots" (defArgs sLevelLots) (defBody sLevelLots) (defScope sLevelLots) .none kV16 dc16 pm16 an16 cd16 ct16), sl16⟩)
    (c16 : PySem.W.codeIn K cd16 "level_lots" = true)
    (k16 : PySem.W.keepIn K (.ref f16) = true)
    (a17 : PySem.W.nsIn K mainGlobals "in_order" = some (some (.ref f17)))
    (l17 : K.lookup f17 = some ⟨oc17, od17, .func (PySem.W.fnOf "in_order" "in_order" (defArgs sInOrder) (defBody sInOrder) (defScope sInOrder) .none kV17 dc17 pm17 an17 (.ref cIO) ct17), sl17⟩)
    (c17 : PySem.W.codeIn K (.ref cIO) "in_order" = true)
    (k17 : PySem.W.keepIn K (.ref f17) = true)
    (a18 : PySem.W.nsIn K mainGlobals "lots_by_sort" = some (some (.ref f18)))
    (l18 : K.lookup f18 = some ⟨oc18, od18, .func (PySem.W.fnOf "lots_by_sort" "lots_by_sort" (defArgs sLotsBySort) (defBody sLotsBySort) (defScope sLotsBySort) .none kV18 dc18 pm18 an18 cd18 ct18), sl18⟩)
    (c18 : PySem.W.codeIn K cd18 "lots_by_sort" = true)
    (k18 : PySem.W.keepIn K (.ref f18) = true)
    (a19 : PySem.W.nsIn K mainGlobals "want_no_level" = some (some (.ref f19)))
    (l19 : K.lookup f19 = some ⟨oc19, od19, .func (PySem.W.fnOf "want_no_level" "want_no_level" (defArgs sWantNoLevel) (defBody sWantNoLevel) (defScope sWantNoLevel) .none kV19 dc19 pm19 an19 cd19 ct19), sl19⟩)
    (c19 : PySem.W.codeIn K cd19 "want_no_level" = true)
    (k19 : PySem.W.keepIn K (.ref f19) = true)
    (a20 : PySem.W.nsIn K mainGlobals "want_as_many" = some (some (.ref f20)))
    (l20 : K.lookup f20 = some ⟨oc20, od20, .func (PySem.W.fnOf "want_as_many" "want_as_many" (defArgs sWantAsMany) (defBody sWantAsMany) (defScope sWantAsMany) .none kV20 dc20 pm20 an20 cd20 ct20), sl20⟩)
    (c20 : PySem.W.codeIn K cd20 "want_as_many" = true)
    (k20 : PySem.W.keepIn K (.ref f20) = true)
    (a21 : PySem.W.nsIn K mainGlobals "first_unlike" = some (some (.ref f21)))
    (l21 : K.lookup f21 = some ⟨oc21, od21, .func (PySem.W.fnOf "first_unlike" "first_unlike" (defArgs sFirstUnlike) (defBody sFirstUnlike) (defScope sFirstUnlike) .none kV21 dc21 pm21 an21 cd21 ct21), sl21⟩)
    (c21 : PySem.W.codeIn K cd21 "first_unlike" = true)
    (k21 : PySem.W.keepIn K (.ref f21) = true)
    (a22 : PySem.W.nsIn K mainGlobals "same_book" = some (some (.ref f22)))
    (l22 : K.lookup f22 = some ⟨oc22, od22, .func (PySem.W.fnOf "same_book" "same_book" (defArgs sSameBook) (defBody sSameBook) (defScope sSameBook) .none kV22 dc22 pm22 an22 cd22 ct22), sl22⟩)
    (c22 : PySem.W.codeIn K cd22 "same_book" = true)
    (k22 : PySem.W.keepIn K (.ref f22) = true)
    (a23 : PySem.W.nsIn K mainGlobals "is_exactly" = some (some (.ref f23)))
    (l23 : K.lookup f23 = some ⟨oc23, od23, .func (PySem.W.fnOf "is_exactly" "is_exactly" (defArgs sIsExactly) (defBody sIsExactly) (defScope sIsExactly) .none kV23 dc23 pm23 an23 cd23 ct23), sl23⟩)
    (c23 : PySem.W.codeIn K cd23 "is_exactly" = true)
    (k23 : PySem.W.keepIn K (.ref f23) = true)
    (a24 : PySem.W.nsIn K mainGlobals "is_called" = some (some (.ref f24)))
    (l24 : K.lookup f24 = some ⟨oc24, od24, .func (PySem.W.fnOf "is_called" "is_called" (defArgs sIsCalled) (defBody sIsCalled) (defScope sIsCalled) .none kV24 dc24 pm24 an24 cd24 ct24), sl24⟩)
    (c24 : PySem.W.codeIn K cd24 "is_called" = true)
    (k24 : PySem.W.keepIn K (.ref f24) = true)
    (a25 : PySem.W.nsIn K mainGlobals "are_equal" = some (some (.ref f25)))
    (l25 : K.lookup f25 = some ⟨oc25, od25, .func (PySem.W.fnOf "are_equal" "are_equal" (defArgs sAreEqual) (defBody sAreEqual) (defScope sAreEqual) .none kV25 dc25 pm25 an25 cd25 ct25), sl25⟩)
    (c25 : PySem.W.codeIn K cd25 "are_equal" = true)
    (k25 : PySem.W.keepIn K (.ref f25) = true)
    (a26 : PySem.W.nsIn K mainGlobals "is_lot" = some (some (.ref f26)))
    (l26 : K.lookup f26 = some ⟨oc26, od26, .func (PySem.W.fnOf "is_lot" "is_lot" (defArgs sIsLot) (defBody sIsLot) (defScope sIsLot) .none kV26 dc26 pm26 an26 cd26 ct26), sl26⟩)
    (c26 : PySem.W.codeIn K cd26 "is_lot" = true)
    (k26 : PySem.W.keepIn K (.ref f26) = true)
    (a27 : PySem.W.nsIn K mainGlobals "is_lot_of" = some (some (.ref f27)))
    (l27 : K.lookup f27 = some ⟨oc27, od27, .func (PySem.W.fnOf "is_lot_of" "is_lot_of" (defArgs sIsLotOf) (defBody sIsLotOf) (defScope sIsLotOf) .none kV27 dc27 pm27 an27 cd27 ct27), sl27⟩)
    (c27 : PySem.W.codeIn K cd27 "is_lot_of" = true)
    (k27 : PySem.W.keepIn K (.ref f27) = true)
    (a28 : PySem.W.nsIn K mainGlobals "first_or_none" = some (some (.ref f28)))
    (l28 : K.lookup f28 = some ⟨oc28, od28, .func (PySem.W.fnOf "first_or_none" "first_or_none" (defArgs sFirstOrNone) (defBody sFirstOrNone) (defScope sFirstOrNone) .none kV28 dc28 pm28 an28 cd28 ct28), sl28⟩)
    (c28 : PySem.W.codeIn K cd28 "first_or_none" = true)
    (k28 : PySem.W.keepIn K (.ref f28) = true)
    (a29 : PySem.W.nsIn K mainGlobals "slack_numbers" = some (some (.ref f29)))
    (l29 : K.lookup f29 = some ⟨oc29, od29, .func (PySem.W.fnOf "slack_numbers" "slack_numbers" (defArgs sSlackNumbers) (defBody sSlackNumbers) (defScope sSlackNumbers) .none kV29 dc29 pm29 an29 cd29 ct29), sl29⟩)
    (c29 : PySem.W.codeIn K cd29 "slack_numbers" = true)
    (k29 : PySem.W.keepIn K (.ref f29) = true)
    (a30 : PySem.W.nsIn K mainGlobals "stops_down" = some (some (.ref f30)))
    (l30 : K.lookup f30 = some ⟨oc30, od30, .func (PySem.W.fnOf "stops_down" "stops_down" (defArgs sStopsDown) (defBody sStopsDown) (defScope sStopsDown) .none kV30 dc30 pm30 an30 cd30 ct30), sl30⟩)
    (c30 : PySem.W.codeIn K cd30 "stops_down" = true)
    (k30 : PySem.W.keepIn K (.ref f30) = true)
    (a31 : PySem.W.nsIn K mainGlobals "stops_up" = some (some (.ref f31)))
    (l31 : K.lookup f31 = some ⟨oc31, od31, .func (PySem.W.fnOf "stops_up" "stops_up" (defArgs sStopsUp) (defBody sStopsUp) (defScope sStopsUp) .none kV31 dc31 pm31 an31 cd31 ct31), sl31⟩)
    (c31 : PySem.W.codeIn K cd31 "stops_up" = true)
    (k31 : PySem.W.keepIn K (.ref f31) = true)
    (a32 : PySem.W.nsIn K mainGlobals "want_slack" = some (some (.ref f32)))
    (l32 : K.lookup f32 = some ⟨oc32, od32, .func (PySem.W.fnOf "want_slack" "want_slack" (defArgs sWantSlack) (defBody sWantSlack) (defScope sWantSlack) .none kV32 dc32 pm32 an32 cd32 ct32), sl32⟩)
    (c32 : PySem.W.codeIn K cd32 "want_slack" = true)
    (k32 : PySem.W.keepIn K (.ref f32) = true)
    (a33 : PySem.W.nsIn K mainGlobals "slack" = some (some (.ref f33)))
    (l33 : K.lookup f33 = some ⟨oc33, od33, .func (PySem.W.fnOf "slack" "slack" (defArgs sSlack) (defBody sSlack) (defScope sSlack) .none kV33 dc33 pm33 an33 cd33 ct33), sl33⟩)
    (c33 : PySem.W.codeIn K cd33 "slack" = true)
    (k33 : PySem.W.keepIn K (.ref f33) = true)
    (a34 : PySem.W.nsIn K mainGlobals "shows_slack" = some (some (.ref f34)))
    (l34 : K.lookup f34 = some ⟨oc34, od34, .func (PySem.W.fnOf "shows_slack" "shows_slack" (defArgs sShowsSlack) (defBody sShowsSlack) (defScope sShowsSlack) .none kV34 dc34 pm34 an34 cd34 ct34), sl34⟩)
    (c34 : PySem.W.codeIn K cd34 "shows_slack" = true)
    (k34 : PySem.W.keepIn K (.ref f34) = true)
    (a35 : PySem.W.nsIn K mainGlobals "_law_reel" = some (some (.ref f35)))
    (l35 : K.lookup f35 = some ⟨oc35, od35, .func (PySem.W.fnOf "_law_reel" "_law_reel" (defArgs sLwReel) (defBody sLwReel) (defScope sLwReel) .none kV35 dc35 pm35 an35 cd35 ct35), sl35⟩)
    (c35 : PySem.W.codeIn K cd35 "_law_reel" = true)
    (k35 : PySem.W.keepIn K (.ref f35) = true)
    (a36 : PySem.W.nsIn K mainGlobals "_law_wind" = some (some (.ref f36)))
    (l36 : K.lookup f36 = some ⟨oc36, od36, .func (PySem.W.fnOf "_law_wind" "_law_wind" (defArgs sLwWind) (defBody sLwWind) (defScope sLwWind) .none kV36 dc36 pm36 an36 cd36 ct36), sl36⟩)
    (c36 : PySem.W.codeIn K cd36 "_law_wind" = true)
    (k36 : PySem.W.keepIn K (.ref f36) = true)
    (a37 : PySem.W.nsIn K mainGlobals "_law_pick" = some (some (.ref f37)))
    (l37 : K.lookup f37 = some ⟨oc37, od37, .func (PySem.W.fnOf "_law_pick" "_law_pick" (defArgs sLwPick) (defBody sLwPick) (defScope sLwPick) .none kV37 dc37 pm37 an37 cd37 ct37), sl37⟩)
    (c37 : PySem.W.codeIn K cd37 "_law_pick" = true)
    (k37 : PySem.W.keepIn K (.ref f37) = true)
    (a38 : PySem.W.nsIn K mainGlobals "_law_lots" = some (some (.ref f38)))
    (l38 : K.lookup f38 = some ⟨oc38, od38, .func (PySem.W.fnOf "_law_lots" "_law_lots" (defArgs sLwLots) (defBody sLwLots) (defScope sLwLots) .none kV38 dc38 pm38 an38 cd38 ct38), sl38⟩)
    (c38 : PySem.W.codeIn K cd38 "_law_lots" = true)
    (k38 : PySem.W.keepIn K (.ref f38) = true)
    (a39 : PySem.W.nsIn K mainGlobals "_law_gap" = some (some (.ref f39)))
    (l39 : K.lookup f39 = some ⟨oc39, od39, .func (PySem.W.fnOf "_law_gap" "_law_gap" (defArgs sLwGap) (defBody sLwGap) (defScope sLwGap) .none kV39 dc39 pm39 an39 cd39 ct39), sl39⟩)
    (c39 : PySem.W.codeIn K cd39 "_law_gap" = true)
    (k39 : PySem.W.keepIn K (.ref f39) = true)
    (a40 : PySem.W.nsIn K mainGlobals "_law_lengths" = some (some (.ref f40)))
    (l40 : K.lookup f40 = some ⟨oc40, od40, .func (PySem.W.fnOf "_law_lengths" "_law_lengths" (defArgs sLwLengths) (defBody sLwLengths) (defScope sLwLengths) .none kV40 dc40 pm40 an40 cd40 ct40), sl40⟩)
    (c40 : PySem.W.codeIn K cd40 "_law_lengths" = true)
    (k40 : PySem.W.keepIn K (.ref f40) = true)
    (a41 : PySem.W.nsIn K mainGlobals "_law_heard" = some (some (.ref f41)))
    (l41 : K.lookup f41 = some ⟨oc41, od41, .func (PySem.W.fnOf "_law_heard" "_law_heard" (defArgs sLwHeard) (defBody sLwHeard) (defScope sLwHeard) .none kV41 dc41 pm41 an41 cd41 ct41), sl41⟩)
    (c41 : PySem.W.codeIn K cd41 "_law_heard" = true)
    (k41 : PySem.W.keepIn K (.ref f41) = true)
    (a42 : PySem.W.nsIn K mainGlobals "_law_ring" = some (some (.ref f42)))
    (l42 : K.lookup f42 = some ⟨oc42, od42, .func (PySem.W.fnOf "_law_ring" "_law_ring" (defArgs sLwRing) (defBody sLwRing) (defScope sLwRing) .none kV42 dc42 pm42 an42 cd42 ct42), sl42⟩)
    (c42 : PySem.W.codeIn K cd42 "_law_ring" = true)
    (k42 : PySem.W.keepIn K (.ref f42) = true)
    (a43 : PySem.W.nsIn K mainGlobals "_law_book" = some (some (.ref f43)))
    (l43 : K.lookup f43 = some ⟨oc43, od43, .func (PySem.W.fnOf "_law_book" "_law_book" (defArgs sLwBook) (defBody sLwBook) (defScope sLwBook) .none kV43 dc43 pm43 an43 cd43 ct43), sl43⟩)
    (c43 : PySem.W.codeIn K cd43 "_law_book" = true)
    (k43 : PySem.W.keepIn K (.ref f43) = true)
    (a44 : PySem.W.nsIn K mainGlobals "_law_with" = some (some (.ref f44)))
    (l44 : K.lookup f44 = some ⟨oc44, od44, .func (PySem.W.fnOf "_law_with" "_law_with" (defArgs sLwWith) (defBody sLwWith) (defScope sLwWith) .none kV44 dc44 pm44 an44 cd44 ct44), sl44⟩)
    (c44 : PySem.W.codeIn K cd44 "_law_with" = true)
    (k44 : PySem.W.keepIn K (.ref f44) = true)
    (a45 : PySem.W.nsIn K mainGlobals "_law_between_right" = some (some (.ref f45)))
    (l45 : K.lookup f45 = some ⟨oc45, od45, .func (PySem.W.fnOf "_law_between_right" "_law_between_right" (defArgs sLwBetweenRight) (defBody sLwBetweenRight) (defScope sLwBetweenRight) .none kV45 dc45 pm45 an45 cd45 ct45), sl45⟩)
    (c45 : PySem.W.codeIn K cd45 "_law_between_right" = true)
    (k45 : PySem.W.keepIn K (.ref f45) = true)
    (a46 : PySem.W.nsIn K mainGlobals "_law_slack_right" = some (some (.ref f46)))
    (l46 : K.lookup f46 = some ⟨oc46, od46, .func (PySem.W.fnOf "_law_slack_right" "_law_slack_right" (defArgs sLwSlackRight) (defBody sLwSlackRight) (defScope sLwSlackRight) .none kV46 dc46 pm46 an46 cd46 ct46), sl46⟩)
    (c46 : PySem.W.codeIn K cd46 "_law_slack_right" = true)
    (k46 : PySem.W.keepIn K (.ref f46) = true)
    (a47 : PySem.W.nsIn K mainGlobals "law" = some (some (.ref f47)))
    (l47 : K.lookup f47 = some ⟨oc47, od47, .func (PySem.W.fnOf "law" "law" (defArgs sLaw) (defBody sLaw) (defScope sLaw) .none kV47 dc47 pm47 an47 (.ref cLW) ct47), sl47⟩)
    (c47 : PySem.W.codeIn K (.ref cLW) "law" = true)
    (k47 : PySem.W.keepIn K (.ref f47) = true)
    (am0 : PySem.W.findIn K (.ref C) "__init__" = some (some (.ref fm0)))
    (im0 : PySem.W.isFn K (.ref fm0) = true)
    (lm0 : K.lookup fm0 = some ⟨ocm0, odm0, .func (PySem.W.fnOf "__init__" "Ring.__init__" (defArgs sRingInit) (defBody sRingInit) (defScope sRingInit) .none kVm0 dcm0 pmm0 anm0 cdm0 ctm0), slm0⟩)
    (cm0 : PySem.W.codeIn K cdm0 "Ring.__init__" = true)
    (km0 : PySem.W.keepIn K (.ref fm0) = true)
    (am1 : PySem.W.findIn K (.ref C) "__len__" = some (some (.ref fm1)))
    (im1 : PySem.W.isFn K (.ref fm1) = true)
    (lm1 : K.lookup fm1 = some ⟨ocm1, odm1, .func (PySem.W.fnOf "__len__" "Ring.__len__" (defArgs sRingLen) (defBody sRingLen) (defScope sRingLen) .none kVm1 dcm1 pmm1 anm1 cdm1 ctm1), slm1⟩)
    (cm1 : PySem.W.codeIn K cdm1 "Ring.__len__" = true)
    (km1 : PySem.W.keepIn K (.ref fm1) = true)
    (am2 : PySem.W.findIn K (.ref C) "length_of" = some (some (.ref fm2)))
    (im2 : PySem.W.isFn K (.ref fm2) = true)
    (lm2 : K.lookup fm2 = some ⟨ocm2, odm2, .func (PySem.W.fnOf "length_of" "Ring.length_of" (defArgs sRingLengthOf) (defBody sRingLengthOf) (defScope sRingLengthOf) .none kVm2 dcm2 pmm2 anm2 cdm2 ctm2), slm2⟩)
    (cm2 : PySem.W.codeIn K cdm2 "Ring.length_of" = true)
    (km2 : PySem.W.keepIn K (.ref fm2) = true)
    (am3 : PySem.W.findIn K (.ref C) "sort_of" = some (some (.ref fm3)))
    (im3 : PySem.W.isFn K (.ref fm3) = true)
    (lm3 : K.lookup fm3 = some ⟨ocm3, odm3, .func (PySem.W.fnOf "sort_of" "Ring.sort_of" (defArgs sRingSortOf) (defBody sRingSortOf) (defScope sRingSortOf) .none kVm3 dcm3 pmm3 anm3 cdm3 ctm3), slm3⟩)
    (cm3 : PySem.W.codeIn K cdm3 "Ring.sort_of" = true)
    (km3 : PySem.W.keepIn K (.ref fm3) = true)
    (am4 : PySem.W.findIn K (.ref eR) "__init__" = some (some (.ref fm4)))
    (im4 : PySem.W.isFn K (.ref fm4) = true)
    (lm4 : K.lookup fm4 = some ⟨ocm4, odm4, .func (PySem.W.fnOf "__init__" "BadRing.__init__" (defArgs sBadRingInit) (defBody sBadRingInit) (defScope sBadRingInit) .none kVm4 dcm4 pmm4 anm4 cdm4 ctm4), slm4⟩)
    (cm4 : PySem.W.codeIn K cdm4 "BadRing.__init__" = true)
    (km4 : PySem.W.keepIn K (.ref fm4) = true)
    (tim4 : PySem.W.typeIn K (.ref fm4) = some (.type "function"))
    (am5 : PySem.W.findIn K (.ref eL) "__init__" = some (some (.ref fm5)))
    (im5 : PySem.W.isFn K (.ref fm5) = true)
    (lm5 : K.lookup fm5 = some ⟨ocm5, odm5, .func (PySem.W.fnOf "__init__" "BadLot.__init__" (defArgs sBadLotInit) (defBody sBadLotInit) (defScope sBadLotInit) .none kVm5 dcm5 pmm5 anm5 cdm5 ctm5), slm5⟩)
    (cm5 : PySem.W.codeIn K cdm5 "BadLot.__init__" = true)
    (km5 : PySem.W.keepIn K (.ref fm5) = true)
    (tim5 : PySem.W.typeIn K (.ref fm5) = some (.type "function"))
    (am6 : PySem.W.findIn K (.ref eN) "__init__" = some (some (.ref fm6)))
    (im6 : PySem.W.isFn K (.ref fm6) = true)
    (lm6 : K.lookup fm6 = some ⟨ocm6, odm6, .func (PySem.W.fnOf "__init__" "Missing.__init__" (defArgs sMissingInit) (defBody sMissingInit) (defScope sMissingInit) .none kVm6 dcm6 pmm6 anm6 cdm6 ctm6), slm6⟩)
    (cm6 : PySem.W.codeIn K cdm6 "Missing.__init__" = true)
    (km6 : PySem.W.keepIn K (.ref fm6) = true)
    (tim6 : PySem.W.typeIn K (.ref fm6) = some (.type "function"))
    (am7 : PySem.W.findIn K (.ref eT) "__init__" = some (some (.ref fm7)))
    (im7 : PySem.W.isFn K (.ref fm7) = true)
    (lm7 : K.lookup fm7 = some ⟨ocm7, odm7, .func (PySem.W.fnOf "__init__" "Twice.__init__" (defArgs sTwiceInit) (defBody sTwiceInit) (defScope sTwiceInit) .none kVm7 dcm7 pmm7 anm7 cdm7 ctm7), slm7⟩)
    (cm7 : PySem.W.codeIn K cdm7 "Twice.__init__" = true)
    (km7 : PySem.W.keepIn K (.ref fm7) = true)
    (tim7 : PySem.W.typeIn K (.ref fm7) = some (.type "function"))
    (am8 : PySem.W.findIn K (.ref eM) "__init__" = some (some (.ref fm8)))
    (im8 : PySem.W.isFn K (.ref fm8) = true)
    (lm8 : K.lookup fm8 = some ⟨ocm8, odm8, .func (PySem.W.fnOf "__init__" "Misfit.__init__" (defArgs sMisfitInit) (defBody sMisfitInit) (defScope sMisfitInit) .none kVm8 dcm8 pmm8 anm8 cdm8 ctm8), slm8⟩)
    (cm8 : PySem.W.codeIn K cdm8 "Misfit.__init__" = true)
    (km8 : PySem.W.keepIn K (.ref fm8) = true)
    (tim8 : PySem.W.typeIn K (.ref fm8) = some (.type "function"))
    (am9 : PySem.W.findIn K (.ref eV) "__init__" = some (some (.ref fm9)))
    (im9 : PySem.W.isFn K (.ref fm9) = true)
    (lm9 : K.lookup fm9 = some ⟨ocm9, odm9, .func (PySem.W.fnOf "__init__" "Level.__init__" (defArgs sLevelInit) (defBody sLevelInit) (defScope sLevelInit) .none kVm9 dcm9 pmm9 anm9 cdm9 ctm9), slm9⟩)
    (cm9 : PySem.W.codeIn K cdm9 "Level.__init__" = true)
    (km9 : PySem.W.keepIn K (.ref fm9) = true)
    (tim9 : PySem.W.typeIn K (.ref fm9) = some (.type "function"))
    (am10 : PySem.W.findIn K (.ref Ez) "__eq__" = some (some (.ref fm10)))
    (im10 : PySem.W.isFn K (.ref fm10) = true)
    (lm10 : K.lookup fm10 = some ⟨ocm10, odm10, .func (PySem.W.fnOf "__eq__" "Paper.__eq__" (defArgs sPaperEq) (defBody sPaperEq) (defScope sPaperEq) .none kVm10 dcm10 pmm10 anm10 cdm10 ctm10), slm10⟩)
    (cm10 : PySem.W.codeIn K cdm10 "Paper.__eq__" = true)
    (km10 : PySem.W.keepIn K (.ref fm10) = true)
    (am11 : PySem.W.findIn K (.ref Ez) "__bool__" = some (some (.ref fm11)))
    (im11 : PySem.W.isFn K (.ref fm11) = true)
    (lm11 : K.lookup fm11 = some ⟨ocm11, odm11, .func (PySem.W.fnOf "__bool__" "Paper.__bool__" (defArgs sPaperBool) (defBody sPaperBool) (defScope sPaperBool) .none kVm11 dcm11 pmm11 anm11 cdm11 ctm11), slm11⟩)
    (cm11 : PySem.W.codeIn K cdm11 "Paper.__bool__" = true)
    (km11 : PySem.W.keepIn K (.ref fm11) = true)
    (am12 : PySem.W.findIn K (.ref C) "begun_at" = some (some (.ref fm12)))
    (im12 : PySem.W.isFn K (.ref fm12) = true)
    (lm12 : K.lookup fm12 = some ⟨ocm12, odm12, .func (PySem.W.fnOf "begun_at" "Ring.begun_at" (defArgs sRingBegunAt) (defBody sRingBegunAt) (defScope sRingBegunAt) .none kVm12 dcm12 pmm12 anm12 cdm12 ctm12), slm12⟩)
    (cm12 : PySem.W.codeIn K cdm12 "Ring.begun_at" = true)
    (km12 : PySem.W.keepIn K (.ref fm12) = true)
    (am13 : PySem.W.findIn K (.ref C) "with_length" = some (some (.ref fm13)))
    (im13 : PySem.W.isFn K (.ref fm13) = true)
    (lm13 : K.lookup fm13 = some ⟨ocm13, odm13, .func (PySem.W.fnOf "with_length" "Ring.with_length" (defArgs sRingWithLength) (defBody sRingWithLength) (defScope sRingWithLength) .none kVm13 dcm13 pmm13 anm13 cdm13 ctm13), slm13⟩)
    (cm13 : PySem.W.codeIn K cdm13 "Ring.with_length" = true)
    (km13 : PySem.W.keepIn K (.ref fm13) = true)
    (rC_pg : PySem.W.plainGet K C Str.empty = true)
    (rC_hd : PySem.W.hasDictIn K C = true)
    (rC_po : PySem.W.plainOver K C = true)
    (rC_sa : PySem.W.findIn K (.ref C) "__setattr__" = some (some (.builtin "object.__setattr__")))
    (rC_mk : PySem.W.makesIn K C = true)
    (rC_kc : PySem.W.keepIn K (.ref C) = true)
    (rC_ha : PySem.W.findIn K (.ref C) "__class__" = some (some (.builtin "object.__class__")))
    (rC_hm : PySem.W.mroIn K C (.type "object") = some true)
    (rC_n_lengths : PySem.W.findIn K (.ref C) "lengths" = some none)
    (rC_n_total : PySem.W.findIn K (.ref C) "total" = some none)
    (rC_n_closes : PySem.W.findIn K (.ref C) "closes" = some none)
    (rC_n_is_clear : PySem.W.findIn K (.ref C) "is_clear" = some none)
    (rEz_pg : PySem.W.plainGet K Ez Str.empty = true)
    (rEz_hd : PySem.W.hasDictIn K Ez = true)
    (rEz_po : PySem.W.plainOver K Ez = true)
    (rEz_sa : PySem.W.findIn K (.ref Ez) "__setattr__" = some (some (.builtin "object.__setattr__")))
    (rEz_mk : PySem.W.makesIn K Ez = true)
    (rEz_kc : PySem.W.keepIn K (.ref Ez) = true)
    (rEz_ha : PySem.W.findIn K (.ref Ez) "__class__" = some (some (.builtin "object.__class__")))
    (rEz_hm : PySem.W.mroIn K Ez (.type "object") = some true)
    (rEz_n_word : PySem.W.findIn K (.ref Ez) "word" = some none)
    (rEz_n_parts : PySem.W.findIn K (.ref Ez) "parts" = some none)
    (rEz_n_down : PySem.W.findIn K (.ref Ez) "down" = some none)
    (rEz_n_up : PySem.W.findIn K (.ref Ez) "up" = some none)
    (rEz_n_low_lot : PySem.W.findIn K (.ref Ez) "low_lot" = some none)
    (rEz_n_high_lot : PySem.W.findIn K (.ref Ez) "high_lot" = some none)
    (rhn : PySem.W.specialIn K (.builtin "object.__class__") "__get__" = some (some (.builtin "getset_descriptor.__get__")))
    (rht : PySem.W.takesIn K (.builtin "object.__class__") = some true)
    (kN : PySem.W.kitOne K (.type "NoneType") (.ref C) = some false)
    (kI : PySem.W.kitOne K (.type "int") (.ref C) = some false)
    (kS : PySem.W.kitOne K (.type "str") (.ref C) = some false)
    (kL : PySem.W.kitOne K (.type "list") (.ref C) = some false)
    (qlr : PySem.W.kitOne K (.ref eV) (.ref eR) = some false)
    (qln : PySem.W.kitOne K (.ref eV) (.ref eBn) = some false)
    (qlm : PySem.W.kitOne K (.ref eV) (.ref eM) = some false)
    (qlb : PySem.W.kitOne K (.ref eV) (.ref eN) = some false)
    (qbr : PySem.W.kitOne K (.ref eN) (.ref eR) = some false)
    (qbn : PySem.W.kitOne K (.ref eN) (.ref eBn) = some false)
    (qbm : PySem.W.kitOne K (.ref eN) (.ref eM) = some false)
    (kEP : PySem.W.kitOne K (.ref Ez) (.ref Pa) = some true)
    (kED : PySem.W.kitOne K (.ref Ez) (.ref Dn) = some false)
    (aeBn : PySem.W.nsIn K mainGlobals "BadNumber" = some (some (.ref eBn)))
    (aPa : PySem.W.nsIn K mainGlobals "Paper" = some (some (.ref Pa)))
    (aDn : PySem.W.nsIn K mainGlobals "Denial" = some (some (.ref Dn)))
    (aEi : PySem.W.findIn K (.ref Ez) "__init__" = some (some (.ref fE)))
    (iEi : PySem.W.isFn K (.ref fE) = true)
    (lEi : K.lookup fE = some ⟨ocE, odE, .func (PySem.W.fnX "__init__" "Slack.__init__" (defArgs sSlackInit) (defBody sSlackInit) (defScope sSlackInit) [(("__class__" : Str), ccE)] .none kVE dcE pmE anE (.ref cE) ctE), slE⟩)
    (cEi : PySem.W.codeIn K (.ref cE) "Slack.__init__" = true)
    (kEi : PySem.W.keepIn K (.ref fE) = true)
    (loE : K.lookup cE = some ⟨cclE, cddE, .fields vsE, ccsE⟩)
    (vsE2 : vsE[2]? = some (.str fileE tfE))
    (fiE : ((l.prog.main.file : Str) == fileE) = true)
    (ceE : K.lookup ccE = some ⟨kclE, kcdE, .cell (some (.ref Ez)), kcsE⟩)
    (topS : (l.prog.main.scope.names.lookup ("super" : Str)).isSome = false)
    (mEE : PySem.W.mroIn K Ez (.ref Ez) = some true)
    (thE : PySem.W.nsIn K cStatics "thirdparty.any" = some none)
    (toE : PySem.W.ks_superIn K Ez Ez "__init__" = some (some (.ref fPi)))
    (tyP : PySem.W.typeIn K (.ref fPi) = some (.type "function"))
    (fnP : PySem.W.fnIn K fPi = true)
    (lPi : K.lookup fPi = some ⟨ocP, odP, .func (PySem.W.fnOf "__init__" "Paper.__init__" (defArgs sPaperInit) (defBody sPaperInit) (defScope sPaperInit) .none kVP dcP pmP anP cdP ctP), slP⟩)
    (cPi : PySem.W.codeIn K cdP "Paper.__init__" = true)
    (kPi : PySem.W.keepIn K (.ref fPi) = true)
    (rdE : PySem.W.readsIn K Ez (.type "type") = true)
    (atE : PySem.W.findCls K (.ref Ez) (.type "type") "__name__" = some (.get (.builtin "getset_descriptor.__get__") (.builtin "type.__name__") (.ref Ez) (.type "type")))
    (tyE : PySem.W.typeIn K (.ref Ez) = some (.type "type"))
    (lkE : K.lookup Ez = some oE)
    (slE2 : oE.slots[2]? = some (some (.str "Slack" tkE)))
    (neE : PySem.W.findIn K (.ref Ez) "__ne__" = some (some (.builtin "object.__ne__")))
    (suE : PySem.W.subIn K (.ref Ez) (.type "object") = some true)
    (z_int : PySem.W.nsIn K mainGlobals "int" = some none)
    (z_len : PySem.W.nsIn K mainGlobals "len" = some none)
    (z_abs : PySem.W.nsIn K mainGlobals "abs" = some none)
    (z_list : PySem.W.nsIn K mainGlobals "list" = some none)
    (z_tuple : PySem.W.nsIn K mainGlobals "tuple" = some none)
    (z_bool : PySem.W.nsIn K mainGlobals "bool" = some none)
    (z_range : PySem.W.nsIn K mainGlobals "range" = some none)
    (z_sum : PySem.W.nsIn K mainGlobals "sum" = some none)
    (z_max : PySem.W.nsIn K mainGlobals "max" = some none)
    (z_all : PySem.W.nsIn K mainGlobals "all" = some none)
    (z_any : PySem.W.nsIn K mainGlobals "any" = some none)
    (z_sorted : PySem.W.nsIn K mainGlobals "sorted" = some none)
    (z_enumerate : PySem.W.nsIn K mainGlobals "enumerate" = some none)
    (z_isinstance : PySem.W.nsIn K mainGlobals "isinstance" = some none)
    (z_min : PySem.W.nsIn K mainGlobals "min" = some none)
    (z_super : PySem.W.nsIn K mainGlobals "super" = some none)
    (g_MOST_LENGTH : PySem.W.nsIn K mainGlobals "MOST_LENGTH" = some (some (.int 1000000 tkMOST_LENGTH)))
    (g_LEAST_BARS : PySem.W.nsIn K mainGlobals "LEAST_BARS" = some (some (.int 3 tkLEAST_BARS)))
    (g_MOST_BARS : PySem.W.nsIn K mainGlobals "MOST_BARS" = some (some (.int 8 tkMOST_BARS)))
    (xeR : K.lookup eR = some (excClassObj nmeR qqeR eR NeR bseR bmeR true sneR subeR abeR coleR ddeR k0eR k1eR k2eR k3eR k5eR "ValueError.__new__"))
    (rveR : PySem.HandSPX.refsVE bmeR = true)
    (saeR : PySem.W.findIn K (.ref eR) "__setattr__" = some (some (.builtin "object.__setattr__")))
    (eCeR : PySem.W.subIn K (.ref eR) (.type "BaseException") = some true)
    (tCeR : PySem.W.typeIn K (.ref eR) = some (.type "type"))
    (kCeR : PySem.W.keepIn K (.ref eR) = true)
    (nfeRpart : PySem.W.findIn K (.ref eR) "part" = some none)
    (gaeR : PySem.W.findIn K (.ref eR) "__getattribute__" = some (some (.builtin "BaseException.__getattribute__")))
    (ggeR : PySem.W.findIn K (.ref eR) "__getattr__" = some none)
    (hdeR : PySem.W.hasDictIn K eR = true)
    (haeR : PySem.W.findIn K (.ref eR) "__class__" = some (some (.builtin "object.__class__")))
    (hmeR : PySem.W.mroIn K eR (.type "object") = some true)
    (sbeR : PySem.W.subIn K (.ref eR) (.ref eX) = some true)
    (xeL : K.lookup eL = some (excClassObj nmeL qqeL eL NeL bseL bmeL true sneL subeL abeL coleL ddeL k0eL k1eL k2eL k3eL k5eL "ValueError.__new__"))
    (rveL : PySem.HandSPX.refsVE bmeL = true)
    (saeL : PySem.W.findIn K (.ref eL) "__setattr__" = some (some (.builtin "object.__setattr__")))
    (eCeL : PySem.W.subIn K (.ref eL) (.type "BaseException") = some true)
    (tCeL : PySem.W.typeIn K (.ref eL) = some (.type "type"))
    (kCeL : PySem.W.keepIn K (.ref eL) = true)
    (nfeLpart : PySem.W.findIn K (.ref eL) "part" = some none)
    (xeN : K.lookup eN = some (excClassObj nmeN qqeN eN NeN bseN bmeN true sneN subeN abeN coleN ddeN k0eN k1eN k2eN k3eN k5eN "ValueError.__new__"))
    (rveN : PySem.HandSPX.refsVE bmeN = true)
    (saeN : PySem.W.findIn K (.ref eN) "__setattr__" = some (some (.builtin "object.__setattr__")))
    (eCeN : PySem.W.subIn K (.ref eN) (.type "BaseException") = some true)
    (tCeN : PySem.W.typeIn K (.ref eN) = some (.type "type"))
    (kCeN : PySem.W.keepIn K (.ref eN) = true)
    (nfeNvalue : PySem.W.findIn K (.ref eN) "value" = some none)
    (gaeN : PySem.W.findIn K (.ref eN) "__getattribute__" = some (some (.builtin "BaseException.__getattribute__")))
    (ggeN : PySem.W.findIn K (.ref eN) "__getattr__" = some none)
    (hdeN : PySem.W.hasDictIn K eN = true)
    (haeN : PySem.W.findIn K (.ref eN) "__class__" = some (some (.builtin "object.__class__")))
    (hmeN : PySem.W.mroIn K eN (.type "object") = some true)
    (sbeN : PySem.W.subIn K (.ref eN) (.ref eX) = some true)
    (xeT : K.lookup eT = some (excClassObj nmeT qqeT eT NeT bseT bmeT true sneT subeT abeT coleT ddeT k0eT k1eT k2eT k3eT k5eT "ValueError.__new__"))
    (rveT : PySem.HandSPX.refsVE bmeT = true)
    (saeT : PySem.W.findIn K (.ref eT) "__setattr__" = some (some (.builtin "object.__setattr__")))
    (eCeT : PySem.W.subIn K (.ref eT) (.type "BaseException") = some true)
    (tCeT : PySem.W.typeIn K (.ref eT) = some (.type "type"))
    (kCeT : PySem.W.keepIn K (.ref eT) = true)
    (nfeTvalue : PySem.W.findIn K (.ref eT) "value" = some none)
    (xeM : K.lookup eM = some (excClassObj nmeM qqeM eM NeM bseM bmeM true sneM subeM abeM coleM ddeM k0eM k1eM k2eM k3eM k5eM "ValueError.__new__"))
    (rveM : PySem.HandSPX.refsVE bmeM = true)
    (saeM : PySem.W.findIn K (.ref eM) "__setattr__" = some (some (.builtin "object.__setattr__")))
    (eCeM : PySem.W.subIn K (.ref eM) (.type "BaseException") = some true)
    (tCeM : PySem.W.typeIn K (.ref eM) = some (.type "type"))
    (kCeM : PySem.W.keepIn K (.ref eM) = true)
    (nfeMpart : PySem.W.findIn K (.ref eM) "part" = some none)
    (xeV : K.lookup eV = some (excClassObj nmeV qqeV eV NeV bseV bmeV true sneV subeV abeV coleV ddeV k0eV k1eV k2eV k3eV k5eV "ValueError.__new__"))
    (rveV : PySem.HandSPX.refsVE bmeV = true)
    (saeV : PySem.W.findIn K (.ref eV) "__setattr__" = some (some (.builtin "object.__setattr__")))
    (eCeV : PySem.W.subIn K (.ref eV) (.type "BaseException") = some true)
    (tCeV : PySem.W.typeIn K (.ref eV) = some (.type "type"))
    (kCeV : PySem.W.keepIn K (.ref eV) = true)
    (nfeVlot : PySem.W.findIn K (.ref eV) "lot" = some none)
    (gaeV : PySem.W.findIn K (.ref eV) "__getattribute__" = some (some (.builtin "BaseException.__getattribute__")))
    (ggeV : PySem.W.findIn K (.ref eV) "__getattr__" = some none)
    (hdeV : PySem.W.hasDictIn K eV = true)
    (haeV : PySem.W.findIn K (.ref eV) "__class__" = some (some (.builtin "object.__class__")))
    (hmeV : PySem.W.mroIn K eV (.type "object") = some true)
    (sbeV : PySem.W.subIn K (.ref eV) (.ref eX) = some true)
    (eCeX : PySem.W.subIn K (.ref eX) (.type "BaseException") = some true)
    (hdeX : PySem.W.hasDictIn K eX = true)
    (tCeX : PySem.W.typeIn K (.ref eX) = some (.type "type"))
    (lc1 : K.lookup cLW = some ⟨.type "code", odc1, .fields vsc1, slc1⟩)
    (hdc1 : PySem.W.codeHdIn [(cLW, ⟨.type "code", odc1, .fields vsc1, slc1⟩)] cLW P1 = true)
    (nT1 : K.lookup P1 = none)
    (hT1 : h.get? P1 = some { cls := .none, data := .fields #[] })
    (lc2 : K.lookup cIO = some ⟨.type "code", odc2, .fields vsc2, slc2⟩)
    (hdc2 : PySem.W.codeHdIn [(cIO, ⟨.type "code", odc2, .fields vsc2, slc2⟩)] cIO P2 = true)
    (nT2 : K.lookup P2 = none)
    (hT2 : h.get? P2 = some { cls := .none, data := .fields #[] })
    (nP : P1 ≠ P2) :
    LawAtS l w K CX0 14 63 "_law_script" mg fa h := by
  have e := hfa.symm.trans (PySem.W.mg_of X G a47)
  cases e
  have gl : ∀ {x : Str} {v : Value}, PySem.W.nsIn K mainGlobals x = some (some v) → mg x = some v := fun q => PySem.W.mg_of X G q
  have T : Bi mg := ⟨PySem.W.mg_none_of X G z_int, PySem.W.mg_none_of X G z_len, PySem.W.mg_none_of X G z_abs, PySem.W.mg_none_of X G z_list, PySem.W.mg_none_of X G z_tuple, PySem.W.mg_none_of X G z_bool, PySem.W.mg_none_of X G z_range, PySem.W.mg_none_of X G z_sum, PySem.W.mg_none_of X G z_max, PySem.W.mg_none_of X G z_all, PySem.W.mg_none_of X G z_any, PySem.W.mg_none_of X G z_sorted, PySem.W.mg_none_of X G z_enumerate, PySem.W.mg_none_of X G z_isinstance⟩
  have N : Nm mg := ⟨⟨_, gl g_MOST_LENGTH⟩, ⟨_, gl g_LEAST_BARS⟩, ⟨_, gl g_MOST_BARS⟩⟩
  have B2 : Bi2 mg := ⟨PySem.W.mg_none_of X G z_min⟩
  have R : RingC K mg C := ⟨⟨rC_pg, rC_hd, rC_po, rC_sa⟩, rC_n_lengths, rC_n_total, rC_n_closes, rC_n_is_clear, gl aC, rC_ha, rhn, rht, rC_hm⟩
  have clE : Cls K Ez := ⟨rEz_pg, rEz_hd, rEz_po, rEz_sa⟩
  have EC : SlackC K mg Ez := ⟨⟨clE, rEz_n_word, rEz_n_parts⟩, rEz_n_down, rEz_n_up, rEz_n_low_lot, rEz_n_high_lot, gl aEz⟩
  have EI : C8.InsC K Ez := ⟨clE, rEz_ha, rhn, rht, rEz_hm, kit_self⟩
  have EM : NamC K Ez "Slack" := ⟨rdE, atE, tyE, ⟨_, _, lkE, slE2⟩⟩
  have NC : NoC K C := ⟨kN, kI, kS, kL⟩
  have oeR : OexC K eR := ⟨⟨_, _, _, _, _, _, _, _, _, _, _, _, _, _, _, xeR, rveR⟩, saeR, eCeR, tCeR, kCeR⟩
  have oeL : OexC K eL := ⟨⟨_, _, _, _, _, _, _, _, _, _, _, _, _, _, _, xeL, rveL⟩, saeL, eCeL, tCeL, kCeL⟩
  have oeN : OexC K eN := ⟨⟨_, _, _, _, _, _, _, _, _, _, _, _, _, _, _, xeN, rveN⟩, saeN, eCeN, tCeN, kCeN⟩
  have oeT : OexC K eT := ⟨⟨_, _, _, _, _, _, _, _, _, _, _, _, _, _, _, xeT, rveT⟩, saeT, eCeT, tCeT, kCeT⟩
  have oeM : OexC K eM := ⟨⟨_, _, _, _, _, _, _, _, _, _, _, _, _, _, _, xeM, rveM⟩, saeM, eCeM, tCeM, kCeM⟩
  have oeV : OexC K eV := ⟨⟨_, _, _, _, _, _, _, _, _, _, _, _, _, _, _, xeV, rveV⟩, saeV, eCeV, tCeV, kCeV⟩
  have Hc : HeardC K mg eR eBn eM eN eV eX := ⟨gl aeX, gl aeR, ⟨gaeR, ggeR, eCeR, hdeR, haeR, rhn, rht, hmeR⟩, ⟨gaeR, ggeR, eCeR, hdeR⟩, PySem.W.exm_ref eCeX hdeX tCeX sbeR, nfeRpart, gl aeBn, gl aeM, gl aeN, gl aeV, ⟨gaeV, ggeV, eCeV, hdeV, haeV, rhn, rht, hmeV⟩, ⟨gaeV, ggeV, eCeV, hdeV⟩, PySem.W.exm_ref eCeX hdeX tCeX sbeV, nfeVlot, qlr, qln, qlm, qlb, ⟨gaeN, ggeN, eCeN, hdeN, haeN, rhn, rht, hmeN⟩, ⟨gaeN, ggeN, eCeN, hdeN⟩, PySem.W.exm_ref eCeX hdeX tCeX sbeN, nfeNvalue, qbr, qbn, qbm⟩
  have F0 := fun_mk (st := sIsInteger) l0 c0 k0
  have b0 := F0.binds (ps := ["value"]) fun _ _ _ _ _ _ us hl => match us, hl with | [_], _ => rfl
  have F1 := fun_mk (st := sIsWithin) l1 c1 k1
  have b1 := F1.binds (ps := ["value", "least", "most"]) fun _ _ _ _ _ _ us hl => match us, hl with | [_, _, _], _ => rfl
  have F2 := fun_mk (st := sIsList) l2 c2 k2
  have b2 := F2.binds (ps := ["value"]) fun _ _ _ _ _ _ us hl => match us, hl with | [_], _ => rfl
  have F3 := fun_mk (st := sIsNumbers) l3 c3 k3
  have b3 := F3.binds (ps := ["value"]) fun _ _ _ _ _ _ us hl => match us, hl with | [_], _ => rfl
  have F4 := fun_mk (st := sFixed) l4 c4 k4
  have b4 := F4.binds (ps := ["value"]) fun _ _ _ _ _ _ us hl => match us, hl with | [_], _ => rfl
  have F5 := fun_mk (st := sFirstTwice) l5 c5 k5
  have b5 := F5.binds (ps := ["values"]) fun _ _ _ _ _ _ us hl => match us, hl with | [_], _ => rfl
  have F6 := fun_mk (st := sTwiceAt) l6 c6 k6
  have b6 := F6.binds (ps := ["values"]) fun _ _ _ _ _ _ us hl => match us, hl with | [_], _ => rfl
  have F7 := fun_mk (st := sWantNumber) l7 c7 k7
  have b7 := F7.binds (ps := ["value", "least", "most", "part"]) fun _ _ _ _ _ _ us hl => match us, hl with | [_, _, _, _], _ => rfl
  have F8 := fun_mk (st := sWantBar) l8 c8 k8
  have b8 := F8.binds (ps := ["value", "many"]) fun _ _ _ _ _ _ us hl => match us, hl with | [_, _], _ => rfl
  have F9 := fun_mk (st := sWantLot) l9 c9 k9
  have b9 := F9.binds (ps := ["value", "many", "part"]) fun _ _ _ _ _ _ us hl => match us, hl with | [_, _, _], _ => rfl
  have F10 := fun_mk (st := sSortBy) l10 c10 k10
  have b10 := F10.binds (ps := ["excess"]) fun _ _ _ _ _ _ us hl => match us, hl with | [_], _ => rfl
  have F11 := fun_mk (st := sExcessOf) l11 c11 k11
  have b11 := F11.binds (ps := ["lengths", "lot"]) fun _ _ _ _ _ _ us hl => match us, hl with | [_, _], _ => rfl
  have F12 := fun_mk (st := sAreLengths) l12 c12 k12
  have b12 := F12.binds (ps := ["value"]) fun _ _ _ _ _ _ us hl => match us, hl with | [_], _ => rfl
  have F13 := fun_mk (st := sHasLevel) l13 c13 k13
  have b13 := F13.binds (ps := ["lengths"]) fun _ _ _ _ _ _ us hl => match us, hl with | [_], _ => rfl
  have F14 := fun_mk (st := sWantRing) l14 c14 k14
  have b14 := F14.binds (ps := ["value", "part"]) fun _ _ _ _ _ _ us hl => match us, hl with | [_, _], _ => rfl
  have F15 := fun_mk (st := sLotsOf) l15 c15 k15
  have b15 := F15.binds (ps := ["many"]) fun _ _ _ _ _ _ us hl => match us, hl with | [_], _ => rfl
  have F16 := fun_mk (st := sLevelLots) l16 c16 k16
  have b16 := F16.binds (ps := ["ring"]) fun _ _ _ _ _ _ us hl => match us, hl with | [_], _ => rfl
  have F17 : FunC K "in_order" "in_order" sInOrder f17 _ cIO := ⟨⟨_, _, _, _, _, _, _, _, rfl, l17, c17⟩⟩
  have F170 := fun_mk (st := sInOrder) l17 c17 k17
  have b17 := F170.binds (ps := ["lots"]) fun _ _ _ _ _ _ us hl => match us, hl with | [_], _ => rfl
  have F18 := fun_mk (st := sLotsBySort) l18 c18 k18
  have b18 := F18.binds (ps := ["ring", "sort"]) fun _ _ _ _ _ _ us hl => match us, hl with | [_, _], _ => rfl
  have F19 := fun_mk (st := sWantNoLevel) l19 c19 k19
  have b19 := F19.binds (ps := ["ring"]) fun _ _ _ _ _ _ us hl => match us, hl with | [_], _ => rfl
  have F20 := fun_mk (st := sWantAsMany) l20 c20 k20
  have b20 := F20.binds (ps := ["one", "other"]) fun _ _ _ _ _ _ us hl => match us, hl with | [_, _], _ => rfl
  have F21 := fun_mk (st := sFirstUnlike) l21 c21 k21
  have b21 := F21.binds (ps := ["one", "other"]) fun _ _ _ _ _ _ us hl => match us, hl with | [_, _], _ => rfl
  have F22 := fun_mk (st := sSameBook) l22 c22 k22
  have b22 := F22.binds (ps := ["one", "other"]) fun _ _ _ _ _ _ us hl => match us, hl with | [_, _], _ => rfl
  have F23 := fun_mk (st := sIsExactly) l23 c23 k23
  have b23 := F23.binds (ps := ["value", "right"]) fun _ _ _ _ _ _ us hl => match us, hl with | [_, _], _ => rfl
  have F24 := fun_mk (st := sIsCalled) l24 c24 k24
  have b24 := F24.binds (ps := ["value", "name"]) fun _ _ _ _ _ _ us hl => match us, hl with | [_, _], _ => rfl
  have F25 := fun_mk (st := sAreEqual) l25 c25 k25
  have b25 := F25.binds (ps := ["one", "other"]) fun _ _ _ _ _ _ us hl => match us, hl with | [_, _], _ => rfl
  have F26 := fun_mk (st := sIsLot) l26 c26 k26
  have b26 := F26.binds (ps := ["value"]) fun _ _ _ _ _ _ us hl => match us, hl with | [_], _ => rfl
  have F27 := fun_mk (st := sIsLotOf) l27 c27 k27
  have b27 := F27.binds (ps := ["ring", "value"]) fun _ _ _ _ _ _ us hl => match us, hl with | [_, _], _ => rfl
  have F28 := fun_mk (st := sFirstOrNone) l28 c28 k28
  have b28 := F28.binds (ps := ["lots"]) fun _ _ _ _ _ _ us hl => match us, hl with | [_], _ => rfl
  have F29 := fun_mk (st := sSlackNumbers) l29 c29 k29
  have b29 := F29.binds (ps := ["ring", "bar"]) fun _ _ _ _ _ _ us hl => match us, hl with | [_, _], _ => rfl
  have F30 := fun_mk (st := sStopsDown) l30 c30 k30
  have b30 := F30.binds (ps := ["ring", "bar", "down", "lot"]) fun _ _ _ _ _ _ us hl => match us, hl with | [_, _, _, _], _ => rfl
  have F31 := fun_mk (st := sStopsUp) l31 c31 k31
  have b31 := F31.binds (ps := ["ring", "bar", "up", "lot"]) fun _ _ _ _ _ _ us hl => match us, hl with | [_, _, _, _], _ => rfl
  have F32 := fun_mk (st := sWantSlack) l32 c32 k32
  have b32 := F32.binds (ps := ["ring", "bar"]) fun _ _ _ _ _ _ us hl => match us, hl with | [_, _], _ => rfl
  have F33 := fun_mk (st := sSlack) l33 c33 k33
  have b33 := F33.binds (ps := ["ring", "bar"]) fun _ _ _ _ _ _ us hl => match us, hl with | [_, _], _ => rfl
  have F34 := fun_mk (st := sShowsSlack) l34 c34 k34
  have b34 := F34.binds (ps := ["ring", "bar", "value"]) fun _ _ _ _ _ _ us hl => match us, hl with | [_, _, _], _ => rfl
  have F35 := fun_mk (st := sLwReel) l35 c35 k35
  have b35 := F35.binds (ps := ["_law_script"]) fun _ _ _ _ _ _ us hl => match us, hl with | [_], _ => rfl
  have F36 := fun_mk (st := sLwWind) l36 c36 k36
  have b36 := F36.binds (ps := ["_law_reel_here", "_law_many"]) fun _ _ _ _ _ _ us hl => match us, hl with | [_, _], _ => rfl
  have F37 := fun_mk (st := sLwPick) l37 c37 k37
  have b37 := F37.binds (ps := ["_law_reel_here", "_law_some"]) fun _ _ _ _ _ _ us hl => match us, hl with | [_, _], _ => rfl
  have F38 := fun_mk (st := sLwLots) l38 c38 k38
  have b38 := F38.binds (ps := ["_law_many"]) fun _ _ _ _ _ _ us hl => match us, hl with | [_], _ => rfl
  have F39 := fun_mk (st := sLwGap) l39 c39 k39
  have b39 := F39.binds (ps := ["_law_lengths_here", "_law_lot"]) fun _ _ _ _ _ _ us hl => match us, hl with | [_, _], _ => rfl
  have F40 := fun_mk (st := sLwLengths) l40 c40 k40
  have b40 := F40.binds (ps := ["_law_reel_here", "_law_many"]) fun _ _ _ _ _ _ us hl => match us, hl with | [_, _], _ => rfl
  have F41 := fun_mk (st := sLwHeard) l41 c41 k41
  have b41 := F41.binds (ps := ["_law_ask"]) fun _ _ _ _ _ _ us hl => match us, hl with | [_], _ => rfl
  have F42 := fun_mk (st := sLwRing) l42 c42 k42
  have b42 := F42.binds (ps := ["_law_reel_here", "_law_many"]) fun _ _ _ _ _ _ us hl => match us, hl with | [_, _], _ => rfl
  have F43 := fun_mk (st := sLwBook) l43 c43 k43
  have b43 := F43.binds (ps := ["_law_lengths_here"]) fun _ _ _ _ _ _ us hl => match us, hl with | [_], _ => rfl
  have F44 := fun_mk (st := sLwWith) l44 c44 k44
  have b44 := F44.binds (ps := ["_law_lengths_here", "_law_bar", "_law_length"]) fun _ _ _ _ _ _ us hl => match us, hl with | [_, _, _], _ => rfl
  have F45 := fun_mk (st := sLwBetweenRight) l45 c45 k45
  have b45 := F45.binds (ps := ["_law_reel_here", "_law_ring_here", "_law_lengths_here", "_law_bar", "_law_told"]) fun _ _ _ _ _ _ us hl => match us, hl with | [_, _, _, _, _], _ => rfl
  have F46 := fun_mk (st := sLwSlackRight) l46 c46 k46
  have b46 := F46.binds (ps := ["_law_reel_here", "_law_lengths_here", "_law_bar"]) fun _ _ _ _ _ _ us hl => match us, hl with | [_, _, _], _ => rfl
  have F47 : FunC K "law" "law" sLaw fa _ cLW := ⟨⟨_, _, _, _, _, _, _, _, rfl, l47, c47⟩⟩
  have F470 := fun_mk (st := sLaw) l47 c47 k47
  have b47 := F470.binds (ps := ["_law_script"]) fun _ _ _ _ _ _ us hl => match us, hl with | [_], _ => rfl
  have Fm0 := fun_mk (st := sRingInit) lm0 cm0 km0
  have bm0 := Fm0.binds (ps := ["self", "lengths"]) fun _ _ _ _ _ _ us hl => match us, hl with | [_, _], _ => rfl
  have Fm1 := fun_mk (st := sRingLen) lm1 cm1 km1
  have bm1 := Fm1.binds (ps := ["self"]) fun _ _ _ _ _ _ us hl => match us, hl with | [_], _ => rfl
  have Fm2 := fun_mk (st := sRingLengthOf) lm2 cm2 km2
  have bm2 := Fm2.binds (ps := ["self", "lot"]) fun _ _ _ _ _ _ us hl => match us, hl with | [_, _], _ => rfl
  have Fm3 := fun_mk (st := sRingSortOf) lm3 cm3 km3
  have bm3 := Fm3.binds (ps := ["self", "lot"]) fun _ _ _ _ _ _ us hl => match us, hl with | [_, _], _ => rfl
  have Fm4 := fun_mk (st := sBadRingInit) lm4 cm4 km4
  have bm4 := Fm4.binds (ps := ["self", "part"]) fun _ _ _ _ _ _ us hl => match us, hl with | [_, _], _ => rfl
  have Fm5 := fun_mk (st := sBadLotInit) lm5 cm5 km5
  have bm5 := Fm5.binds (ps := ["self", "part"]) fun _ _ _ _ _ _ us hl => match us, hl with | [_, _], _ => rfl
  have Fm6 := fun_mk (st := sMissingInit) lm6 cm6 km6
  have bm6 := Fm6.binds (ps := ["self", "value"]) fun _ _ _ _ _ _ us hl => match us, hl with | [_, _], _ => rfl
  have Fm7 := fun_mk (st := sTwiceInit) lm7 cm7 km7
  have bm7 := Fm7.binds (ps := ["self", "value"]) fun _ _ _ _ _ _ us hl => match us, hl with | [_, _], _ => rfl
  have Fm8 := fun_mk (st := sMisfitInit) lm8 cm8 km8
  have bm8 := Fm8.binds (ps := ["self", "part"]) fun _ _ _ _ _ _ us hl => match us, hl with | [_, _], _ => rfl
  have Fm9 := fun_mk (st := sLevelInit) lm9 cm9 km9
  have bm9 := Fm9.binds (ps := ["self", "lot"]) fun _ _ _ _ _ _ us hl => match us, hl with | [_, _], _ => rfl
  have Fm10 := fun_mk (st := sPaperEq) lm10 cm10 km10
  have bm10 := Fm10.binds (ps := ["self", "other"]) fun _ _ _ _ _ _ us hl => match us, hl with | [_, _], _ => rfl
  have Fm11 := fun_mk (st := sPaperBool) lm11 cm11 km11
  have bm11 := Fm11.binds (ps := ["self"]) fun _ _ _ _ _ _ us hl => match us, hl with | [_], _ => rfl
  have Fm12 := fun_mk (st := sRingBegunAt) lm12 cm12 km12
  have bm12 := Fm12.binds (ps := ["self", "bar"]) fun _ _ _ _ _ _ us hl => match us, hl with | [_, _], _ => rfl
  have Fm13 := fun_mk (st := sRingWithLength) lm13 cm13 km13
  have bm13 := Fm13.binds (ps := ["self", "bar", "length"]) fun _ _ _ _ _ _ us hl => match us, hl with | [_, _, _], _ => rfl
  refine ⟨PySem.W.fnOf "law" "law" (defArgs sLaw) (defBody sLaw) (defScope sLaw) .none kV47 dc47 pm47 an47 (.ref cLW) ct47, [(cLW, P1), (cIO, P2)], spLaw K P1 P2, fun p hp => ?_, fun p hp => ?_, fun p hp => ?_, fun s v => .of_eq rfl, fun H a ns hl _ hT' hs => ?_, fun base KB GB TB => ?_⟩
  · rcases List.mem_cons.mp hp with e | e
    · rw [e]; exact hT1
    · rw [List.mem_singleton.mp e]; exact hT2
  · rcases List.mem_cons.mp hp with e | e
    · rw [e]; exact nT1
    · rw [List.mem_singleton.mp e]; exact nT2
  · rcases List.mem_cons.mp hp with e | e
    · rw [e]; exact PySem.W.codeHd_of_K X (code_hd lc1 hdc1)
    · rw [List.mem_singleton.mp e]; exact PySem.W.codeHd_of_K X (code_hd lc2 hdc2)
  · refine ⟨a, ns, rfl, hs, by omega, fun p hp => ?_, fun _ => rfl⟩
    rcases List.mem_cons.mp hp with e | e
    · rw [e]; exact TabS.nil (hT' _ (List.mem_cons_self ..))
    · rw [List.mem_singleton.mp e]; exact TabS.nil (hT' _ (List.mem_cons_of_mem _ (List.mem_singleton.mpr rfl)))
  · have tb1 := TB _ (List.mem_cons_self ..)
    have tb2 := TB _ (List.mem_cons_of_mem _ (List.mem_singleton.mpr rfl))
    have hm1 : (P1, qLaw) ∈ T2 P1 P2 := List.mem_cons_self ..
    have hm2 : (P2, qIO) ∈ T2 P1 P2 := List.mem_cons_of_mem _ (List.mem_singleton.mpr rfl)
    have hu1 : ∀ p ∈ T2 P1 P2, p.1 = P1 → p.2 = qLaw := fun p hp e => by
      rcases List.mem_cons.mp hp with z | z
      · rw [z]
      · rw [List.mem_singleton.mp z] at e
        exact absurd e.symm nP
    have hu2 : ∀ p ∈ T2 P1 P2, p.1 = P2 → p.2 = qIO := fun p hp e => by
      rcases List.mem_cons.mp hp with z | z
      · rw [z] at e
        exact absurd e nP
      · rw [List.mem_singleton.mp z]
    have dInt := (⟨ok_isInt F0 T, gl a0, k0, b0⟩ : DefAt l.prog w K mg base _ _ "is_integer" _ _ _ _)
    have dList := (⟨ok_isList F2 T, gl a2, k2, b2⟩ : DefAt l.prog w K mg base _ _ "is_list" _ _ _ _)
    have dWith := (⟨ok_within F1 dInt, gl a1, k1, b1⟩ : DefAt l.prog w K mg base _ _ "is_within" _ _ _ _)
    have dNO := (⟨ok_numsO F3 T dInt dList, gl a3, k3, b3⟩ : DefAt l.prog w K mg base _ _ "is_numbers" _ _ _ _)
    have dNL := (⟨ok_numsL F3 T dInt dList, gl a3, k3, b3⟩ : DefAt l.prog w K mg base _ _ "is_numbers" _ _ _ _)
    have dNT := (⟨ok_numsT F3 T dInt dList, gl a3, k3, b3⟩ : DefAt l.prog w K mg base _ _ "is_numbers" _ _ _ _)
    have eR' : ErrAt l.prog w K mg base "BadRing" "part" eR fm4 _ := ⟨oeR, am4, tim4, nfeRpart, gl aeR, bm4, ok_badRingI Fm4⟩
    have eL' : ErrAt l.prog w K mg base "BadLot" "part" eL fm5 _ := ⟨oeL, am5, tim5, nfeLpart, gl aeL, bm5, ok_badLotI Fm5⟩
    have eN' : ErrAt l.prog w K mg base "NoBar" "value" eN fm6 _ := ⟨oeN, am6, tim6, nfeNvalue, gl aeN, bm6, ok_missingI Fm6⟩
    have eT' : ErrAt l.prog w K mg base "Twice" "value" eT fm7 _ := ⟨oeT, am7, tim7, nfeTvalue, gl aeT, bm7, ok_twiceI Fm7⟩
    have eM' : ErrAt l.prog w K mg base "Misfit" "part" eM fm8 _ := ⟨oeM, am8, tim8, nfeMpart, gl aeM, bm8, ok_misfitI Fm8⟩
    have eV' : ErrAt l.prog w K mg base "Level" "lot" eV fm9 _ := ⟨oeV, am9, tim9, nfeVlot, gl aeV, bm9, ok_levelI Fm9⟩
    have dFx := (⟨ok_fixed F4 T, gl a4, k4, b4⟩ : DefAt l.prog w K mg base _ _ "fixed" _ _ _ _)
    have dAtL := (⟨ok_taL F6 T dFx, gl a6, k6, b6⟩ : DefAt l.prog w K mg base _ _ "twice_at" _ _ _ _)
    have dAtT := (⟨ok_taT F6 T dFx, gl a6, k6, b6⟩ : DefAt l.prog w K mg base _ _ "twice_at" _ _ _ _)
    have dTwL := (⟨ok_twL F5 dFx dAtL, gl a5, k5, b5⟩ : DefAt l.prog w K mg base _ _ "first_twice" _ _ _ _)
    have dTwT := (⟨ok_twT F5 dFx dAtT, gl a5, k5, b5⟩ : DefAt l.prog w K mg base _ _ "first_twice" _ _ _ _)
    have dF2 := at_fz (P := l.prog) (w := w) (base := base) F4 T (gl a4) k4 b4 2
    have dWB := (⟨ok_wantBar F8 dWith eN', gl a8, k8, b8⟩ : DefAt l.prog w K mg base _ _ "want_bar" _ _ _ _)
    have dWithG := (⟨ok_withinG F1 dInt, gl a1, k1, b1⟩ : DefAt l.prog w K mg base _ _ "is_within" _ _ _ _)
    have dBarG := (⟨ok_barG F8 dWithG eN', gl a8, k8, b8⟩ : DefAt l.prog w K mg base _ _ "want_bar" _ _ _ _)
    have w1 := ok_wlO (c := ⟨eL, eN, eT⟩) F9 T dNO dWB dTwL eL' eT'
    have w2 := ok_wlL (c := ⟨eL, eN, eT⟩) F9 T dNL dWB dTwL eL' eT'
    have w3 := ok_wlT (c := ⟨eL, eN, eT⟩) F9 T dNT dWB dTwT eL' eT'
    have dWL := (⟨ok_wl w1 w2 w3, gl a9, k9, b9⟩ : DefAt l.prog w K mg base _ _ "want_lot" _ _ _ _)
    have dSB := (⟨ok_sortBy F10, gl a10, k10, b10⟩ : DefAt l.prog w K mg base _ _ "sort_by" _ _ _ _)
    have dAL := (⟨ok_areL F12 T N dWith dList, gl a12, k12, b12⟩ : DefAt l.prog w K mg base _ _ "are_lengths" _ _ _ _)
    have dHL := (⟨ok_hasL F13 T, gl a13, k13, b13⟩ : DefAt l.prog w K mg base _ _ "has_level" _ _ _ _)
    have dNum := (⟨ok_numV F7 dWith, gl a7, k7, b7⟩ : DefAt l.prog w K mg base _ _ "want_number" _ _ _ _)
    have dAT := (⟨_root_.K.T.ok_areT F12 T N dWith dList, gl a12, k12, b12⟩ : DefAt l.prog w K mg base _ _ "are_lengths" _ _ _ _)
    have dBarT := (⟨_root_.K.T.ok_barV F8 dWith, gl a8, k8, b8⟩ : DefAt l.prog w K mg base _ _ "want_bar" _ _ _ _)
    have dNumT := (⟨_root_.K.T.ok_numV F7 dWith, gl a7, k7, b7⟩ : DefAt l.prog w K mg base _ _ "want_number" _ _ _ _)
    have dA1 := (⟨_root_.K.T1.ok_areT F12 T N dWith dList, gl a12, k12, b12⟩ : DefAt l.prog w K mg base _ _ "are_lengths" _ _ _ _)
    have dBar1 := (⟨_root_.K.T1.ok_barV F8 dWith, gl a8, k8, b8⟩ : DefAt l.prog w K mg base _ _ "want_bar" _ _ _ _)
    have dNum1 := (⟨_root_.K.T1.ok_numV F7 dWith, gl a7, k7, b7⟩ : DefAt l.prog w K mg base _ _ "want_number" _ _ _ _)
    have ri := ok_ri (P := l.prog) (w := w) (base := base) Fm0 T N R dAL dHL
    have Gp : RingP l.prog w K mg base C fm0 _ := ⟨⟨rC_mk, am0, im0, rC_kc⟩, ri, bm0⟩
    have GT : _root_.K.T.RingP l.prog w K mg base C fm0 _ _ _ _ _ := ⟨⟨rC_mk, am0, im0, rC_kc⟩, fn_or ri (_root_.K.T.ok_riT (P := l.prog) (w := w) (base := base) Fm0 T N R dAT dHL), bm0, dBarT, dNumT⟩
    have G1 : _root_.K.T1.RingP l.prog w K mg base C fm0 _ _ _ _ _ := ⟨⟨rC_mk, am0, im0, rC_kc⟩, fn_or ri (_root_.K.T1.ok_riT (P := l.prog) (w := w) (base := base) Fm0 T N R dA1 dHL), bm0, dBar1, dNum1⟩
    have mBeg : MethV l.prog w K mg base C "begun_at" _ _ fm12 _ := ⟨⟨am12, im12, km12⟩, _root_.K.T.ok_begun Fm12 T R GT, bm12⟩
    have mWith : MethV l.prog w K mg base C "with_length" _ _ fm13 _ := ⟨⟨am13, im13, km13⟩, _root_.K.T1.ok_with Fm13 T N R G1, bm13⟩
    have NL := ok_rlen (P := l.prog) (w := w) (base := base) Fm1 T R
    have NM : Meth K C "__len__" fm1 := ⟨am1, im1, km1⟩
    have gLO := ok_lenOf (P := l.prog) (w := w) (base := base) Fm2 T R dWL
    have gSO := ok_sortOf (P := l.prog) (w := w) (base := base) Fm3 R ⟨am2, im2, km2⟩ gLO bm2 dSB
    have MS : MethV l.prog w K mg base C "sort_of" _ _ fm3 _ := ⟨⟨am3, im3, km3⟩, ok_sortVal gSO, bm3⟩
    have dWR := (⟨ok_wantR F14 T R eR', gl a14, k14, b14⟩ : DefAt l.prog w K mg base _ _ "want_ring" _ _ _ _)
    have dIO := (⟨ok_inOrd F17 T tb2 hm2 hu2, gl a17, k17, b17⟩ : DefAt l.prog w K mg base _ _ "in_order" _ _ _ _)
    have dLO := (⟨ok_lotsOf F15 T N dNum dIO, gl a15, k15, b15⟩ : DefAt l.prog w K mg base _ _ "lots_of" _ _ _ _)
    have dBY := (⟨ok_by F18 T R dLO MS NM NL bm1, gl a18, k18, b18⟩ : DefAt l.prog w K mg base _ _ "lots_by_sort" _ _ _ _)
    have dLV := (⟨ok_level F16 dWR dBY, gl a16, k16, b16⟩ : DefAt l.prog w K mg base _ _ "level_lots" _ _ _ _)
    have dWN := (⟨ok_wnl F19 R dLV eV', gl a19, k19, b19⟩ : DefAt l.prog w K mg base _ _ "want_no_level" _ _ _ _)
    have dAM := (⟨ok_asM F20 eM', gl a20, k20, b20⟩ : DefAt l.prog w K mg base _ _ "want_as_many" _ _ _ _)
    have dFU := (⟨ok_fu F21 T R dWR dAM dLO MS NM NL bm1, gl a21, k21, b21⟩ : DefAt l.prog w K mg base _ _ "first_unlike" _ _ _ _)
    have dSm := (⟨ok_sb F22 T dFU, gl a22, k22, b22⟩ : DefAt l.prog w K mg base _ _ "same_book" _ _ _ _)
    have dSmC := (⟨ok_sbc dSm.ok, gl a22, k22, b22⟩ : DefAt l.prog w K mg base _ _ "same_book" _ _ _ _)
    have dEx := (⟨ok_ex F11 T, gl a11, k11, b11⟩ : DefAt l.prog w K mg base _ _ "excess_of" _ _ _ _)
    have FEi : FunS K "__init__" "Slack.__init__" sSlackInit fE cE ccE _ := ⟨⟨_, _, _, _, _, _, _, _, rfl, lEi, cEi⟩, kEi⟩
    have bEi := FEi.binds (ps := ["self", "down", "up", "low_lot", "high_lot"]) fun _ _ _ _ _ us hl => match us, hl with | [_, _, _, _, _], _ => rfl
    have SA : SupAt l.prog K mg (nfS sSlackInit "__init__" "Slack.__init__" ccE cE) fE Ez ccE := ⟨rfl, ⟨_, rfl, rfl⟩, ⟨_, _, _, _, _, _, loE, vsE2, fiE⟩, ⟨_, _, _, ceE⟩, (let ⟨cd, hc, _⟩ := PySem.W.any_some clE.hd; ⟨cd, hc⟩), PySem.W.mg_none_of X G z_super, topS, show (defScope sSlackInit).names.lookup ("super" : Str) = some .globalImplicit by decide +kernel⟩
    have ST : SupTo K Ez Ez fPi := ⟨mEE, thE, toE, tyP, fnP⟩
    have FPi := fun_mk (st := sPaperInit) lPi cPi kPi
    have EP : SlackP l.prog w K mg base Ez fE _ := ⟨⟨rEz_mk, aEi, iEi, rEz_kc⟩, ok_si (P := l.prog) (w := w) (base := base) (n := 1) FEi SA EC ST (ok_pi (n := 1) FPi dF2), bEi⟩
    have dIX := at_ix (P := l.prog) (w := w) (base := base) F23 T dInt (gl a23) k23 b23 1
    have dIC := (⟨ok_ic F24, gl a24, k24, b24⟩ : DefAt l.prog w K mg base _ _ "is_called" _ _ _ _)
    have dAE := (⟨ok_ae (C := Ez) (word := "slack") (nm := "Slack") (n := 1) F25, gl a25, k25, b25⟩ : DefAt l.prog w K mg base _ _ "are_equal" _ _ _ _)
    have PQ : PapQ l.prog w K mg base Ez fm10 _ "slack" "Slack" 1 := ⟨ok_pe Fm10 T (gl aPa) kEP dAE, neE, suE, am10, im10, bm10⟩
    have PB := ok_pb (P := l.prog) (w := w) (mg := mg) (base := base) Fm11
    have dIL := (⟨ok_il F26 T dNT, gl a26, k26, b26⟩ : DefAt l.prog w K mg base _ _ "is_lot" _ _ _ _)
    have dILO := (⟨ok_io F27 T dIL NM NL bm1, gl a27, k27, b27⟩ : DefAt l.prog w K mg base _ _ "is_lot_of" _ _ _ _)
    have dFN := (⟨ok_fn F28 T, gl a28, k28, b28⟩ : DefAt l.prog w K mg base _ _ "first_or_none" _ _ _ _)
    have dSN := (⟨ok_sn F29 T B2 R dEx dLO NM NL bm1, gl a29, k29, b29⟩ : DefAt l.prog w K mg base _ _ "slack_numbers" _ _ _ _)
    have dSD := (⟨ok_sd F30 R dEx, gl a30, k30, b30⟩ : DefAt l.prog w K mg base _ _ "stops_down" _ _ _ _)
    have dSU := (⟨ok_su F31 R dEx, gl a31, k31, b31⟩ : DefAt l.prog w K mg base _ _ "stops_up" _ _ _ _)
    have dWS := (⟨ok_ws F32 T dWR dBarG dWN NM NL bm1, gl a32, k32, b32⟩ : DefAt l.prog w K mg base _ _ "want_slack" _ _ _ _)
    have dSL := (⟨ok_sl F33 T EC EP dWS dSN dSD dSU dLO dFN NM NL bm1, gl a33, k33, b33⟩ : DefAt l.prog w K mg base _ _ "slack" _ _ _ _)
    have dSH := (⟨ok_sh F34 T R EC EI EM dWS dSN dSD dSU dIC dIX dILO, gl a34, k34, b34⟩ : DefAt l.prog w K mg base _ _ "shows_slack" _ _ _ _)
    have dSLc := (⟨ok_slc dSL.ok, gl a33, k33, b33⟩ : DefAt l.prog w K mg base _ _ "slack" _ _ _ _)
    have dSHc := (⟨ok_shc dSH.ok, gl a34, k34, b34⟩ : DefAt l.prog w K mg base _ _ "shows_slack" _ _ _ _)
    have kb2 : KBinds K _ ["ring", "bar"] ["bar", "ring"] gK2 gK2 := kb_two (fun b r s => .of_eq rfl) (fd := PySem.W.fnOf "slack" "slack" (defArgs sSlack) (defBody sSlack) (defScope sSlack) .none kV33 dc33 pm33 an33 cd33 ct33)
    have dDr : DrawAt l.prog w K mg base _ _ := ⟨ok_draw F36 T, gl a36, k36, b36⟩
    have dPn := (⟨ok_pen F35 T, gl a35, k35, b35⟩ : DefAt l.prog w K mg base _ _ "_law_reel" _ _ _ _)
    have dPk := (⟨ok_pick F37 T dDr, gl a37, k37, b37⟩ : DefAt l.prog w K mg base _ _ "_law_pick" _ _ _ _)
    have dLN := (⟨ok_lengths F40 T dDr, gl a40, k40, b40⟩ : DefAt l.prog w K mg base _ _ "_law_lengths" _ _ _ _)
    have dLL := (⟨ok_lots F38 T, gl a38, k38, b38⟩ : DefAt l.prog w K mg base _ _ "_law_lots" _ _ _ _)
    have dGP := (⟨ok_gap F39 T, gl a39, k39, b39⟩ : DefAt l.prog w K mg base _ _ "_law_gap" _ _ _ _)
    have dLR := (⟨ok_lr F42 T dLN dLL dGP, gl a42, k42, b42⟩ : DefAt l.prog w K mg base _ _ "_law_ring" _ _ _ _)
    have dBK := (⟨ok_bk F43 T dLL dGP, gl a43, k43, b43⟩ : DefAt l.prog w K mg base _ _ "_law_book" _ _ _ _)
    have dWT := (⟨ok_wt F44, gl a44, k44, b44⟩ : DefAt l.prog w K mg base _ _ "_law_with" _ _ _ _)
    have dBR := (⟨ok_br F45 T B2 R EC dDr mWith dSmC, gl a45, k45, b45⟩ : DefAt l.prog w K mg base _ _ "_law_between_right" _ _ _ _)
    have dSR := (⟨ok_sr F46 T Gp R EC EI EM (gl aDn) kED PB bm11 am11 im11 PQ dSLc kb2 dSHc dGP dBK dWT dBR, gl a46, k46, b46⟩ : DefAt l.prog w K mg base _ _ "_law_slack_right" _ _ _ _)
    exact ok_law F47 T dPn dPk dDr dLR dSR dSLc dSL dSH mBeg Gp R EC NC Hc tb1 hm1 hu1 F41 b41 (gl a41)
end K
open PySem PySem.W PyProof.Rows in
set_option maxRecDepth 100000 in
set_option maxHeartbeats 0 in
theorem PySem.Challenge.cw_ringbars_k61_how_far_a_length_may_change_holds : PySem.Challenge.rw_ringbars_k61_how_far_a_length_may_change.Holds := by
  w_on; o_law; k_head; (case hw => w_witness2)
  k_fill
  refine LamX.walk_ofTs (l := PySem.Challenge.rw_ringbars_k61_how_far_a_length_may_change) (n := 63) (k := 14) (x := "_law_script") (CX := fun _ => L2.CX0) rfl (by decide) rfl ⟨rfl, by decide, by decide⟩ (fun w h Y => PySem.W.km_in_of Y) ?F (fun _ _ _ _ _ z => z)
  case F =>
    intro w mg fa h Y KX G hmg
    refine' K.all_mk KX G hmg ?aC ?aEz ?aeX ?aeR ?aeL ?aeN ?aeT ?aeM ?aeV ?a0 ?l0 ?c0 ?k0 ?a1 ?l1 ?c1 ?k1 ?a2 ?l2 ?c2 ?k2 ?a3 ?l3 ?c3 ?k3 ?a4 ?l4 ?c4 ?k4 ?a5 ?l5 ?c5 ?k5 ?a6 ?l6 ?c6 ?k6 ?a7 ?l7 ?c7 ?k7 ?a8 ?l8 ?c8 ?k8 ?a9 ?l9 ?c9 ?k9 ?a10 ?l10 ?c10 ?k10 ?a11 ?l11 ?c11 ?k11 ?a12 ?l12 ?c12 ?k12 ?a13 ?l13 ?c13 ?k13 ?a14 ?l14 ?c14 ?k14 ?a15 ?l15 ?c15 ?k15 ?a16 ?l16 ?c16 ?k16 ?a17 ?l17 ?c17 ?k17 ?a18 ?l18 ?c18 ?k18 ?a19 ?l19 ?c19 ?k19 ?a20 ?l20 ?c20 ?k20 ?a21 ?l21 ?c21 ?k21 ?a22 ?l22 ?c22 ?k22 ?a23 ?l23 ?c23 ?k23 ?a24 ?l24 ?c24 ?k24 ?a25 ?l25 ?c25 ?k25 ?a26 ?l26 ?c26 ?k26 ?a27 ?l27 ?c27 ?k27 ?a28 ?l28 ?c28 ?k28 ?a29 ?l29 ?c29 ?k29 ?a30 ?l30 ?c30 ?k30 ?a31 ?l31 ?c31 ?k31 ?a32 ?l32 ?c32 ?k32 ?a33 ?l33 ?c33 ?k33 ?a34 ?l34 ?c34 ?k34 ?a35 ?l35 ?c35 ?k35 ?a36 ?l36 ?c36 ?k36 ?a37 ?l37 ?c37 ?k37 ?a38 ?l38 ?c38 ?k38 ?a39 ?l39 ?c39 ?k39 ?a40 ?l40 ?c40 ?k40 ?a41 ?l41 ?c41 ?k41 ?a42 ?l42 ?c42 ?k42 ?a43 ?l43 ?c43 ?k43 ?a44 ?l44 ?c44 ?k44 ?a45 ?l45 ?c45 ?k45 ?a46 ?l46 ?c46 ?k46 ?a47 ?l47 ?c47 ?k47 ?am0 ?im0 ?lm0 ?cm0 ?km0 ?am1 ?im1 ?lm1 ?cm1 ?km1 ?am2 ?im2 ?lm2 ?cm2 ?km2 ?am3 ?im3 ?lm3 ?cm3 ?km3 ?am4 ?im4 ?lm4 ?cm4 ?km4 ?tim4 ?am5 ?im5 ?lm5 ?cm5 ?km5 ?tim5 ?am6 ?im6 ?lm6 ?cm6 ?km6 ?tim6 ?am7 ?im7 ?lm7 ?cm7 ?km7 ?tim7 ?am8 ?im8 ?lm8 ?cm8 ?km8 ?tim8 ?am9 ?im9 ?lm9 ?cm9 ?km9 ?tim9 ?am10 ?im10 ?lm10 ?cm10 ?km10 ?am11 ?im11 ?lm11 ?cm11 ?km11 ?am12 ?im12 ?lm12 ?cm12 ?km12 ?am13 ?im13 ?lm13 ?cm13 ?km13 ?rC_pg ?rC_hd ?rC_po ?rC_sa ?rC_mk ?rC_kc ?rC_ha ?rC_hm ?rC_n_lengths ?rC_n_total ?rC_n_closes ?rC_n_is_clear ?rEz_pg ?rEz_hd ?rEz_po ?rEz_sa ?rEz_mk ?rEz_kc ?rEz_ha ?rEz_hm ?rEz_n_word ?rEz_n_parts ?rEz_n_down ?rEz_n_up ?rEz_n_low_lot ?rEz_n_high_lot ?rhn ?rht ?kN ?kI ?kS ?kL ?qlr ?qln ?qlm ?qlb ?qbr ?qbn ?qbm ?kEP ?kED ?aeBn ?aPa ?aDn ?aEi ?iEi ?lEi ?cEi ?kEi ?loE ?vsE2 ?fiE ?ceE ?topS ?mEE ?thE ?toE ?tyP ?fnP ?lPi ?cPi ?kPi ?rdE ?atE ?tyE ?lkE ?slE2 ?neE ?suE ?z_int ?z_len ?z_abs ?z_list ?z_tuple ?z_bool ?z_range ?z_sum ?z_max ?z_all ?z_any ?z_sorted ?z_enumerate ?z_isinstance ?z_min ?z_super ?g_MOST_LENGTH ?g_LEAST_BARS ?g_MOST_BARS ?xeR ?rveR ?saeR ?eCeR ?tCeR ?kCeR ?nfeRpart ?gaeR ?ggeR ?hdeR ?haeR ?hmeR ?sbeR ?xeL ?rveL ?saeL ?eCeL ?tCeL ?kCeL ?nfeLpart ?xeN ?rveN ?saeN ?eCeN ?tCeN ?kCeN ?nfeNvalue ?gaeN ?ggeN ?hdeN ?haeN ?hmeN ?sbeN ?xeT ?rveT ?saeT ?eCeT ?tCeT ?kCeT ?nfeTvalue ?xeM ?rveM ?saeM ?eCeM ?tCeM ?kCeM ?nfeMpart ?xeV ?rveV ?saeV ?eCeV ?tCeV ?kCeV ?nfeVlot ?gaeV ?ggeV ?hdeV ?haeV ?hmeV ?sbeV ?eCeX ?hdeX ?tCeX ?lc1 ?hdc1 ?nT1 ?hT1 ?lc2 ?hdc2 ?nT2 ?hT2 ?nP
    (case hT2 => exact PySem.W.km_tabs_of Y _ (List.mem_cons_self ..))
    (case hT1 => exact PySem.W.km_tabs_of Y _ (List.mem_cons_of_mem _ (List.mem_cons_self ..)))
    (case aC => k_is)
    (case aEz => k_is)
    (case aeX => k_is)
    (case aeBn => k_is)
    (case aPa => k_is)
    (case aDn => k_is)
    (case aeR => k_is)
    (case aeL => k_is)
    (case aeN => k_is)
    (case aeT => k_is)
    (case aeM => k_is)
    (case aeV => k_is)
    (case a0 => k_is)
    (case l0 => k_is)
    (case c0 => k_is)
    (case k0 => k_is)
    (case a1 => k_is)
    (case l1 => k_is)
    (case c1 => k_is)
    (case k1 => k_is)
    (case a2 => k_is)
    (case l2 => k_is)
    (case c2 => k_is)
    (case k2 => k_is)
    (case a3 => k_is)
    (case l3 => k_is)
    (case c3 => k_is)
    (case k3 => k_is)
    (case a4 => k_is)
    (case l4 => k_is)
    (case c4 => k_is)
    (case k4 => k_is)
    (case a5 => k_is)
    (case l5 => k_is)
    (case c5 => k_is)
    (case k5 => k_is)
    (case a6 => k_is)
    (case l6 => k_is)
    (case c6 => k_is)
    (case k6 => k_is)
    (case a7 => k_is)
    (case l7 => k_is)
    (case c7 => k_is)
    (case k7 => k_is)
    (case a8 => k_is)
    (case l8 => k_is)
    (case c8 => k_is)
    (case k8 => k_is)
    (case a9 => k_is)
    (case l9 => k_is)
    (case c9 => k_is)
    (case k9 => k_is)
    (case a10 => k_is)
    (case l10 => k_is)
    (case c10 => k_is)
    (case k10 => k_is)
    (case a11 => k_is)
    (case l11 => k_is)
    (case c11 => k_is)
    (case k11 => k_is)
    (case a12 => k_is)
    (case l12 => k_is)
    (case c12 => k_is)
    (case k12 => k_is)
    (case a13 => k_is)
    (case l13 => k_is)
    (case c13 => k_is)
    (case k13 => k_is)
    (case a14 => k_is)
    (case l14 => k_is)
    (case c14 => k_is)
    (case k14 => k_is)
    (case a15 => k_is)
    (case l15 => k_is)
    (case c15 => k_is)
    (case k15 => k_is)
    (case a16 => k_is)
    (case l16 => k_is)
    (case c16 => k_is)
    (case k16 => k_is)
    (case a17 => k_is)
    (case l17 => k_is)
    (case c17 => k_is)
    (case k17 => k_is)
    (case a18 => k_is)
    (case l18 => k_is)
    (case c18 => k_is)
    (case k18 => k_is)
    (case a19 => k_is)
    (case l19 => k_is)
    (case c19 => k_is)
    (case k19 => k_is)
    (case a20 => k_is)
    (case l20 => k_is)
    (case c20 => k_is)
    (case k20 => k_is)
    (case a21 => k_is)
    (case l21 => k_is)
    (case c21 => k_is)
    (case k21 => k_is)
    (case a22 => k_is)
    (case l22 => k_is)
    (case c22 => k_is)
    (case k22 => k_is)
    (case a23 => k_is)
    (case l23 => k_is)
    (case c23 => k_is)
    (case k23 => k_is)
    (case a24 => k_is)
    (case l24 => k_is)
    (case c24 => k_is)
    (case k24 => k_is)
    (case a25 => k_is)
    (case l25 => k_is)
    (case c25 => k_is)
    (case k25 => k_is)
    (case a26 => k_is)
    (case l26 => k_is)
    (case c26 => k_is)
    (case k26 => k_is)
    (case a27 => k_is)
    (case l27 => k_is)
    (case c27 => k_is)
    (case k27 => k_is)
    (case a28 => k_is)
    (case l28 => k_is)
    (case c28 => k_is)
    (case k28 => k_is)
    (case a29 => k_is)
    (case l29 => k_is)
    (case c29 => k_is)
    (case k29 => k_is)
    (case a30 => k_is)
    (case l30 => k_is)
    (case c30 => k_is)
    (case k30 => k_is)
    (case a31 => k_is)
    (case l31 => k_is)
    (case c31 => k_is)
    (case k31 => k_is)
    (case a32 => k_is)
    (case l32 => k_is)
    (case c32 => k_is)
    (case k32 => k_is)
    (case a33 => k_is)
    (case l33 => k_is)
    (case c33 => k_is)
    (case k33 => k_is)
    (case a34 => k_is)
    (case l34 => k_is)
    (case c34 => k_is)
    (case k34 => k_is)
    (case a35 => k_is)
    (case l35 => k_is)
    (case c35 => k_is)
    (case k35 => k_is)
    (case a36 => k_is)
    (case l36 => k_is)
    (case c36 => k_is)
    (case k36 => k_is)
    (case a37 => k_is)
    (case l37 => k_is)
    (case c37 => k_is)
    (case k37 => k_is)
    (case a38 => k_is)
    (case l38 => k_is)
    (case c38 => k_is)
    (case k38 => k_is)
    (case a39 => k_is)
    (case l39 => k_is)
    (case c39 => k_is)
    (case k39 => k_is)
    (case a40 => k_is)
    (case l40 => k_is)
    (case c40 => k_is)
    (case k40 => k_is)
    (case a41 => k_is)
    (case l41 => k_is)
    (case c41 => k_is)
    (case k41 => k_is)
    (case a42 => k_is)
    (case l42 => k_is)
    (case c42 => k_is)
    (case k42 => k_is)
    (case a43 => k_is)
    (case l43 => k_is)
    (case c43 => k_is)
    (case k43 => k_is)
    (case a44 => k_is)
    (case l44 => k_is)
    (case c44 => k_is)
    (case k44 => k_is)
    (case a45 => k_is)
    (case l45 => k_is)
    (case c45 => k_is)
    (case k45 => k_is)
    (case a46 => k_is)
    (case l46 => k_is)
    (case c46 => k_is)
    (case k46 => k_is)
    (case a47 => k_is)
    (case l47 => k_is)
    (case c47 => k_is)
    (case k47 => k_is)
    (case am0 => k_is)
    (case im0 => k_is)
    (case lm0 => k_is)
    (case cm0 => k_is)
    (case km0 => k_is)
    (case am1 => k_is)
    (case im1 => k_is)
    (case lm1 => k_is)
    (case cm1 => k_is)
    (case km1 => k_is)
    (case am2 => k_is)
    (case im2 => k_is)
    (case lm2 => k_is)
    (case cm2 => k_is)
    (case km2 => k_is)
    (case am3 => k_is)
    (case im3 => k_is)
    (case lm3 => k_is)
    (case cm3 => k_is)
    (case km3 => k_is)
    (case am4 => k_is)
    (case im4 => k_is)
    (case lm4 => k_is)
    (case cm4 => k_is)
    (case km4 => k_is)
    (case tim4 => k_is)
    (case am5 => k_is)
    (case im5 => k_is)
    (case lm5 => k_is)
    (case cm5 => k_is)
    (case km5 => k_is)
    (case tim5 => k_is)
    (case am6 => k_is)
    (case im6 => k_is)
    (case lm6 => k_is)
    (case cm6 => k_is)
    (case km6 => k_is)
    (case tim6 => k_is)
    (case am7 => k_is)
    (case im7 => k_is)
    (case lm7 => k_is)
    (case cm7 => k_is)
    (case km7 => k_is)
    (case tim7 => k_is)
    (case am8 => k_is)
    (case im8 => k_is)
    (case lm8 => k_is)
    (case cm8 => k_is)
    (case km8 => k_is)
    (case tim8 => k_is)
    (case am9 => k_is)
    (case im9 => k_is)
    (case lm9 => k_is)
    (case cm9 => k_is)
    (case km9 => k_is)
    (case tim9 => k_is)
    (case am10 => k_is)
    (case im10 => k_is)
    (case lm10 => k_is)
    (case cm10 => k_is)
    (case km10 => k_is)
    (case am11 => k_is)
    (case im11 => k_is)
    (case lm11 => k_is)
    (case cm11 => k_is)
    (case km11 => k_is)
    (case am12 => k_is)
    (case im12 => k_is)
    (case lm12 => k_is)
    (case cm12 => k_is)
    (case km12 => k_is)
    (case am13 => k_is)
    (case im13 => k_is)
    (case lm13 => k_is)
    (case cm13 => k_is)
    (case km13 => k_is)
    (case rC_pg => k_is)
    (case rC_hd => k_is)
    (case rC_po => k_is)
    (case rC_sa => k_is)
    (case rC_mk => k_is)
    (case rC_kc => k_is)
    (case rC_ha => k_is)
    (case rC_hm => k_is)
    (case rC_n_lengths => k_is)
    (case rC_n_total => k_is)
    (case rC_n_closes => k_is)
    (case rC_n_is_clear => k_is)
    (case rEz_pg => k_is)
    (case rEz_hd => k_is)
    (case rEz_po => k_is)
    (case rEz_sa => k_is)
    (case rEz_mk => k_is)
    (case rEz_kc => k_is)
    (case rEz_ha => k_is)
    (case rEz_hm => k_is)
    (case rEz_n_word => k_is)
    (case rEz_n_parts => k_is)
    (case rEz_n_down => k_is)
    (case rEz_n_up => k_is)
    (case rEz_n_low_lot => k_is)
    (case rEz_n_high_lot => k_is)
    (case rhn => k_is)
    (case rht => k_is)
    (case kN => kit_is)
    (case kI => kit_is)
    (case kS => kit_is)
    (case kL => kit_is)
    (case qlr => kit_is)
    (case qln => kit_is)
    (case qlm => kit_is)
    (case qlb => kit_is)
    (case qbr => kit_is)
    (case qbn => kit_is)
    (case qbm => kit_is)
    (case kEP => kit_is)
    (case kED => kit_is)
    (case aEi => k_is)
    (case iEi => k_is)
    (case lEi => k_is)
    (case cEi => k_is)
    (case kEi => k_is)
    (case loE => k_is)
    (case vsE2 => rfl)
    (case fiE => first | rfl | decide +kernel)
    (case ceE => k_is)
    (case topS => first | rfl | decide +kernel)
    (case mEE => k_is)
    (case thE => k_is)
    (case toE => ks_is)
    (case tyP => k_is)
    (case fnP => k_is)
    (case lPi => k_is)
    (case cPi => k_is)
    (case kPi => k_is)
    (case rdE => k_is)
    (case atE => k_is)
    (case tyE => k_is)
    (case lkE => k_is)
    (case slE2 => rfl)
    (case neE => k_is)
    (case suE => k_is)
    (case z_int => k_is)
    (case z_len => k_is)
    (case z_abs => k_is)
    (case z_list => k_is)
    (case z_tuple => k_is)
    (case z_bool => k_is)
    (case z_range => k_is)
    (case z_sum => k_is)
    (case z_max => k_is)
    (case z_all => k_is)
    (case z_any => k_is)
    (case z_sorted => k_is)
    (case z_enumerate => k_is)
    (case z_isinstance => k_is)
    (case z_min => k_is)
    (case z_super => k_is)
    (case g_MOST_LENGTH => k_is)
    (case g_LEAST_BARS => k_is)
    (case g_MOST_BARS => k_is)
    (case xeR => k_is)
    (case rveR => first | (with_reducible rfl) | decide +kernel | k_is)
    (case saeR => k_is)
    (case eCeR => k_is)
    (case tCeR => k_is)
    (case kCeR => k_is)
    (case nfeRpart => k_is)
    (case gaeR => k_is)
    (case ggeR => k_is)
    (case hdeR => k_is)
    (case haeR => k_is)
    (case hmeR => k_is)
    (case sbeR => k_is)
    (case xeL => k_is)
    (case rveL => first | (with_reducible rfl) | decide +kernel | k_is)
    (case saeL => k_is)
    (case eCeL => k_is)
    (case tCeL => k_is)
    (case kCeL => k_is)
    (case nfeLpart => k_is)
    (case xeN => k_is)
    (case rveN => first | (with_reducible rfl) | decide +kernel | k_is)
    (case saeN => k_is)
    (case eCeN => k_is)
    (case tCeN => k_is)
    (case kCeN => k_is)
    (case nfeNvalue => k_is)
    (case gaeN => k_is)
    (case ggeN => k_is)
    (case hdeN => k_is)
    (case haeN => k_is)
    (case hmeN => k_is)
    (case sbeN => k_is)
    (case xeT => k_is)
    (case rveT => first | (with_reducible rfl) | decide +kernel | k_is)
    (case saeT => k_is)
    (case eCeT => k_is)
    (case tCeT => k_is)
    (case kCeT => k_is)
    (case nfeTvalue => k_is)
    (case xeM => k_is)
    (case rveM => first | (with_reducible rfl) | decide +kernel | k_is)
    (case saeM => k_is)
    (case eCeM => k_is)
    (case tCeM => k_is)
    (case kCeM => k_is)
    (case nfeMpart => k_is)
    (case xeV => k_is)
    (case rveV => first | (with_reducible rfl) | decide +kernel | k_is)
    (case saeV => k_is)
    (case eCeV => k_is)
    (case tCeV => k_is)
    (case kCeV => k_is)
    (case nfeVlot => k_is)
    (case gaeV => k_is)
    (case ggeV => k_is)
    (case hdeV => k_is)
    (case haeV => k_is)
    (case hmeV => k_is)
    (case sbeV => k_is)
    (case eCeX => k_is)
    (case hdeX => k_is)
    (case tCeX => k_is)
    (case lc1 => k_is)
    (case hdc1 => first | rfl | decide +kernel | with_unfolding_all rfl)
    (case nT1 => exact K.out_of Y (by decide +kernel))
    (case lc2 => k_is)
    (case hdc2 => first | rfl | decide +kernel | with_unfolding_all rfl)
    (case nT2 => exact K.out_of Y (by decide +kernel))
    (case nP => decide)
