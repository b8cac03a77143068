import PyProof.Rows.All
import Wide.All
import OpenK.AllK
import Wide.FinOn
import HandS.ForMost
import HandS.IsInst
import HandS.Strs
import HandS.ExcInit
import HandS.ExcField
import HandS.ExcIs
import HandS.TryOnly
import HandS.Lambda
import HandS.EndTab
import HandS.Flow
import HandS.SortInts
import HandS.SortRule
import HandS.SortKw
import KE.KTupSum
import HandS.NamedTupSort
import PyProof.P3Eq
import HandS.ReCall
import KE.SortKeyHeap
import HandS.Walk
import KE.GoesEnum
import HandS.Deep
import PyProof.P3In
import KE.KDictPairs
import HandS.Dict
import KE.KExcIs
import HandS.DictComp
import KE.GoesZip
import KE.KDictZip
import HandS.Zip
import HandS.SetFor
import PyProof.Rows.SetFrom
import HandS.Evl
import HandS.WordsExc
import HandS.TupAny
import HandS.Conv
import HandS.Style
import KE.SortData
import HandS.Iter
import KE.KNestM
import PySem.Challenge.RW_ringbars_k57_walls_all_told
set_option Elab.async false
set_option linter.all false
set_option maxRecDepth 100000
set_option maxHeartbeats 4000000
/-! ## rules of our own, for what the rings' program says and the layer has no rule for -/
namespace Rg
open PySem PySem.Spec PyProof.Rows L2

/-! ### f(k = v, ..), oj.m(k = v, ..) -/
section
variable {X : Cx} {CX : CXT} {k : Nat} {f C : Addr} {fd : FuncData} {ps ks : List Str} {sp : Sp} {E : XK} {x m : Str} {p pos apos : Pos} {oj : Expr} {kws : List Keyword} {ta : TE} {tkn : TA}
variable {g : List Value → List Value → List Value} {gV : List V → List V → List V}
theorem pe_callK0 (F : FnOk X.prog X.w X.K X.mg X.base CX k f fd ps sp) (hr : Room k X.A) (hg : Gl X x) (hmm : X.mg x = some (.ref f)) (hk : PySem.W.keepIn X.K (.ref f) = true) (hb : KBinds X.K fd ps ks g gV) (hx : Passes CX X E)
    (hkw : PK X kws tkn) (hall : (backToKw pos (keywordEach kws X.env)).all (·.1.isSome) = true := by rfl) (hks : (backToKw pos (keywordEach kws X.env)).filterMap (·.1) = ks := by rfl)
    (hdb : (x == ("__debug__" : Str)) = false := by decide)
    (hpl : ((backTo pos (starEach [] X.env)).any (·.1) || (backToKw pos (keywordEach kws X.env)).any (·.1.isNone)) = false := by rfl) :
    PE X (.Call (.Name x p) [] kws pos) (tCallK sp gV E tNil tkn) := by
  refine ⟨fun pns s σs Hh Qq Iv h => ?_⟩
  refine wpAny_Call_Name_kw (ld_glob Iv hg hmm ?_ hdb)
  refine PySem.W.callWith_KW0 (h₀ := X.base) Iv.ok.mod.kin hk hall ?_ hpl
  refine thn (hkw.run pos pns s σs Hh _ Iv h) fun kvs2 sh2 ⟨zvs, H2, I2, rlz, q2⟩ => ⟨I2.kIn, ?_⟩
  rw [hks]
  exact run_fnk (us := []) (vs := []) F hr hb hx I2 .nil rlz q2
/-- oj.m(k = v, ..) -/
def tMethK (C : Addr) (m : Str) (sp : Sp) (gV : List V → List V → List V) (E : XK) (ta : TE) (tkn : TA) : TE := fun σs Hh Qq => ta σs Hh fun x H1 => ∃ a dx fs, x = .ref a ∧ H1 a = some (.ins C dx fs) ∧ fs.lookup m = none ∧
  tkn σs H1 fun zvs H2 => sp (gV [.ref a] zvs) H2 Qq E
theorem pe_methK0 {pl : Sem Bool} (he : PE X oj ta) (c : Cls X.K C) (hmm : Meth X.K C m f) (F : FnOk X.prog X.w X.K X.mg X.base CX k f fd ps sp) (hr : Room k X.A) (hb : KBinds X.K fd ps ks g gV) (hx : Passes CX X E)
    (hkw : PK X kws tkn) (hall : (backToKw pos (keywordEach kws X.env)).all (·.1.isSome) = true := by rfl) (hks : (backToKw pos (keywordEach kws X.env)).filterMap (·.1) = ks := by rfl)
    (hpl : ((backTo pos (starEach [] X.env)).any (·.1) || (backToKw pos (keywordEach kws X.env)).any (·.1.isNone)) = false := by rfl)
    (ht : eval (.Call (.Attribute oj m apos) [] kws pos) X.env = (do
      let ov ← eval oj X.env
      standAt apos.atName
      let (f, first) ← holding [ov] (getMethod ov m pl)
      callWith pos f first (backTo pos (starEach [] X.env)) (backToKw pos (keywordEach kws X.env))) := by rfl) :
    PE X (.Call (.Attribute oj m apos) [] kws pos) (tMethK C m sp gV E ta tkn) := by
  refine ⟨fun pns s σs Hh Qq Iv h => ?_⟩
  refine PySem.W.methodCall_KW (pl := pl) (thn (he.run pns s σs Hh _ Iv h) fun u sh1 ⟨x, H1, I1, rlx, a, dx, fs, ex, eqa, l, qq⟩ => ?_) ht
  subst ex
  obtain rfl : u = Value.ref a := rlx
  refine getmeth_ok I1 eqa c hmm l ?_
  refine PySem.W.callWith_KW0 (first := [.ref a]) (h₀ := X.base) Iv.ok.mod.kin hmm.kp hall ?_ hpl
  refine thn (hkw.run pos pns sh1 σs H1 _ I1 qq) fun kvs2 sh2 ⟨zvs, H2, I2, rlz, q2⟩ => ⟨I2.kIn, ?_⟩
  rw [hks]
  exact run_fnk (us := [.ref a]) (vs := [.ref a]) F hr hb hx I2 (.cons rfl .nil) rlz q2
end

/-! ### len(oj), the instance's own __len__ -/
section
variable {X : Cx} {k : Nat} {f : Addr} {fd : FuncData} {sp : Sp}
def rLenO (K : PySem.W.Frag) (f : Addr) (sp : Sp) : List V → Hp → VK → Prop := fun vxs Hh Qq => ∃ a C dx fs, vxs = [.ref a] ∧ Hh a = some (.ins C dx fs) ∧ PySem.W.findIn K (.ref C) "__len__" = some (some (.ref f)) ∧ PySem.W.isFn K (.ref f) = true ∧
  sp [.ref a] Hh (fun v H' => ∃ n : Int, v = .int n ∧ 0 ≤ n ∧ n < 2 ^ 63 ∧ Qq (.int n) H') E0
theorem call_lenO (F : FnOk X.prog X.w X.K X.mg X.base CX0 k f fd ["self"] sp) (hr : Room (k + 1) X.A) (hb : Binds X.K fd ["self"] []) : CallR X (.builtin "len") (rLenO X.K f sp) := by
  intro pns s σs Hh vxs uvs Qq Iv r h
  obtain ⟨a, C, dx, fs, rfl, eqa, hs, hf, qq⟩ := h
  obtain ⟨u, rfl, rlu⟩ := vals1 r
  obtain rfl : u = Value.ref a := rlu
  obtain ⟨mA, O, _, _, _, _⟩ := ins_get Iv.hok eqa
  obtain ⟨m, fr⟩ := Iv.fr
  obtain ⟨od, hod⟩ : ∃ od, s.heap.get? dx = some od := let ⟨oj, _, _, e', _⟩ := O.ns; ⟨oj, e'⟩
  refine PySem.W.len_K fr Iv.ok.mod.kin (ox := PySem.W.instObj C dx) (C := C) (od := some od) ⟨O.obj, rfl, rfl, hod⟩ hs hf ?_
  have hlst : ([Value.ref a] ++ []).length = (["self"] : List Str).length := rfl
  refine wpAny_call (codeAny_mono (F.run X.A.in1 X.stack s Hh ⟨[.ref a], []⟩ [.ref a] [.ref a] _ E0 hr.in1 Iv.env0.in1 (hb s [.ref a] Iv.kIn hlst) (.cons rfl .nil) qq) fun r s' hsq => ?_)
  cases r with
  | error e => exact hsq.elim
  | ok fl =>
    cases fl with
    | ret u =>
      obtain ⟨v, H', I3, rlv, n, ev, h0, hh1, q3⟩ := Iv.after hsq
      subst ev
      obtain ⟨t, rfl⟩ := rlv
      exact ⟨⟨h0, hh1⟩, ⟨.int n, H', I3.tok _, ⟨_, rfl⟩, q3⟩⟩
    | next => exact False.elim hsq
    | brk => exact False.elim hsq
    | cont => exact False.elim hsq
end

/-! ### sum, max of a tuple of ints; vls index -/
section
variable {prog : Program} {w : World} {A : Around} {E : Value → Shared → Prop} {s : Shared} {l : Addr} {vls : List Value} {nms : List Int} {Qq : Value → Shared → Prop}
theorem isTuple_of {h : Heap} (x : IsTup h l vls.toArray) : h.IsTuple l vls.toArray := x
theorem sumT_raw (hcal : A.handled = none) (hlst : s.heap.IsTuple l vls.toArray) (hint : IntsAre vls nms)
    (h : ∀ h' tkn t', (∀ b oj, s.heap.get? b = some oj → h'.get? b = some oj) → Qq (.int nms.sum t') { s with heap := h', toks := tkn }) : wpAny (model prog w) A (call (.builtin "sum") [.ref l]) Qq E s := by
  obtain ⟨vxs, e⟩ := hint.allInts.items
  have hnn : numsOf (intItems vxs).toList = nms := by rw [← e]; exact hint.numsOf
  rw [nums_intItems] at hnn
  rw [e] at hlst
  refine PySem.W.ktm_sumG hcal hlst fun h' tkn t' hk => ?_
  have := h h' tkn t' hk
  rw [preSum_eq, List.take_of_length_le (by simp), hnn]; exact this
end
section
variable {X : Cx}
def rSumT (K : PySem.W.Frag) : List V → Hp → VK → Prop := fun vs Hh Qq => ∃ (a : Addr) (nms : List Int), vs = [V.ref a] ∧ SqT K Hh a (nms.map V.int) ∧ Qq (.int nms.sum) Hh
theorem cr_sumT (hc : X.calm = true) : CallR X (.builtin "sum") (rSumT X.K) := by
  intro pns s σs Hh vs uvs Qq Iv r h
  obtain ⟨a, nms, rfl, hs, qq⟩ := h
  obtain ⟨vls, rlv, hlst, _⟩ := Iv.tuple hs
  rw [Vals.ref1 r]
  exact sumT_raw (Iv.ok.hd hc) (isTuple_of hlst) rlv.ints fun h' tkn t' hk => ⟨.int _, Hh, Iv.kept hk, ⟨_, rfl⟩, qq⟩
end
end Rg
namespace Rg
open PySem PySem.Spec PyProof.Rows L2
/-! ### max of a tuple of ints, vls index, isinstance of a caught error with fields -/
section
variable {prog : Program} {w : World} {A : Around} {E : Value → Shared → Prop} {s : Shared} {l : Addr} {vls : List Value} {nms : List Int} {Qq : Value → Shared → Prop}
theorem max_intTup {vxs : Array (Int × Tok)} (hcal : A.handled = none) (ht : s.heap.IsTuple l (intItems vxs)) (hpos : 0 < vxs.size)
    (h : ∀ v h' tkn, (intItems vxs)[argBest (fun i j => decide (numAt vxs i > numAt vxs j)) (vxs.size - 1)]? = some v → (∀ b oj, s.heap.get? b = some oj → h'.get? b = some oj) → Qq v { s with heap := h', toks := tkn }) :
    wpAny (model prog w) A (call (.builtin "max") [.ref l]) Qq E s := by
  obtain ⟨oj, hob, hc, n, hd⟩ := id ht
  have hI : l ≠ s.heap.objs.size := Nat.ne_of_lt (Heap.lt_size hob)
  refine call_max_walk (wpAny_pyIter_tuple ht ?_)
  refine ⟨s.heap.objs.size, _, _, _, _, _, _, rfl, Walks.tuple (A := A.in1) hcal _ l hI (intItems vxs), ⟨⟨_, Heap.get?_push_size _ rfl, rfl, rfl⟩, ht.at fun oj e => Heap.get?_push_of_some _ e⟩, fun b hb => ?_, by simpa [intItems] using hpos, CmpOf.ints_gt (numAt vxs) (fun _ _ => intItems_at), fun v h' tkn hP hk => ?_⟩
  · rcases List.mem_cons.mp hb with rfl | hb
    · exact Heap.lt_size (Heap.get?_push_size _ rfl)
    · obtain rfl := List.mem_singleton.mp hb
      exact Heap.lt_size (Heap.get?_push_of_some _ hob)
  · refine h v h' tkn (by simpa [intItems] using hP) fun b oj e => ?_
    exact hk b oj (fun hb => absurd (Heap.lt_size e) ((List.mem_singleton.mp hb) ▸ Nat.lt_irrefl _)) (Heap.get?_push_of_some _ e)
theorem maxT_raw (hcal : A.handled = none) (hlst : s.heap.IsTuple l vls.toArray) (hint : IntsAre vls nms) (hpos : 0 < nms.length)
    (h : ∀ h' tkn M t', (∀ b oj, s.heap.get? b = some oj → h'.get? b = some oj) → M ∈ nms → (∀ a, a ∈ nms → a ≤ M) → Qq (.int M t') { s with heap := h', toks := tkn }) : wpAny (model prog w) A (call (.builtin "max") [.ref l]) Qq E s := by
  obtain ⟨vxs, e⟩ := hint.allInts.items
  have hnn : numsOf (intItems vxs).toList = nms := by rw [← e]; exact hint.numsOf
  rw [nums_intItems] at hnn
  subst hnn
  rw [e] at hlst
  have hsz : 0 < vxs.size := by simpa using hpos
  refine max_intTup hcal hlst hsz fun v h' tkn hval hk => ?_
  obtain ⟨t, rfl⟩ := intItems_at hval
  obtain ⟨hh1, hh2⟩ := argBest_gt (numAt vxs) (vxs.size - 1)
  refine h h' tkn _ t hk ?_ fun a ha => ?_
  · rw [numAt_eq]; exact PySem.getD_mem (by rw [List.length_map, Array.length_toList]; omega)
  · obtain ⟨j, hjj, rfl⟩ := mem_getD ha
    rw [List.length_map, Array.length_toList] at hjj
    rw [← numAt_eq]; exact hh2 j (by omega)
end
section
variable {X : Cx}
def rMaxT (K : PySem.W.Frag) : List V → Hp → VK → Prop := fun vs Hh Qq => ∃ (a : Addr) (nms : List Int), vs = [V.ref a] ∧ SqT K Hh a (nms.map V.int) ∧ 0 < nms.length ∧ ∀ m, m ∈ nms → (∀ y, y ∈ nms → y ≤ m) → Qq (.int m) Hh
theorem cr_maxT (hc : X.calm = true) : CallR X (.builtin "max") (rMaxT X.K) := by
  intro pns s σs Hh vs uvs Qq Iv r h
  obtain ⟨a, nms, rfl, hs, hpos, qq⟩ := h
  obtain ⟨vls, rlv, hlst, _⟩ := Iv.tuple hs
  rw [Vals.ref1 r]
  exact maxT_raw (Iv.ok.hd hc) (isTuple_of hlst) rlv.ints hpos fun h' tkn m t' hk hh1 hh2 => ⟨.int _, Hh, Iv.kept hk, ⟨_, rfl⟩, qq m hh1 hh2⟩
theorem flat_ints (yms : List Int) : (yms.map V.int).all flatV = true := by
  rw [List.all_map]
  exact List.all_eq_true.mpr fun _ _ => rfl
def rTIdx (K : PySem.W.Frag) : V → List V → Hp → VK → Prop := fun x vxs Hh Qq => ∃ (p : Addr) (yms : List Int) (z : Int) (j : Nat), x = .ref p ∧ vxs = [.int z] ∧ SqT K Hh p (yms.map V.int) ∧ yms[j]? = some z ∧ (∀ m, m < j → yms[m]? ≠ some z) ∧ Qq (.int (j : Nat)) Hh
theorem mt_tupIdx : MtR X "tuple.index" (rTIdx X.K) := by
  intro pns s σs Hh x vxs v uvs Qq Iv rlx rs h
  obtain ⟨p, yms, z, j, rfl, rfl, hsq, hatj, hnot, qq⟩ := h
  cases rlx
  obtain ⟨u, rfl, t, rfl⟩ := vals1 rs
  obtain ⟨vls, r, pl, hszz⟩ := Iv.tuple hsq
  obtain ⟨⟨cls, dct, dta, slt⟩, hob, hc, n, hd⟩ := pl
  simp only at hc hd
  subst hc
  subst hd
  have hlst : vls.toArray.size = yms.length := by rw [List.size_toArray, ← r.length, List.length_map]
  have hjj : j < vls.toArray.size := by rw [hlst]; exact (List.getElem?_eq_some_iff.mp hatj).1
  have at' : ∀ (m : Nat) (hmm : m < vls.toArray.size), ∃ y t', yms[m]? = some y ∧ vls.toArray[m] = Value.int y t' := fun m hmm => by
    have hm' : m < yms.length := by rw [← hlst]; exact hmm
    obtain ⟨w, hwv, t', hw'⟩ := r.get (i := m) (x := .int yms[m]) (by simp [hm'])
    refine ⟨yms[m], t', List.getElem?_eq_getElem hm', ?_⟩
    have e := (List.getElem?_eq_some_iff.mp hwv).2
    rw [← hw', ← e]
    simp
  refine call_meets PySem.F.slot_tuple_index ⟨_, hob, rfl⟩ PySem.F.entry_tuple_index (PySem.F.args_tuple_index_2 _ _) (TI.tuple_indexAt p vls.toArray n dct slt (.int z t) (eqU (.int z)) j hjj ?_ ?_)
    ⟨hob, fun w hwv => mem_eqAt (x := .int z) ⟨t, rfl⟩ rfl r (flat_ints yms) w (by simpa using hwv), ⟨.int (j : Nat), Hh, Iv.tok _, ⟨_, rfl⟩, qq⟩⟩
  · obtain ⟨y, t', hh1, hh2⟩ := at' j hjj
    rw [hatj] at hh1
    cases hh1
    rw [hh2]
    simp [eqU, eqV]
  · intro m hmm hlt
    obtain ⟨y, t', hh1, hh2⟩ := at' m hmm
    rw [hh2]
    have : y ≠ z := fun e => hnot m hlt (by rw [hh1, e])
    simp [eqU, eqV, this]
end
/-! isinstance(e, c), e the exception that the suite holds, with vls dict -/
def rIsED (K : PySem.W.Frag) (D a : Addr) : List V → Hp → VK → Prop := fun vxs Hh Qq => ∃ (c : V) (cv : Value) (b : Bool), vxs = [.ref a, c] ∧ (∀ u, RelV c u → u = cv) ∧ PySem.W.kitOne K (.ref D) cv = some b ∧ Qq (.bl b) Hh
end Rg
namespace Rg
open PySem PySem.Spec PyProof.Rows L2 SrtO
/-! ### sorted(t), t a tuple -/
section
variable {prog : Program} {w : World} {A : Around} {E : Value → Shared → Prop} {s : Shared} {l : Addr} {vs : List Value}
/-- the heap behind the collecting -/
abbrev colHeap (h : Heap) (vs : List Value) : Heap := (h.push (seqObj "list" #[] 0)).update h.objs.size (Obj.mapSeq (· ++ vs.toArray))
theorem col_tup {Qq : List Value → Shared → Prop} (hlst : s.heap.IsTuple l vs.toArray) (hszz : vs.length ≤ sizeLine) (h : Qq vs { s with heap := colHeap s.heap vs }) : wpAny (model prog w) A (collect (.ref l)) Qq E s := by
  obtain ⟨oj, hob, hc, n, hd⟩ := hlst
  have hnew : (s.heap.push (seqObj "list" #[] 0)).get? s.heap.objs.size = some (seqObj "list" #[] 0) := Heap.get?_push_size _ rfl
  have hold : (s.heap.push (seqObj "list" #[] 0)).get? l = some oj := Heap.get?_push_of_some _ hob
  have tt : (Value.type "tuple" == Value.type "tuple") = true := by rfl
  unfold collect
  refine wpAny_bind (wpAny_runValue (codeAny_builtin entry_proto_collect' ?_))
  show wpAny _ _ (do again (.builtin "list.__iadd__" ⟨[← newList [], .ref l], []⟩)) _ _ s
  refine wpAny_bind (wpAny_newList (wpAny_pure ⟨Code.quiet_builtin _ (by decide +kernel), codeAny_builtin entry_list_iadd' ?_⟩))
  show wpAny _ _ (Builtin.List.listExtendWith (.ref s.heap.objs.size) (.ref l) (.ref s.heap.objs.size)) _ _ { s with heap := s.heap.push (seqObj "list" #[] 0) }
  unfold Builtin.List.listExtendWith
  refine wpAny_bind (wpAny_typeOf (T := "tuple") ⟨oj, hold, hc⟩ ?_)
  rw [if_pos (by rw [tt]; simp)]
  refine wpAny_bind (listItems_at hold hd (wpAny_bind (listItems_at (xs := #[]) (n := 0) hnew rfl ?_)))
  rw [if_neg (by simp)]
  refine wpAny_bind (listUpdate_at (xs := #[]) (n := 0) hnew rfl (wpAny_pure ?_) (Nat.zero_le _) (by show (#[] ++ vs.toArray).size ≤ sizeLine + 1; simp only [Array.size_append, List.size_toArray, List.length_nil]; omega))
  show wpAny (model prog w) A (do
      let oj ← load s.heap.objs.size
      match oj.data with
      | .seq vxs _ => pure vxs.toList
      | _ => unsupported "internal:collect") Qq E { s with heap := colHeap s.heap vs }
  refine wpAny_bind (wpAny_load (get?_update_seq hnew _) ?_)
  show wpAny _ _ (pure ((#[] : Array Value) ++ vs.toArray).toList) Qq E _
  have e : ((#[] : Array Value) ++ vs.toArray).toList = vs := by simp
  rw [e]
  exact wpAny_pure h
theorem sorted_tup {ltv : Value → Value → Bool} {Qq : Value → Shared → Prop} (O : Swo ltv) (hlst : s.heap.IsTuple l vs.toArray) (hszz : vs.length ≤ sizeLine)
    (hS : 2 ≤ vs.length → ∀ (h₁ : Heap) (a : Addr), h₁.get? a = some (seqObj "list" vs.toArray 0) → (∀ b oj, s.heap.get? b = some oj → b ≠ a ∧ h₁.get? b = some oj) → SortableO prog w A.in1.in1 { s with heap := h₁ } a vs ltv)
    (h : ∀ out : List Value, Srtd ltv out → Stb ltv out vs → Qq (.ref (s.heap.objs.size + 1)) { s with heap := sortedAll s.heap vs out.toArray }) : wpAny (model prog w) A (call (.builtin "sorted") [.ref l]) Qq E s := by
  have size1 : (colHeap s.heap vs).objs.size = s.heap.objs.size + 1 := by rw [Heap.size_update, size_push']
  have at1 : ((colHeap s.heap vs).push (seqObj "list" vs.toArray 0)).get? (s.heap.objs.size + 1) = some (seqObj "list" vs.toArray 0) := size1 ▸ Heap.get?_push_size (colHeap s.heap vs) rfl
  have old : ∀ b oj, s.heap.get? b = some oj → b ≠ s.heap.objs.size + 1 ∧ ((colHeap s.heap vs).push (seqObj "list" vs.toArray 0)).get? b = some oj := fun b oj qq => by
    have lt : b < s.heap.objs.size := Heap.lt_size qq
    exact ⟨Nat.ne_of_lt (Nat.lt_succ_of_lt lt), Heap.get?_push_of_some _ ((Heap.get?_update_ne _ _ _ _ (Nat.ne_of_lt lt)).trans (Heap.get?_push_of_some _ qq))⟩
  refine Calls.call_function_entry kind_sorted plain_sorted entry_sorted (args_sorted1 _) ?_
  unfold Builtin.«sorted»
  refine wpAny_bind (m := checkCount "sorted" 1 1 _) (wpAny_pure (wpAny_bind (col_tup hlst hszz (wpAny_bind (wpAny_newList ?_ hszz)))))
  show wpAny _ _ _ _ _ { s with heap := (colHeap s.heap vs).push (seqObj "list" vs.toArray 0) }
  rw [size1]
  exact wpAny_bind (wpAny_holding (wpAny_call_entry slot_list_sort ⟨_, at1, rfl⟩ entry_list_sort (list_sort_ord O at1 hszz (fun hh2 => hS hh2 _ _ at1 old) fun out hs hb => ⟨_, rfl, wpAny_pure ⟨_, rfl, h out hs hb⟩⟩) (args_list_sort _)))
end
section
variable {X : Cx}
def rSortedT (K : PySem.W.Frag) : List V → Hp → VK → Prop := fun vs Hh Qq => ∃ (a : Addr) (nms : List Int), vs = [V.ref a] ∧ SqT K Hh a (nms.map V.int) ∧
  ∀ (ns' : List Int) (p : Addr), ns'.Perm nms → ns'.Pairwise (· ≤ ·) → Hh p = none → Qq (.ref p) (upd Hh p (.lst (ns'.map V.int)))
theorem cr_sortedT : CallR X (.builtin "sorted") (rSortedT X.K) := by
  intro pns s σs Hh vs uvs Qq Iv r h
  obtain ⟨a, nms, rfl, hs, qq⟩ := h
  obtain ⟨vls, rlv, hlst, hszz⟩ := Iv.tuple hs
  have hint := rlv.ints
  rw [List.length_map] at hszz
  rw [Vals.ref1 r]
  refine sorted_tup swo_int (isTuple_of hlst) (by rw [hint.length]; exact hszz) (fun hh2 h₁ a' _ _ => ints_sortable hint hh2) fun out hh1 hh2 => ?_
  obtain ⟨k1, k2, k3⟩ := ints_out hint hh1 hh2
  obtain ⟨ep, he'⟩ := PyProof.Rows.sortedAll_at s.heap vls out.toArray
  exact ⟨.ref _, upd Hh (s.heap.objs.size + 1) (.lst ((out.map iv).map V.int)), Iv.laid (t' := s.toks) (fun _ _ => PyProof.Rows.sortedAll_old) (Nat.le_succ _) ⟨by rw [List.length_map, k2.length_eq]; exact hszz, out, ep, vals_of_ints k1, he'⟩, rfl, qq _ _ k2 k3 (Iv.hok.fresh (Nat.le_succ _))⟩
end
end Rg
namespace Rg
open PySem PySem.Spec PyProof.Rows L2 SrtO
/-! ### sorted(vxs), vxs a list of pairs (k, t): k an int, t a tuple of ints -/
/-- at v a pair of x and a tuple of the ints nms -/
def Nest (h : Heap) (v : Value) (x : Int) (nms : List Int) : Prop := ∃ (a b : Addr) (oj : Obj) (t : Tok) (n : Nat) (vls : List Value), v = .ref a ∧ h.get? a = some oj ∧ oj.cls = .type "tuple" ∧ oj.data = .seq #[.int x t, .ref b] n ∧ IsTup h b vls.toArray ∧ IntsAre vls nms
theorem Nest.kept {h h' : Heap} {v : Value} {x : Int} {nms : List Int} (p : Nest h v x nms) (k : ∀ b oj, h.get? b = some oj → oj.cls = .type "tuple" → h'.get? b = some oj) : Nest h' v x nms := by
  obtain ⟨a, b, oj, t, n, vls, e, hob, hc, hd, ⟨ob, hb, hbc, hbd⟩, hint⟩ := p
  exact ⟨a, b, oj, t, n, vls, e, k _ _ hob hc, hc, hd, ⟨ob, k _ _ hb hbc, hbc, hbd⟩, hint⟩
theorem reads_ints {h : Heap} : ∀ {vs : List Value} {nms : List Int}, IntsAre vs nms → ∃ as, ReadsAll h vs (nms.map PyData.int) as
  | _, _, .nil => ⟨_, .nil⟩
  | _, _, .cons i t r => by
    obtain ⟨as, qq⟩ := reads_ints (h := h) r
    exact ⟨_, .cons (.int i t) qq⟩
theorem eqvA_ints : ∀ vxs yms : List Int, PyData.eqvAll (vxs.map PyData.int) (yms.map PyData.int) = decide (vxs = yms)
  | [], [] => by simp [PyData.eqvAll]
  | [], y :: yms => by simp [PyData.eqvAll]
  | x :: vxs, [] => by simp [PyData.eqvAll]
  | x :: vxs, y :: yms => by
    simp only [List.map_cons, PyData.eqvAll, eqvA_ints vxs yms, PyData.eqv]
    by_cases e : x = y <;> by_cases f : vxs = yms <;> simp [e, f]
theorem layA_ints : ∀ l : List Int, PyData.canLayAll0 (l.map PyData.int) = true
  | [] => by simp [PyData.canLayAll0]
  | i :: l => by simp [PyData.canLayAll0, PyData.canLay0, layA_ints l]
theorem depA_ints : ∀ l : List Int, PyData.depthAll (l.map PyData.int) = 0
  | [] => by simp [PyData.depthAll]
  | i :: l => by simp [PyData.depthAll, PyData.depth, depA_ints l]
theorem lex_self : ∀ l : List Int, HT.lexLt l l = false
  | [] => rfl
  | x :: l => by rw [HT.lexLt_cons, if_pos rfl]; exact lex_self l
section
variable {prog : Program} {w : World} {A : Around} {E : Value → Shared → Prop} {s : Shared}
theorem eq_tupInts {b c : Addr} {vls jts : List Value} {nms ms : List Int} (hb : IsTup s.heap b vls.toArray) (hc : IsTup s.heap c jts.toArray) (hint : IntsAre vls nms) (hjj : IntsAre jts ms) (hu : A.units + 1 < cLine) :
    SeqAt.EqAt A s (.ref b) (.ref c) (decide (nms = ms)) := by
  obtain ⟨o1, hh1, c1, n1, d1⟩ := hb
  obtain ⟨o2, hh2, c2, n2, d2⟩ := hc
  obtain ⟨as, r1⟩ := reads_ints (h := s.heap) hint
  obtain ⟨bs, r2⟩ := reads_ints (h := s.heap) hjj
  have qq := SeqAt.eqAt_reads (.tuple (nms.map PyData.int)) (.tuple (ms.map PyData.int)) A s (.ref b) (.ref c) _ _ (Reads.tuple hh1 c1 d1 r1) (Reads.tuple hh2 c2 d2 r2) (by simp only [PyData.canLay0]; exact layA_ints nms) (by simp only [PyData.canLay0]; exact layA_ints ms)
    (by simp only [PyData.depth, depA_ints]; omega)
  have e : PyData.eqv (.tuple (nms.map PyData.int)) (.tuple (ms.map PyData.int)) = decide (nms = ms) := by
    simp only [PyData.eqv]
    exact eqvA_ints nms ms
  rwa [e] at qq
theorem nest_cmp {vs : List Value} {k : Value → Int × List Int} (hp : ∀ v ∈ vs, Nest s.heap v (k v).1 (k v).2) (hu : A.units + 1 < cLine) :
    SrtO.Cmp prog w A s (tuples' true) (fun p => p.1 ∈ vs) (lt2 fun v u => HT.lexLt ((k v).1 :: (k v).2) ((k u).1 :: (k u).2)) := by
  intro p qq hmm hm'
  have hh1 := hp _ hmm
  have hh2 := hp _ hm'
  show wpAny (model prog w) A (keyLt' (tuples' true) p.1 qq.1) (fun r s' => s' = s ∧ r = HT.lexLt ((k p.1).1 :: (k p.1).2) ((k qq.1).1 :: (k qq.1).2)) (fun _ _ => False) s
  generalize (k p.1).1 = x at hh1 ⊢
  generalize (k p.1).2 = nms at hh1 ⊢
  generalize (k qq.1).1 = y at hh2 ⊢
  generalize (k qq.1).2 = ms at hh2 ⊢
  obtain ⟨a, b, oj, t, n, vls, e, hob, hc, hd, hb, hint⟩ := hh1
  obtain ⟨a', b', o', t', n', its', e', ho', hc', hd', hb', hi'⟩ := hh2
  rw [e, e', HT.lexLt_cons]
  refine PySem.W.kat_lt hob hd ho' hd' ?_
  show PySem.W.KatLex prog w A true (decide (2 < 2)) _ [(.int x t, .int y t'), (.ref b, .ref b')] 0 s
  refine PySem.W.kat_cons (SeqAt.EqAt.int_int x t y t' prog w _ _ (PySem.W.kat_go (fun e1 => PySem.W.kat_yes (PySem.W.kat_cons (eq_tupInts hb hb' hint hi' hu prog w _ _ (PySem.W.kat_go (fun ee2 => ?_) (fun ee2 => ?_))))) (fun e1 => ?_)))
  · have ex : x = y := by simpa using e1
    have ey : nms = ms := of_decide_eq_true ee2
    refine PySem.W.kat_yes (PySem.W.kat_nil ⟨rfl, ?_⟩)
    rw [if_pos ex, ey, lex_self]
    rfl
  · have ex : x = y := by simpa using e1
    rw [if_pos ex]
    exact PySem.W.kat_no (PySem.W.kat_one _ _ (HT.lt_tupInts hb hb' hint hi' (by omega) ⟨rfl, rfl⟩))
  · have ex : ¬ x = y := by simpa using e1
    rw [if_neg ex]
    exact PySem.W.kat_no (oneLt_int ⟨rfl, rfl⟩)
theorem nest_firsts {h : Heap} {k : Value → Int × List Int} : ∀ {vs : List Value}, (∀ v ∈ vs, Nest h v (k v).1 (k v).2) → ∃ fs : List Value, PySem.W.KatTups h vs fs ∧ fs.length = vs.length ∧ ∀ f ∈ fs, ∃ x t, f = Value.int x t
  | [], _ => ⟨[], PySem.W.KatTups.nil, rfl, fun _ z => nomatch z⟩
  | v :: vs, hp => by
    obtain ⟨fs, q1, q2, q3⟩ := nest_firsts fun v' z => hp v' (List.mem_cons_of_mem _ z)
    obtain ⟨a, b, oj, t, n, vls, e, hob, hc, hd, _⟩ := hp v (List.mem_cons_self ..)
    rw [e]
    refine ⟨.int _ t :: fs, PySem.W.KatTups.cons hob hc hd rfl q1, congrArg (· + 1) q2, fun f z => ?_⟩
    rcases List.mem_cons.mp z with z | z
    · exact ⟨_, t, z⟩
    · exact q3 f z
theorem nest_sortable {a : Addr} {vs : List Value} {k : Value → Int × List Int} (h0 : 0 < vs.length) (hu : A.units + 1 < cLine) (hp : ∀ v ∈ vs, Nest s.heap v (k v).1 (k v).2) (ha : ∀ oj, s.heap.get? a = some oj → oj.cls ≠ .type "tuple") :
    SortableO prog w A s a vs fun v u => HT.lexLt ((k v).1 :: (k v).2) ((k u).1 :: (k u).2) := by
  intro h' keep
  have hp' : ∀ v ∈ vs, Nest h' v (k v).1 (k v).2 := fun v z => (hp v z).kept fun b oj e c => keep b oj (fun z => ha oj (z ▸ e) c) e
  obtain ⟨fs, q1, q2, q3⟩ := nest_firsts hp'
  refine ⟨tuples' true, fun Qq E hsq => PySem.W.kat_kind (T := .type "int") q1 (by omega) (fun f z => ?_) (by rfl) ?_, nest_cmp hp' hu⟩
  · obtain ⟨x, t, e⟩ := q3 f z
    rw [e]
    exact PySem.W.Looks.now
  · rw [show (Value.type "int" != Value.type "tuple") = true by decide +kernel]
    exact hsq
end
section
variable {X : Cx}
/-- k says what stands at each item -/
def rSortedN (K : PySem.W.Frag) : List V → Hp → VK → Prop := fun vs Hh Qq => ∃ (a : Addr) (vxs : List V) (k : V → Int × List Int), vs = [V.ref a] ∧ SqL K Hh a vxs ∧ (∀ x ∈ vxs, ∃ t b, x = V.ref t ∧ Hh t = some (.tup [.int (k x).1, .ref b]) ∧ Hh b = some (.tup ((k x).2.map V.int))) ∧
  ∀ yms p, Srtd (fun v u => HT.lexLt ((k v).1 :: (k v).2) ((k u).1 :: (k u).2)) yms → yms.Perm vxs → Hh p = none → Qq (.ref p) (upd Hh p (.lst yms))
theorem cr_sortedN (hu : X.A.units + 64 < cLine) : CallR X (.builtin "sorted") (rSortedN X.K) := by
  intro pns s σs Hh vs uvs Qq Iv r h
  obtain ⟨a, vxs, k, rfl, hs, hx, qq⟩ := h
  obtain ⟨vls, rlv, hlst, hszz⟩ := Iv.list hs
  rw [Vals.ref1 r]
  obtain ⟨e1, ee2⟩ := refs_back rlv fun x m => let ⟨t, _, e, _⟩ := hx x m; ⟨t, e⟩
  have nst : ∀ v ∈ vls, Nest s.heap v (k (backV v)).1 (k (backV v)).2 := fun v hval => by
    obtain ⟨t, rfl⟩ := ee2 v hval
    obtain ⟨t', b, et, hh1, hh2⟩ := hx (V.ref t) (by rw [e1]; exact List.mem_map.mpr ⟨_, hval, rfl⟩)
    cases et
    obtain ⟨_, jts, r2, oj, hob, hc, n, hd⟩ := Iv.hok _ _ hh1
    obtain ⟨u1, u2, rfl, ⟨t1, rfl⟩, r3⟩ := vals2 r2
    obtain rfl : u2 = Value.ref b := r3
    obtain ⟨_, kts, r4, p4⟩ := Iv.hok _ _ hh2
    exact ⟨t, b, oj, t1, n, kts, rfl, hob, hc, hd, p4, r4.ints⟩
  refine sorted_ord (NtL.swo_lexL fun u : Value => (k (backV u)).1 :: (k (backV u)).2) hlst.isList (by rw [← rlv.length]; exact hszz) (fun hh2 h₁ a' ha kk => ?_) fun out hh1 hh2 => ?_
  · refine nest_sortable (s := { s with heap := h₁ }) (k := fun u => k (backV u)) (by omega) (show X.A.units + 1 + 1 + 1 < cLine by omega) (fun v hval => (nst v hval).kept fun b oj e _ => (kk b oj e).2) fun oj e c => ?_
    cases e.symm.trans ha
    exact absurd (Value.type.inj c) (by decide)
  · have h3 : ∀ u ∈ out, ∃ a, u = Value.ref a := fun u hu => ee2 u (hh2.perm.mem_iff.mp hu)
    have hp : (out.map backV).Perm vxs := by rw [e1]; exact hh2.perm.map backV
    obtain ⟨n, hnn⟩ := PyProof.Rows.sortedAll_at s.heap vls out.toArray
    exact ⟨.ref _, upd Hh (s.heap.objs.size + 1) (.lst (out.map backV)), Iv.laid (t' := s.toks) (fun _ _ => PyProof.Rows.sortedAll_old) (Nat.le_succ _) ⟨by rw [hp.length_eq]; exact hszz, out, n, vals_back h3, hnn⟩, rfl,
      qq _ _ (List.pairwise_map.mpr hh1) hp (Iv.hok.fresh (Nat.le_succ _))⟩
end
end Rg
namespace Rg
open PySem PySem.Spec PyProof.Rows L2
/-! tuple(list), whose object is known to have no dict: so that vls methods can be called -/
section
variable {X : Cx}
def rTupF (K : PySem.W.Frag) : List V → Hp → VK → Prop := fun vxs Hh Qq => ∃ p yms, vxs = [V.ref p] ∧ SqL K Hh p yms ∧ ∀ l oj, Hh l = none → oj.dict = none → Qq (.ref l) (upd Hh l (.frz oj (.tup yms)))
theorem cr_tupF : CallR X (.type "tuple") (rTupF X.K) := by
  intro pns s σs Hh vxs uvs Qq Iv r ⟨p, yms, e, hsq, qq⟩
  subst e
  obtain ⟨u, rfl, rlx⟩ := vals1 r
  cases rlx
  obtain ⟨vls, rlv, pl, sz⟩ := Iv.list hsq
  have hnn := rlv.length
  refine call_tuple_list pl.isList (fun hh1 kp => ?_) (by rw [List.size_toArray]; omega)
  have J : Inv X pns σs Hh { s with heap := hh1 } := Iv.kept (t' := s.toks) kp
  have J2 : Inv X pns σs (upd Hh hh1.objs.size (.frz { cls := .type "tuple", data := .seq vls.toArray } (.tup yms))) { s with heap := hh1.push { cls := .type "tuple", data := .seq vls.toArray } } :=
    J.laid (t' := s.toks) (fun b oj e => Heap.get?_push_of_some _ e) (Nat.le_refl _)
      (show ObjOk X.prog X.w _ _ _ (.frz _ (.tup yms)) from ⟨Heap.get?_push_size _ rfl, sz, vls, rlv, IsTup.new _ _⟩)
  exact ⟨.ref hh1.objs.size, _, J2, rfl, qq _ _ (J.hok.fresh (Nat.le_refl _)) rfl⟩
def tyTF (x : V) (Hh : Hp) : Prop := ∃ a oj yms, x = .ref a ∧ Hh a = some (.frz oj (.tup yms)) ∧ oj.dict = none
theorem ty_tf : TyOk X "tuple" tyTF := by
  intro pns σs Hh s x v Iv r ⟨a, oj, yms, e, h, hd⟩
  subst e
  cases r
  obtain ⟨e, _, vls, _, o2, ee2, hc, _⟩ := (show ObjOk X.prog X.w Hh s.heap a (.frz oj (.tup yms)) from Iv.hok a _ h)
  refine ⟨⟨_, ee2, hc⟩, fun b qq => ?_⟩
  cases qq
  exact ⟨oj, e, hd⟩
end
end Rg
namespace Rg
open PySem PySem.Spec PyProof.Rows L2 LamX
/-! ### sorted(lots, key=lambda lot: (len(lot), lot)), lots tuples of ints -/
theorem reads_intsN {h : Heap} : ∀ {vs : List Value} {nms : List Int}, IntsAre vs nms → ReadsAll h vs (nms.map PyData.int) []
  | _, _, .nil => .nil
  | _, _, .cons i t r => .cons (.int i t) (reads_intsN r)
def lotKey (l : List Int) : PyData := .tuple [.int (l.length : Nat), .tuple (l.map PyData.int)]
theorem alike_lotKey (a b : List Int) : PySem.W.alike (lotKey a) (lotKey b) = true := by
  simp [lotKey, PySem.W.alike, PySem.W.alikeAll, PySem.W.alike_ints]
theorem depth_lotKey (a : List Int) : (lotKey a).depth ≤ 4 := by
  simp [lotKey, PyData.depth, PyData.depthAll, PySem.W.depth_ints]
theorem eqvA_ints8 : ∀ vxs yms : List Int, PyData.eqvAll (vxs.map PyData.int) (yms.map PyData.int) = decide (vxs = yms)
  | [], [] => by simp [PyData.eqvAll]
  | [], y :: yms => by simp [PyData.eqvAll]
  | x :: vxs, [] => by simp [PyData.eqvAll]
  | x :: vxs, y :: yms => by
    simp only [List.map_cons, PyData.eqvAll, eqvA_ints8 vxs yms, PyData.eqv]
    by_cases e : x = y <;> by_cases f : vxs = yms <;> simp [e, f]
/-- fewer bars first, then as tuples -/
def lotLe (a b : List Int) : Bool := !PySem.W.dataLt (lotKey b) (lotKey a)
section
variable {prog : Program} {w : World} {A : Around} {s : Shared} {h : Heap}
theorem lotkey_turn {tk : Nat} {f c' t : Addr} {q y : Str} {params : Arguments} {scope : Scope} {pm ctv : Value} {p1 p2 p3 p4 p5 : Pos} {x1 : Nat} {mg mb : Str → Option Value} {ns : List Int} {its : List Value}
    (hroom : A.depth < recursionLimit)
    (hf : h.get? f = some (PySem.W.kla_obj "<lambda>" q params (.Tuple [.Call (.Name "len" p1) [.Name y p2] [] p3, .Name y p4] x1 p5) scope [] pm c' ctv))
    (hco : scope.isCoroutine = false) (hgen : scope.isGenerator = false) (hk : scope.kind = .function)
    (hcell : ∀ x ∈ scope.names, x.2 ≠ .cell) (hy : scope.names.lookup y = some .local) (hlen : scope.names.lookup ("len" : Str) = some .globalImplicit)
    (hbind : ∀ v : Value, bindArgs (PySem.W.kla_fn "<lambda>" q params (.Tuple [.Call (.Name "len" p1) [.Name y p2] [] p3, .Name y p4] x1 p5) scope [] pm (.ref c') ctv) ⟨[v], []⟩ = pure [(y, v)])
    (hcd : h.CodeRec (.ref c') q) (hg : h.Ns mainGlobals mg) (hm : mg ("len" : Str) = none) (hb : h.Ns builtinsNs mb) (hmb : mb ("len" : Str) = some (.builtin "len")) (hnl : h.NoLimit)
    (ht : IsTup h t its.toArray) (hi : IntsAre its ns) (hz : its.length ≤ sizeLine) (hyd : (y == ("__debug__" : Str)) = false) :
    wpAny (model prog w) A (call (.ref f) [.ref t]) (PySem.W.KeyPure (lotKey ns) { s with heap := h, toks := tk }) (fun _ _ => False) { s with heap := h, toks := tk } := by
  refine wpAny_call (PySem.W.kla_callFunE hroom hf rfl hco hgen rfl hcd ?_)
  rw [hbind]
  refine wpAny_pure (wpAny_newFunctionEnv hcell (fun z hz => by rw [List.mem_singleton.mp hz]; exact hy) (fun h₁ hns hsb => ⟨hnl.fresh _ hsb, ?_⟩) hk)
  have kp : ∀ b o, h.get? b = some o → h₁.get? b = some o := fun b o e => hsb.extBut b o (Nat.ne_of_lt (Heap.lt_size e)) (Heap.get?_push_of_some _ e)
  show codeAny _ _ (.expr _ (PySem.W.envX q scope h.objs.size f (.ref c') [])) _ _
  refine PySem.W.kla_codeExpr ?_
  refine wpAny_Tuple_spliced ?_
  have rd : ∀ (A' : Around) (tk' : Nat) (pos : Pos) (Q : Value → Shared → Prop) (E : Value → Shared → Prop), Q (.ref t) { s with heap := h₁, toks := tk' } → wpAny (model prog w) A' (eval (.Name y pos) (PySem.W.envX q scope h.objs.size f (.ref c') [])) Q E { s with heap := h₁, toks := tk' } := fun A' tk' pos Q E hQ =>
    wpAny_Name (wpAny_loadName_local hk hy hns (by show ([(y, Value.ref t)].reverse).lookup y = _; simp) hQ) hyd
  refine Calls.spliced_cons (wpAny_Call_Name_kw (Calls.Name_function_global hk hlen (Calls.loadGlobal_builtin (hg.keeps kp) hm (hb.keeps kp) hmb ?_)))
  refine PyProof.Rows.callWith_builtin1 (Calls.spliced_cons (rd _ _ _ _ _ (Calls.spliced_nil ?_))) rfl rfl
  refine len_tuple (ht.keeps kp) ?_ ?_
  · have := line63
    simp only [List.size_toArray]
    omega
  refine Calls.spliced_cons (rd _ _ _ _ _ (Calls.spliced_nil ⟨by show 2 ≤ sizeLine; decide, ?_⟩))
  refine ⟨_, _, rfl, fun b o e => Heap.get?_push_of_some _ (kp b o e), ?_⟩
  obtain ⟨o, ho, hc, n, hd⟩ := ht.keeps kp
  refine Reads.tuple (Heap.get?_push_size _ rfl) rfl rfl ?_
  show ReadsAll _ [.int (its.toArray.size : Nat) _, .ref t] [.int (ns.length : Nat), .tuple (ns.map .int)] []
  have e1 : its.toArray.size = ns.length := by rw [List.size_toArray, hi.length]
  rw [e1]
  exact ReadsAll.cons (.int _ _) (ReadsAll.cons (Reads.tuple (Heap.get?_push_of_some _ ho) hc hd (reads_intsN hi)) .nil)
end
theorem each_vals : ∀ {out : List Value} {ys : List V}, PySem.W.EachIs (fun u x => RelV x u) out ys → Vals ys out
  | _, _, .nil => .nil
  | _, _, .cons r t => .cons r (each_vals t)
theorem vals_each : ∀ {ys : List V} {out : List Value}, Vals ys out → PySem.W.EachIs (fun u x => RelV x u) out ys
  | _, _, .nil => .nil
  | _, _, .cons r t => .cons r (vals_each t)
section
variable {X : Cx}
/-- sorted(e, key=the lambda) -/
def tSortLots (K : PySem.W.Frag) (T : List (Addr × Str)) (te : TE) : TE := fun σ H Q => te σ H fun v H1 => ∃ (a : Addr) (xs : List V) (k : V → List Int), v = .ref a ∧ SqL K H1 a xs ∧ (∀ x ∈ xs, ∃ t, x = V.ref t ∧ H1 t = some (.tup ((k x).map V.int))) ∧ Tabs T H1 ∧
  ∀ (H2 : Hp) (p : Addr) (ys : List V), ExtN H1 H2 → Tabs T H2 → ys.Perm xs → (ys.Pairwise fun u v => lotLe (k u) (k v) = true) → H2 p = none → Q (.ref p) (upd H2 p (.lst ys))
theorem pe_sortLots {T : List (Addr × Str)} {c P : Addr} {y : Str} {params : Arguments} {scope : Scope} {p p1 p2 p3 p4 p5 lpos kpos pos : Pos} {x1 : Nat} {e : Expr} {te : TE}
    (hdp : X.A.depth < recursionLimit) (hu : X.A.units + 64 < cLine) (hgS : Gl X ("sorted" : Str)) (hmS : X.mg ("sorted" : Str) = none) (hmL : X.mg ("len" : Str) = none) (he : PE X e te)
    (TB : TabB X.base X.mg c P) (hcode : X.env.code = .ref c) (hmT : (P, X.env.qual ++ "<lambda>") ∈ T) (huT : ∀ p ∈ T, p.1 = P → p.2 = X.env.qual ++ "<lambda>")
    (hdef : defaultsOf params X.env = ([], [])) (hco : scope.isCoroutine = false) (hgen : scope.isGenerator = false) (hk : scope.kind = .function)
    (hcell : ∀ x ∈ scope.names, x.2 ≠ .cell ∧ x.2 ≠ .free) (hy : scope.names.lookup y = some .local) (hlen : scope.names.lookup ("len" : Str) = some .globalImplicit) (hclo : cloFrom X.env.cells scope.names [] = [])
    (hbind : ∀ (q : Str) (pm cv ctv v : Value), bindArgs (PySem.W.kla_fn "<lambda>" q params (.Tuple [.Call (.Name "len" p1) [.Name y p2] [] p3, .Name y p4] x1 p5) scope [] pm cv ctv) ⟨[v], []⟩ = pure [(y, v)])
    (hyd : (y == ("__debug__" : Str)) = false := by decide)
    (hes : backTo pos (starEach [e] X.env) = [(false, eval e X.env)] := by rfl) :
    PE X (.Call (.Name "sorted" p) [e] [⟨some "key", .Lambda params (.Tuple [.Call (.Name "len" p1) [.Name y p2] [] p3, .Name y p4] x1 p5) scope lpos, kpos⟩] pos) (tSortLots X.K T te) := by
  refine ⟨fun pins s σ H Q I h => ?_⟩
  refine wpAny_Call_Name_kw (ld_blt I hgS hmS (u := .builtin "sorted") (by decide +kernel) ?_ (by decide) (by decide))
  refine PyProof.Rows.callWith_kw ?_ hes (by rw [hes]; rfl) rfl rfl
  rw [hes]
  refine Calls.spliced_cons (thn (he.run pins s σ H _ I h) fun u s1 ⟨v, H1, I1, r1, q1⟩ => Calls.spliced_nil ?_)
  obtain ⟨a, xs, k, rfl, hs, hx, hT, q⟩ := q1
  obtain rfl : u = Value.ref a := r1
  show wpAny _ _ (evalAll [do let v ← eval (.Lambda params (.Tuple [.Call (.Name "len" p1) [.Name y p2] [] p3, .Name y p4] x1 p5) scope lpos) X.env; standAt pos; pure v]) _ _ _
  refine wpAny_evalAll_cons (wpAny_bind ?_)
  refine lam_make2 I1 TB hcode hmT huT hT hdef (fun z hz ef => absurd ef (hcell z hz).2) fun f c' pm ctv H2 s2 I2 eN T2 hf hfn hfr hco2 => ?_
  rw [hclo] at hf
  refine wpAny_bind (wpAny_standAt (wpAny_pure ?_))
  refine wpAny_evalAll_nil ?_
  show wpAny _ _ (call (.builtin "sorted") [.ref a] [(Str.ofString "key", .ref f)]) _ _ s2
  have hs2 : SqL X.K H2 a xs := by
    rcases hs with (hs | ⟨o, hs⟩) | hs
    · exact .inl (.inl (eN _ _ hs (fun _ z => nomatch z)))
    · exact .inl (.inr ⟨o, eN _ _ hs (fun _ z => nomatch z)⟩)
    · exact .inr hs
  obtain ⟨its, rv, hl, hsz⟩ := I2.list hs2
  have hx2 : ∀ x ∈ xs, ∃ t, x = V.ref t ∧ H2 t = some (.tup ((k x).map V.int)) := fun x m => let ⟨t, e1, e2⟩ := hx x m; ⟨t, e1, eN _ _ e2 (fun _ z => nomatch z)⟩
  obtain ⟨⟨oc, cvs, ct, hoc, hdc, hvc⟩, _, _⟩ := I2.hok c' _ hco2
  obtain ⟨mb, hb1, hb2⟩ := I2.mod.blt
  refine PySem.W.sorted_key_data (β := V) (R := fun u x => RelV x u) (fun x => lotKey (k x)) hl.isList (vals_each rv) (PySem.W.AllAlike.of fun b b' => alike_lotKey _ _) (PySem.W.Sortable.tuples fun b => ⟨_, _, rfl⟩) hsz
    (fun x _ => by have := depth_lotKey (k x); omega) (PyProof.Rows.ksk_s1 _ _) (fun _ => PyProof.Rows.ksk_l1 _ _) (fun x => PyProof.Rows.ksk_t1 f x) ?_ ?_
  · intro v x hR hxm h' tk' hk'
    obtain ⟨t, rfl, ht⟩ := hx2 x hxm
    obtain rfl : v = Value.ref t := hR
    obtain ⟨hz, jts, rj, tj⟩ := I2.hok t _ ht
    refine lotkey_turn (hroom := hdp) (hk' _ _ hf) hco hgen hk (fun z hz => (hcell z hz).1) hy hlen (fun v => hbind _ _ _ _ v) ⟨c', oc, cvs, ct, rfl, hk' _ _ hoc, hdc, hvc⟩
      ((I2.mod.glob.keeps I2.bk).keeps hk') hmL ((hb1.keeps I2.bk).keeps hk') ((hb2 _ (by decide)).trans PySem.boot_len) (I2.nolimit.keeps hk') (tj.keeps hk') rj.ints (by rw [← rj.length]; exact hz) hyd
  · intro out cc h' tk' hk' hfr' hnew hol heach
    have hpm : (xs.mergeSort (PySem.W.dataLe false fun x => lotKey (k x))).Perm xs := List.mergeSort_perm ..
    refine ⟨.ref (s2.heap.objs.size + 1), upd H2 (s2.heap.objs.size + 1) (.lst (xs.mergeSort (PySem.W.dataLe false fun x => lotKey (k x)))), I2.laid (t' := tk') hk' (Nat.le_succ _) ?_, rfl, ?_⟩
    · exact ⟨by rw [hpm.length_eq]; exact hsz, out, cc, each_vals heach, hnew⟩
    · have nf : H2 (s2.heap.objs.size + 1) = none := I2.hok.fresh (Nat.le_succ _)
      refine q _ _ _ eN T2 hpm ?_ nf
      have z := PySem.W.sortLe_total (listOrd itemOrd) false (fun x : V => PySem.W.keyToks (lotKey (k x)))
      exact List.pairwise_mergeSort (le := PySem.W.dataLe false fun x => lotKey (k x)) (fun a b c => z.trans a b c) (fun a b => Bool.or_eq_true _ _ |>.mpr (z.total a b)) xs
end
end Rg
namespace Rg
open PySem PySem.Spec PyProof.Rows L2
/-! ### enumerate(t), t a tuple -/
theorem meets_enum1 {v : Value} {ob : Obj} {Hz : Heap → Prop} (B : Begins v ob Hz) :
    Meets (Builtin.«enumerate.__new__» ⟨[.type "enumerate", v], []⟩) (fun _ R s => Hz s.heap ∧
      R (.ok (.ret (.ref (s.heap.push ob).objs.size))) { s with heap := (s.heap.push ob).push { cls := .type "enumerate", data := .fields #[.none, .bool false, .ref s.heap.objs.size, rawInt 0, .none, .none] } }) :=
  .of_wp fun prog w A R s h => by
    obtain ⟨hp, gg, dd, tk, os⟩ := s
    obtain ⟨hz, h⟩ := h
    have hsub := sub_enumerate
    have go : ∀ {A' : Around} {E' : Value → Shared → Prop} {Q' : Value → Shared → Prop}, Q' (.ref hp.objs.size) ⟨hp.push ob, gg, dd, tk, os⟩ → wpAny (model prog w) A' (pyIter v) Q' E' ⟨hp, gg, dd, tk, os⟩ :=
      fun q => B.iter prog w _ _ ⟨hp, gg, dd, tk, os⟩ _ hz q
    wp_walk using go
    refine wpAny_stack_any fun st => wpAny_pure ?_
    split
    · rename_i c _ _ _ _ _
      cases (c == Value.type "enumerate")
      · wp_walk using go
        exact ⟨_, rfl, h⟩
      · wp_walk using go
        exact ⟨_, rfl, h⟩
    · wp_walk using go
      exact ⟨_, rfl, h⟩
section
variable {prog : Program} {w : World} {A : Around} {E : Value → Shared → Prop} {s : Shared}
theorem call_enum1 {v : Value} {ob : Obj} {Hz : Heap → Prop} {Q : Value → Shared → Prop} (B : Begins v ob Hz) (hz : Hz s.heap)
    (k : ∀ g, IsEnum g (s.heap.objs.size + 1) s.heap.objs.size 0 .none → g.get? s.heap.objs.size = some ob → (∀ c u, s.heap.get? c = some u → g.get? c = some u) → Q (.ref (s.heap.objs.size + 1)) { s with heap := g }) :
    wpAny (model prog w) A (call (.type "enumerate") [v]) Q E s := by
  refine callType_new F.called_enumerate (by decide) (F.typeCall_enumerate_1 _) (F.newCall_enumerate_1 _) (fun obj => F.args_object_init_2 obj _) F.entry_enumerate_new (meets_enum1 B) ⟨hz, ?_⟩
  have sz : (s.heap.push ob).objs.size = s.heap.objs.size + 1 := Heap.size_push ..
  show _ ∧ _
  rw [sz]
  have ie : IsEnum ((s.heap.push ob).push { cls := .type "enumerate", data := .fields #[.none, .bool false, .ref s.heap.objs.size, rawInt 0, .none, .none] }) (s.heap.objs.size + 1) s.heap.objs.size 0 .none := by
    have z := Heap.get?_push_size (s.heap.push ob) (o := { cls := .type "enumerate", data := .fields #[.none, .bool false, .ref s.heap.objs.size, rawInt 0, .none, .none] }) rfl
    rw [sz] at z
    exact z
  exact ⟨⟨_, ie, rfl⟩, k _ ie (Heap.get?_push_of_some _ (Heap.get?_push_size _ B.free)) fun c u x => Heap.get?_push_of_some _ (Heap.get?_push_of_some _ x)⟩
end
/-- the tuple at a as it stands at each turn, each item in a new pair -/
def IteT (K : PySem.W.Frag) (a : Addr) : It :=
  ⟨fun i H => ∃ (xs : List V) (x : V), SqT K H a xs ∧ xs[i]? = some x, fun i H v H' => ∃ T x, v = .ref T ∧ H T = none ∧ H' = upd H T (.tup [.int (i : Nat), x]) ∧ ∀ xs, SqT K H a xs → xs[i]? = some x, fun i H => ∃ xs : List V, SqT K H a xs ∧ xs.length ≤ i⟩
theorem turn_enumT {P : Program} {w : World} {K : PySem.W.Frag} {elts : List Expr} {kk : Nat} {tpos : Pos} (a e it : Addr) :
    Turn P w K (.Tuple elts kk tpos) (IteT K a) [e, it] e (fun i h => (∃ old, IsEnum h e it ((i : Nat) : Int) old) ∧ h.IsTupleIter it a i ∧ e ≠ it) where
  mem := List.mem_cons_self ..
  obj := by
    rintro i h ⟨⟨old, he⟩, ⟨o, ho, hc, hd⟩, _⟩ b hb
    rcases List.mem_cons.mp hb with z | z
    · rw [z]; exact ⟨_, he, fun v q => nomatch q⟩
    · rw [List.mem_singleton.mp z]; exact ⟨o, ho, fun v q => by rw [hd] at q; cases q⟩
  keep := by
    rintro i h h' ⟨⟨old, he⟩, hi, hne⟩ k
    exact ⟨⟨old, k e (by simp) _ he⟩, hi.at fun o q => k it (by simp) o q, hne⟩
  item := by
    intro X hP hw hK hc i pins s σ H E I hf st hg
    subst hP hw hK
    obtain ⟨⟨old, he⟩, hit, hne⟩ := st
    obtain ⟨xs, x, hq, hx⟩ := hg
    obtain ⟨its, rv, tp, hz⟩ := I.tuple hq
    obtain ⟨u, hu, ru⟩ := rv.get hx
    have hel : e < s.heap.objs.size := Heap.lt_size he
    have hil : it < s.heap.objs.size := by obtain ⟨_, q, _⟩ := hit; exact Heap.lt_size q
    obtain ⟨ot, hot, hct, nt, hdt⟩ := tp
    have nai : a ≠ it := fun z => by
      obtain ⟨oi, hoi, hci, _⟩ := hit
      rw [← z, hot] at hoi
      cases hoi
      rw [hct] at hci
      exact absurd (Value.type.inj hci) (by decide)
    have nae : a ≠ e := fun z => by
      have he' := he
      rw [IsEnum, ← z, hot] at he'
      cases he'
      exact absurd (Value.type.inj hct) (by decide)
    have hlt : i < its.toArray.size := by
      rw [List.size_toArray]
      exact (List.getElem?_eq_some_iff.mp hu).1
    refine wpAny_pyNext_enum_itemD (Draws.tuple (A := X.A.in1) (I.ok.hd hc) it a nai its.toArray) he ⟨hit, ⟨ot, hot, hct, nt, hdt⟩⟩ hlt hne (by simp [hne, Ne.symm nae]) fun u' g tk hP ho hst' hT hsz hk => ?_
    have eu : u' = u := by
      have h1 : its.toArray[i]? = some u' := hP
      rw [List.getElem?_toArray, hu] at h1
      exact (Option.some.inj h1).symm
    subst eu
    refine ⟨_, rfl, wpAny_letOwnedTupleGo_enum (s := { s with heap := g, toks := tk + 1 }) ho fun g2 he' sb => ?_⟩
    have hT2 : g2.get? s.heap.objs.size = some { cls := .type "tuple", data := .seq #[.int i tk, u'] } := (sb.2 _ (Nat.ne_of_gt hel)).trans hT
    have I1 : Inv X pins σ (upd H s.heap.objs.size (.tup [.int (i : Nat), x])) { s with heap := g2, toks := tk + 1 } :=
      I.turnedNew (ch := [e, it]) (fun b ob hb q => (sb.2 b (fun z => hb (by simp [z]))).trans (hk b ob (fun z => hb (by simp [z])) (fun z => hb (by simp [z])) q)) hf (Nat.le_refl _)
        ⟨by show 2 ≤ sizeLine; decide, [.int i tk, u'], .cons ⟨_, rfl⟩ (.cons ru .nil), ⟨_, hT2, rfl, _, rfl⟩⟩
    refine ⟨.ref s.heap.objs.size, _, I1, rfl, ⟨_, x, rfl, I.hok.fresh (Nat.le_refl _), rfl, fun ys hy => by rw [I.tuple_inj hy hq]; exact hx⟩, ⟨⟨u', ?_⟩, hst'.1.at fun o q => (sb.2 it (Ne.symm hne)).trans q, hne⟩, fun b hb => ?_⟩
    · have e1 : ((i + 1 : Nat) : Int) = (i : Int) + 1 := by omega
      rw [e1]
      exact he'
    · have hb' : b < s.heap.objs.size := by
        rcases List.mem_cons.mp hb with z | z
        · rw [z]; exact hel
        · rw [List.mem_singleton.mp z]; exact hil
      rw [upd_ne (Nat.ne_of_lt hb')]
      exact (hf b hb).1
  done := by
    intro X hP hw hK hc i pins s σ H E I hf st hg
    subst hP hw hK
    obtain ⟨⟨old, he⟩, hit, hne⟩ := st
    obtain ⟨xs, hq, hx⟩ := hg
    obtain ⟨its, rv, tp, hz⟩ := I.tuple hq
    obtain ⟨f0, f1, f2, f3, f4, f5⟩ := hf it (by simp)
    have hl := rv.length
    have hT : s.TypeIs (.ref e) "enumerate" := ⟨_, he, rfl⟩
    unfold pyNext
    refine wpAny_bind (wpAny_attempt (wpAny_callSpecial?_slot (name := Str.ofString "__next__") hT F.slot_enumerate_next
      (wpAny_call_entry F.slot_enumerate_next hT F.entry_enumerate_next ?_ (F.args_enumerate_next_1 _))))
    show wpAny _ _ (field (.ref e) 2 >>= _) _ _ _
    refine wpAny_bind (wpAny_field he rfl (x := .ref it) rfl ?_)
    refine wpAny_bind (wpAny_nextOf_tuple_end (I.ok.hd hc) hit tp (by simp; omega) fun g x eb hx' => ?_)
    obtain ⟨o, ho, hcl⟩ := hx'
    refine wpAny_bind (wpAny_isInstance (T := "StopIteration") (b := true) ⟨o, ho, hcl⟩ isSubtype_stop ?_)
    exact wpAny_pure ⟨rfl, I.turned (t' := s.toks) (fun b o hb q => eb b o hb q) f0 f1 f3 f4 f5⟩
  self := fun A i s Q E st h => let ⟨⟨_, he⟩, _⟩ := st; wpAny_pyIter_enum he h
def iEnumT (K : PySem.W.Frag) (ta : TA) : TI := fun σ H R => ta σ H fun vs H1 => ∃ a xs, vs = [.ref a] ∧ SqT K H1 a xs ∧ R (IteT K a) H1
theorem pi_enumT {X : Cx} {e : Expr} {ta : TA} {p pos tpos : Pos} {elts : List Expr} {kk : Nat} (hg : Gl X "enumerate") (hm : X.mg "enumerate" = none) (ha : PA X [e] ta) (hs : starEach [e] X.env = [(false, eval e X.env)] := by rfl) :
    PI X (.Tuple elts kk tpos) (.Call (.Name "enumerate" p) [e] [] pos) (iEnumT X.K ta) := by
  refine ⟨fun pins s σ H R I h => ?_⟩
  refine Call_ (ld_blt I hg hm boot_enumerate (PyProof.Rows.callWith_type1 (thn (ha.run pos pins s σ H _ I h) fun us s1 ⟨vs, H1, I1, r1, q1⟩ => ?_) hs rfl))
  obtain ⟨a, xs, rfl, hq, q⟩ := q1
  rw [Vals.ref1 r1]
  obtain ⟨its, rv, tp, hz⟩ := I1.tuple hq
  refine call_enum1 (begins_tuple a its.toArray) tp fun g he hit hk => wpAny_pyIter_enum he ?_
  have I2 : Inv X pins σ H1 { s1 with heap := g } := I1.kept (t' := s1.toks) hk
  refine ⟨s1.heap.objs.size + 1, [s1.heap.objs.size + 1, s1.heap.objs.size], _, _, H1, rfl, I2, turn_enumT a (s1.heap.objs.size + 1) s1.heap.objs.size, ⟨⟨.none, he⟩, ⟨_, hit, rfl, rfl⟩, Nat.succ_ne_self _⟩, fun b hb => ?_, q⟩
  have hle : s1.heap.objs.size ≤ b := by
    rcases List.mem_cons.mp hb with z | z
    · rw [z]; exact Nat.le_succ _
    · rw [List.mem_singleton.mp z]; exact Nat.le_refl _
  exact I1.fpOk hle (I1.hok.fresh hle)
theorem walk_enumT {K : PySem.W.Frag} {a : Addr} {xs : List V} : Walk (IteT K a) xs.length (fun H => SqT K H a xs) (YPair (fun i => some (.int (i : Nat))) (fun i => xs[i]?)) := by
  refine ⟨fun i _ hi q => ⟨xs, xs[i], q, List.getElem?_eq_getElem hi⟩, fun _ q => ⟨xs, q, Nat.le_refl _⟩, fun i H v H' _ q y => ?_⟩
  obtain ⟨T, x, y1, y2, y3, y4⟩ := y
  exact ⟨T, .int (i : Nat), x, y1, y2, y3, rfl, y4 xs q⟩
end Rg
namespace Rg
open PySem PySem.Spec PyProof.Rows L2
/-! ### x in a tuple of data -/
section
variable {X : Cx}
def rInDT (K : PySem.W.Frag) : R2 := fun x y Hh Qq => ∃ dx dxs, Dp K Hh x dx ∧ Dp K Hh y (.tuple dxs) ∧ SeqAt.shaped dx = true ∧ SeqAt.shaped (.tuple dxs) = true ∧ Qq (.bl (dxs.any fun z => PyData.eqv z dx)) Hh
theorem op_inDT (hu : X.A.units + 65 < cLine) : OpR X (compareOp .In) (rInDT X.K) := by
  intro pns s σs Hh x y v u Qq Iv rlx rly h
  obtain ⟨dx, dxs, hdx, hdy, sx, sy, qq⟩ := h
  obtain ⟨as, rd1⟩ := Dp.reads Iv dx x v hdx rlx
  obtain ⟨bs, rd2⟩ := Dp.reads Iv (.tuple dxs) y u hdy rly
  exact SeqAt.in_tuple_reads rd2 rd1 (SeqAt.canLay_of_shaped sy) (SeqAt.canLay_of_shaped sx) (room_in_shaped sx hu) ⟨.bl _, Hh, Iv, rfl, qq⟩
end
end Rg
namespace Rg
open PySem PySem.Spec PyProof.Rows L2
/-! ### dict(xs) of a list of pairs whose keys are tuples -/
section
variable {X : Cx}
def PrT (Hh : Hp) (p : Addr × Addr) (kv : List Key × V) : Prop := Hh p.1 = some (.tup [.ref p.2, kv.2]) ∧ Hh p.2 = some (.tup (kv.1.map kV))
def rDictT (K : PySem.W.Frag) : List V → Hp → VK → Prop := fun vxs Hh Qq => ∃ (a : Addr) (pps : List (Addr × Addr)) (kvs : List (List Key × V)), vxs = [.ref a] ∧ SqL K Hh a ((pps.map (·.1)).map V.ref) ∧
  Paired (PrT Hh) pps kvs ∧ (kvs.map (·.1)).Nodup ∧ ∀ d, Hh d = none → Qq (.ref d) (upd Hh d (.dT kvs))
theorem stored_fresh : ∀ (prs acc : List (List Key × Addr × Value)), ((acc ++ prs).map (·.1)).Nodup → storedAllH acc prs = acc ++ prs
  | [], acc, _ => by rw [List.append_nil]; rfl
  | p :: prs, acc, nd => by
    have e : atKey acc p.1 = none := by
      refine atKey_none_of_get fun j q hj => ?_
      rw [List.map_append, List.nodup_append] at nd
      exact nd.2.2 p.1 (List.mem_map.mpr ⟨_, List.mem_of_getElem? hj, rfl⟩) p.1 (List.mem_cons_self ..) rfl
    show storedAllH (storedH acc p.1 p.2.1 p.2.2) prs = _
    rw [storedH_new e, stored_fresh prs (acc ++ [(p.1, p.2.1, p.2.2)]) (by rw [List.append_assoc]; exact nd), List.append_assoc]
    rfl
theorem prs_of {pns : List (Addr × Obj)} {σs : L2.St} {Hh : Hp} {s : Shared} (Iv : Inv X pns σs Hh s) : ∀ {pps : List (Addr × Addr)} {kvs : List (List Key × V)}, Paired (PrT Hh) pps kvs →
    ∃ prs : List (List Key × Addr × Value), KT Hh kvs prs ∧ prs.length = pps.length ∧ ∀ (j : Nat) (q : List Key × Addr × Value), prs[j]? = some q → ∃ p, pps[j]? = some p ∧ p.2 = q.2.1 ∧ IsTup s.heap p.1 #[.ref q.2.1, q.2.2]
  | _, _, .nil => ⟨[], .nil, rfl, fun j q e => by simp at e⟩
  | _, _, .cons (a := p) (b := kv) h t => by
    obtain ⟨prs, r, hl, hp⟩ := prs_of Iv t
    obtain ⟨its, rv, ht, _⟩ := Iv.tuple (.inl (.inl h.1))
    obtain ⟨u, y, ei, ru, ry⟩ := vals2 rv
    subst ei
    cases ru
    refine ⟨(kv.1, p.2, y) :: prs, .cons ⟨rfl, h.2, ry⟩ r, by rw [List.length_cons, List.length_cons, hl], fun j q e => ?_⟩
    cases j with
    | zero =>
      have e' : (kv.1, p.2, y) = q := Option.some.inj e
      subst e'
      exact ⟨p, rfl, rfl, ht⟩
    | succ j =>
      obtain ⟨b, e1, e2, e3⟩ := hp j q (by simpa using e)
      exact ⟨b, by simpa using e1, e2, e3⟩
theorem kt_new {Hh : Hp} {d : Addr} {u : HO} (hd : Hh d = none) : ∀ {kvs : List (List Key × V)} {prs : List (List Key × Addr × Value)}, KT Hh kvs prs → KT (upd Hh d u) kvs prs
  | _, _, .nil => .nil
  | _, _, .cons ⟨h1, h2, h3⟩ t => .cons ⟨h1, by rw [upd_ne (ne_of_none h2 hd)]; exact h2, h3⟩ (kt_new hd t)
theorem kt_keys {Hh : Hp} : ∀ {kvs : List (List Key × V)} {prs : List (List Key × Addr × Value)}, KT Hh kvs prs → prs.map (·.1) = kvs.map (·.1)
  | _, _, .nil => rfl
  | _, _, .cons ⟨h1, _, _⟩ t => by rw [List.map_cons, List.map_cons, kt_keys t, h1]
theorem kt_get {Hh : Hp} : ∀ {kvs : List (List Key × V)} {prs : List (List Key × Addr × Value)}, KT Hh kvs prs → ∀ q ∈ prs, Hh q.2.1 = some (.tup (q.1.map kV))
  | _, _, .nil => fun q h => nomatch h
  | _, _, .cons ⟨h1, h2, _⟩ t => fun q h => by
    rcases List.mem_cons.mp h with e | e
    · subst e
      rw [← h1]
      exact h2
    · exact kt_get t q e
theorem call_dictT (hcalm : X.calm = true) (hu : X.A.units + 2 < cLine) : CallR X (.type "dict") (rDictT X.K) := by
  intro pns s σs Hh vxs uvs Qq Iv r q
  obtain ⟨a, pps, kvs, rfl, hq, hp, nd, q⟩ := q
  obtain ⟨u, rfl, rx⟩ := vals1 r
  cases rx
  obtain ⟨its, rv, pl, hz⟩ := Iv.list hq
  have ei := refs_at rv
  subst ei
  rw [List.length_map, List.length_map] at hz
  obtain ⟨prs, rel, hl, hpr⟩ := prs_of Iv hp
  obtain ⟨o, n, ho, hc, hd, hdat⟩ := pl
  have hk := kt_get rel
  have P := PairArg.list (prog := X.prog) (w := X.w) a ((pps.map (·.1)).map Value.ref).toArray (fun j => ((pps[j]?).map (·.1)).getD 0) (prs.map fun q => (Value.ref q.2.1, q.2.2))
  refine call_dict_pairsH (knd := tupleKind (mixKind X.prog X.w)) (ps := prs) P (Iv.ok.hd hcalm) hu ⟨⟨o, n, ho, hc, hd, hdat⟩, ?_, fun j k v hj => ?_⟩ ⟨by rw [List.length_map], fun i key v hi => ?_⟩ (fun h' hs x hx => ?_) (by rw [List.length_map, hl]; exact hz) fun h' tk hd' ks => ?_
  · simp [hl]
  · rw [List.getElem?_map] at hj
    obtain ⟨qq, hq2, e⟩ := Option.map_eq_some_iff.mp hj
    obtain ⟨p, e1, e2, e3⟩ := hpr j qq hq2
    injection e with ek ev
    subst ek ev
    refine ⟨?_, ?_⟩
    · simp [e1]
    · show PairAt s.heap (((pps[j]?).map (·.1)).getD 0) _ _
      rw [e1]
      exact .inl e3
  · rw [show PairRel (prs.map fun q => (Value.ref q.2.1, q.2.2)) i key v = ((prs.map fun q => (Value.ref q.2.1, q.2.2))[i]? = some (key, v)) from rfl, List.getElem?_map] at hi
    obtain ⟨qq, hq2, e⟩ := Option.map_eq_some_iff.mp hi
    injection e with ek ev
    subst ek ev
    exact ⟨qq.1, qq.2.1, hq2, rfl⟩
  · obtain ⟨o', items, m, h1, h2, h3, h4⟩ := key_of Iv.hok (hk x hx)
    exact ⟨o', items, m, hs _ _ (Nat.ne_of_lt (Heap.lt_size h1)) (by simp) h1, h2, h3, h4⟩
  · rw [stored_fresh prs [] (by rw [List.nil_append, kt_keys rel]; exact nd), List.nil_append] at hd'
    have hm : (s.heap.objs.size == sysModules) = false := beq_eq_false_iff_ne.mpr (Nat.ne_of_gt Iv.big)
    have hfr := Iv.hok.fresh (Nat.le_refl s.heap.objs.size)
    obtain ⟨o2, es, ep, g1, g2, g3, g4, g5, g6⟩ := hd'
    have hlen : kvs.length ≤ sizeLine := by
      have := congrArg List.length (kt_keys rel)
      rw [List.length_map, List.length_map] at this
      omega
    exact ⟨.ref s.heap.objs.size, upd Hh s.heap.objs.size (.dT kvs), Iv.laid (t' := tk) (fun b u e => ks b u (by simp) e) (Nat.le_refl _) (show ObjOk X.prog X.w _ _ _ (.dT kvs) from ⟨hlen, hm, prs, kt_new hfr rel, o2, es, ep, g1, g2, g3, g4, g6⟩), rfl, q _ hfr⟩
end
end Rg
namespace Rg
open PySem PySem.Spec PyProof.Rows L2
/-! ### an error that is kept behind its clause -/
/-- an error object of the class at C, its dict at dd -/
def errO (e C : Addr) (dd : Option Addr) : HO := .ext fun hp => ∃ (ob : Obj) (vs : Array Value), hp.get? e = some ob ∧ ob.cls = .ref C ∧ ob.dict = dd ∧ ob.data = .fields vs
theorem errO_at {P : Program} {w : World} {H : Hp} {hp : Heap} {e C : Addr} {dd : Option Addr} (hok : HOk P w H hp) (he : H e = some (errO e C dd)) : ∃ (ob : Obj) (vs : Array Value), hp.get? e = some ob ∧ ob.cls = .ref C ∧ ob.dict = dd ∧ ob.data = .fields vs := (hok e _ he).1
theorem errO_ok {P : Program} {w : World} {H : Hp} {hp : Heap} {e C : Addr} {dd : Option Addr} {ob : Obj} {vs : Array Value} (he : hp.get? e = some ob) (h1 : ob.cls = .ref C) (h2 : ob.dict = dd) (h3 : ob.data = .fields vs) : ObjOk P w H hp e (errO e C dd) :=
  ⟨⟨ob, vs, he, h1, h2, h3⟩, ⟨ob, he⟩, fun _ _ ⟨ob', vs', a, b, c, d⟩ st => ⟨ob', vs', st _ a, b, c, d⟩⟩
/-- a thing that was not tracked is tracked from now on -/
theorem inv_know {X : Cx} {pns : List (Addr × Obj)} {σs : L2.St} {Hh : Hp} {sh : Shared} {e : Addr} {u : HO} (Iv : Inv X pns σs Hh sh) (ne : Hh e = none) (old : e ∉ X.ex → ∀ ob, X.s_0.heap.get? e = some ob → False) (nl : e ≠ X.env.locals)
    (nc : ∀ y c, X.env.cells.lookup y = some c → c ≠ e) (np : ∀ p ∈ X.pn ++ pns, p.1 ≠ e) (ob : ObjOk X.prog X.w (upd Hh e u) sh.heap e u) : Inv X pns σs (upd Hh e u) sh := by
  have oth : ∀ b, b ≠ e → upd Hh e u b = Hh b := fun b hb => upd_ne hb
  have keepS : ∀ {b : Addr} {o : HO}, Hh b = some o → upd Hh e u b = some o := fun {b o} q => by rw [oth b (ne_of_none q ne)]; exact q
  refine ⟨Iv.ok, Iv.os, Iv.bare, ⟨Iv.base.keep, Iv.base.slot, fun b o a n x => ?_, Iv.base.there, fun b xs q => keepS (Iv.base.tups b xs q), fun b o z q => keepS (Iv.base.frzs b o z q), fun b ps q => ?_⟩, Iv.loc, Iv.cell, ?_, fun y c q => ?_, fun p hp => ?_, fun b o q => ?_, Iv.len⟩
  · by_cases hb : b = e
    · subst hb
      exact (old x o a).elim
    · rw [oth b hb]
      exact Iv.base.free b o a n x
  · obtain ⟨more, q'⟩ := Iv.base.tbls b ps q
    exact ⟨more, keepS q'⟩
  · rw [oth _ (Ne.symm nl)]
    exact Iv.free
  · rw [oth _ (nc y c q)]
    exact Iv.freeC y c q
  · obtain ⟨a1, a2, a3⟩ := Iv.pin p hp
    exact ⟨a1, by rw [oth _ (np p hp)]; exact a2, a3⟩
  · by_cases hb : b = e
    · subst hb
      rw [upd_same] at q
      cases q
      exact ob
    · rw [oth b hb] at q
      exact (Iv.hok b o q).stay (fun _ _ _ z => z) (fun c z => keepS z) fun c xs z => keepS z
end Rg
namespace Rg
open PySem PySem.Spec PyProof.Rows L2
/-- what the clause asks: the error is one of the class cv; it is tracked while the suite runs and from then on -/
def wKeep (K : PySem.W.Frag) (cv : Value) (ix : Nat) (tsu : TS) (De : Ends) : WX := fun cls dd σs Hh =>
  PySem.W.exmOne K cls cv = some true ∧ ∃ C : Addr, cls = .ref C ∧ ∀ e, Hh e = none → tsu { nx := fun τ J => De.nx (τ.set ix none) J, rt := De.rt, bk := fun τ J => De.bk (τ.set ix none) J, ct := fun τ J => De.ct (τ.set ix none) J } (σs.set ix (some (.ref e))) (upd Hh e (errO e C dd))
section
variable {X : Cx} {pns : List (Addr × Obj)} {σs : L2.St} {Hh : Hp} {sh : Shared}
theorem inv_in (Iv : Inv X pns σs Hh sh) (e : Addr) : Inv (X.suite e (X.pn ++ pns)) [] σs Hh sh :=
  ⟨Iv.ok.suite _ _, Iv.os, Iv.bare, Iv.base, Iv.loc, Iv.cell, Iv.free, Iv.freeC, fun p hp => Iv.pin p (by simpa using hp), Iv.hok, Iv.len⟩
theorem inv_out {e : Addr} (Iv : Inv (X.suite e (X.pn ++ pns)) [] σs Hh sh) (ok : X.Ok) : Inv X pns σs Hh sh :=
  ⟨ok, Iv.os, Iv.bare, Iv.base, Iv.loc, Iv.cell, Iv.free, Iv.freeC, fun p hp => Iv.pin p (by simpa using hp), Iv.hok, Iv.len⟩
end
section
variable {X : Cx} {y n : Str} {cv : Value} {ix : Nat} {bd su : List Stmt} {st0 : Stmt} {np po po' : Pos} {tbd : WX → TS} {tsu : TS}
theorem ps_try_keep (hstk : X.stack = X.env :: X.outer) (hfr0 : X.env.frame = some X.env.locals) (hnd : X.N.Nodup) (hix : X.N[ix]? = some n) (hnl : X.env.kindOf n = some .local) (hcl : Names X y cv)
    (hbd : ∀ (W : WX) (pn : List (Addr × Obj)) (xe : Value → Shared → Prop), Takes (X.tr pn xe) W → PassesOwn (model X.prog X.w) X.A X.env xe → PSs (X.tr pn xe) bd (tbd W))
    (hsu : ∀ (e : Addr) (pn : List (Addr × Obj)), PSs (X.suite e pn) (st0 :: su) tsu) :
    PS X (.Try bd [.ExceptHandler (some (.Name y np)) (some n) (st0 :: su) po'] [] [] po) (fun De σs Hh => tbd (wKeep X.K cv ix tsu De) De σs Hh) := by
  refine ⟨fun pns sh σs Hh De Iv hh => ?_⟩
  have ok := Iv.ok
  have hfr : X.A.frames = some (X.env :: X.outer) := by rw [ok.frames, hstk]
  have hbody := (hbd (wKeep X.K cv ix tsu De) (X.pn ++ pns) (fun e s1 => wpAny (model X.prog X.w) X.A (noteFrame e X.env) (fun _ s2 => wpAny (model X.prog X.w) X.A (setFlight e none) (fun _ s3 =>
    wpAny (model X.prog X.w) X.A (handleBy e X.env [.ExceptHandler (some (.Name y np)) (some n) (st0 :: su) po']) (SP X pns De) X.xe s3) X.xe s2) X.xe s1) (fun u sx xx => ?_) PassesOwn.looking).run [] sh σs Hh De (Iv.toTry _) hh
  · refine wpAny_Try_except (wpAny_mono hbody (fun fl s1 q => ?_) fun _ _ q => q)
    cases fl with
    | next =>
      obtain ⟨τ, J, Jv, q⟩ := q
      exact wpAny_execs_nil ⟨τ, J, Jv.ofTry ok, q⟩
    | brk => exact let ⟨τ, J, Jv, q⟩ := q; ⟨τ, J, Jv.ofTry ok, q⟩
    | cont => exact let ⟨τ, J, Jv, q⟩ := q; ⟨τ, J, Jv.ofTry ok, q⟩
    | ret u => exact let ⟨v, τ, J, Jv, r, q⟩ := q; ⟨v, τ, J, Jv.ofTry ok, r, q⟩
  -- the error is at e
  obtain ⟨e, B, sI, _, τ, J, cls, dd, rfl, Jv0, nb, up, sky, ne, os, ag, hb, C, rfl, hyes⟩ := xx
  have Jv : Inv X pns τ J sI := Jv0.ofTry ok
  rw [hstk] at sky
  refine Sky.land Zc.steady hfr hfr0 sky fun h3 fl3 up3 => ?_
  have K3 : Inv X pns τ J { sx with heap := h3 } := Jv.landed nb fl3.1 (up.trans up3) os ag
  obtain ⟨o3, v3, g3, z3, d3⟩ := fl3.there
  have enf : e ∉ frs X.stack := fun hm => by
    rw [hstk] at hm
    obtain ⟨_, o', e', hnf⟩ := fl3.2.2.1.mem hm
    rw [g3] at e'
    cases e'
    exact hnf _ d3
  have enl : e ≠ X.env.locals := fun z => enf (by rw [hstk]; exact List.mem_filterMap.mpr ⟨X.env, List.mem_cons_self, by rw [hfr0, z]⟩)
  have enF : e ∉ X.fs := fun hm => enf (by
    rw [hstk]
    obtain ⟨ev, he, q⟩ := List.mem_filterMap.mp hm
    exact List.mem_filterMap.mpr ⟨ev, List.mem_cons_of_mem _ he, q⟩)
  have gone : ∀ ob, sI.heap.get? e = some ob → False := fun ob q => by
    have a := nb e ob q enf
    rw [fl3.2.1] at a
    cases a
  -- tracked
  have know : ∀ {h4 : Heap} {o4 : Obj} {v4 : Array Value}, Inv X pns τ J { sx with heap := h4 } → h4.get? e = some o4 → Zc (.ref C) dd o4 → o4.data = .fields v4 → Inv X pns τ (upd J e (errO e C dd)) { sx with heap := h4 } := fun {h4 o4 v4} K4 g4 z4 d4 => by
    refine inv_know K4 ne (fun hx ob q => ?_) enl (fun x c q z => ?_) (fun p hp z => ?_) (errO_ok g4 z4.1 z4.2 d4)
    · obtain ⟨o', q'⟩ := Jv.base.there e ob q hx
      exact gone o' q'
    · obtain ⟨v, o', q', _⟩ := Jv.cell x c q
      rw [z] at q'
      exact gone _ q'
    · obtain ⟨q', _⟩ := Jv.pin p hp
      rw [z] at q'
      exact gone _ q'
  have test : ∀ {Q E : Value → Shared → Prop}, Q cv { sx with heap := h3 } → wpAny (model X.prog X.w) (X.A.mark (some (.ref e))) (eval (.Name y np) X.env) Q E { sx with heap := h3 } := fun {Q E} q => by
    have S3 := inv_in K3 e
    obtain ⟨hg, hdb, hm | ⟨hm, hv, hn⟩⟩ := hcl
    · exact ld_glob S3 hg hm q hdb
    · exact ld_blt S3 hg hm hv q hn hdb
  refine wpAny_handleBy_cons (codeAny_handlers_test (test ((PySem.W.exm_one (M := model X.prog X.w) K3.kIn (fun _ _ _ _ k q => wpAny_typeOf_ref (k _ _ g3) (by rw [z3.1]; exact q)) hb).here (codeAny_handlers_suite_as (HandSPX.lands_againZ fl3 fun h4 fl4 up4 => ?_))))) (by intro q; cases q)
  obtain ⟨o4, v4, g4, z4, d4⟩ := fl4.there
  have K4 := know (Jv.landed nb fl4.1 ((up.trans up3).trans up4) os ag) g4 z4 d4
  refine store_ok (X := X.suite e (X.pn ++ pns)) (v := .ref e) (inv_in K4 e) hnd hix (.inl hnl) rfl (fun s5 S5 => ?_) (.inr hnl)
  refine wpAny_mono ((hsu e _).run [] s5 _ _ _ S5 (hyes e ne)) (fun fl s6 q => ?_) fun _ _ z => z.elim
  have fin : ∀ {ρ : L2.St} {L : Hp} {Q : Shared → Prop}, Inv (X.suite e (X.pn ++ pns)) [] ρ L s6 → (∀ s7, Inv X pns (ρ.set ix none) L s7 → Q s7) → wpAny (model X.prog X.w) X.A (do bindName X.env n .none; unbindBehindTheSuite X.env n po') (fun _ s7 => Q s7) X.xe s6 :=
    fun {ρ L Q} S6 hq => gone_ok (inv_out S6 ok) hnd hix hnl hq
  cases fl with
  | next => exact let ⟨ρ, L, S6, q⟩ := q; fin S6 fun s7 I7 => ⟨_, _, I7, q⟩
  | brk => exact let ⟨ρ, L, S6, q⟩ := q; fin S6 fun s7 I7 => ⟨_, _, I7, q⟩
  | cont => exact let ⟨ρ, L, S6, q⟩ := q; fin S6 fun s7 I7 => ⟨_, _, I7, q⟩
  | ret u => exact let ⟨v, ρ, L, S6, r, q⟩ := q; fin S6 fun s7 I7 => ⟨_, _, _, I7, r, q⟩
end
end Rg
namespace Rg
open PySem PySem.Spec PyProof.Rows L2
theorem call_or {X : Cx} {fv : Value} {r1 r2 : List V → Hp → VK → Prop} (h1 : CallR X fv r1) (h2 : CallR X fv r2) : CallR X fv (fun xs Hh Qq => r1 xs Hh Qq ∨ r2 xs Hh Qq) := fun pns s σs Hh xs us Qq Iv rr h => h.elim (h1 pns s σs Hh xs us Qq Iv rr) (h2 pns s σs Hh xs us Qq Iv rr)
/-- an error that is kept: its object, its dict -/
def ErrV (Hh : Hp) (x : V) (C : Addr) (fs : List (Str × V)) : Prop := ∃ (e dd : Addr), x = .ref e ∧ Hh e = some (errO e C (some dd)) ∧ Hh dd = some (.xd fs)
theorem err_inst {P : Program} {w : World} {Hh : Hp} {hp : Heap} {e C dd : Addr} {fs : List (Str × V)} (hok : HOk P w Hh hp) (he : Hh e = some (errO e C (some dd))) (hd : Hh dd = some (.xd fs)) :
    ∃ (ob od : Obj) (mA : Str → Option Value), PySem.W.InstAt hp e ob C (some od) ∧ (∀ f, PySem.W.lookIn f od = some (mA f)) ∧ ∀ f, RelO (fs.lookup f) (mA f) := by
  obtain ⟨ob, vs, g, c1, c2, c3⟩ := errO_at hok he
  obtain ⟨mA, hns, hr⟩ := (show ObjOk P w Hh hp dd (.xd fs) from hok dd _ hd)
  obtain ⟨od, ho, hl⟩ := lookIn_ns hns
  exact ⟨ob, od, mA, ⟨g, c1, by unfold PySem.W.notCls; rw [c3] <;> rfl, by rw [c2]; exact ho⟩, hl, hr⟩
/-- isinstance(e, c), e an error that is kept -/
def rIsE (K : PySem.W.Frag) : List V → Hp → VK → Prop := fun xs Hh Qq => ∃ (x c : V) (cv : Value) (C : Addr) (fs : List (Str × V)) (b : Bool), xs = [x, c] ∧ (∀ u, RelV c u → u = cv) ∧ ExcC K C ∧ ErrV Hh x C fs ∧ PySem.W.kitOne K (.ref C) cv = some b ∧ Qq (.bl b) Hh
theorem cr_isE {X : Cx} : CallR X (.builtin "isinstance") (rIsE X.K) := by
  intro pns s σs Hh xs us Qq Iv rr ⟨x, c, cv, C, fs, b, ex, hcv, G, ⟨e, dd, ez, he, hd⟩, kit, q⟩
  subst ex ez
  obtain ⟨u1, u2, rfl, r1, r2⟩ := vals2 rr
  obtain rfl : u1 = Value.ref e := r1
  obtain rfl := hcv _ r2
  obtain ⟨ob, od, mA, J, _, _⟩ := err_inst Iv.hok he hd
  have hcl : (PySem.W.clsIn X.K C).isSome = true := by
    obtain ⟨cd, hc, _⟩ := PySem.W.any_some G.hd
    rw [hc]
    rfl
  exact PySem.W.kia_one (PySem.W.kitx_exc hcl G.hg G.hk G.hs G.ha G.hn G.ht G.hm) Iv.kIn J kit (fun z => nomatch z) fun tk => ⟨.bl b, Hh, Iv.kept (t' := tk) fun _ _ z => z, rfl, q⟩
/-- e.f, e an error that is kept -/
def tFldE (K : PySem.W.Frag) (te : TE) (f : Str) : TE := fun σs Hh Qq => te σs Hh fun x J => ∃ (C : Addr) (fs : List (Str × V)) (v : V), ErrV J x C fs ∧ XfC K C ∧ PySem.W.findIn K (.ref C) f = some none ∧ fs.lookup f = some v ∧ Qq v J
theorem pe_fldE {X : Cx} {ex : Expr} {te : TE} {po : Pos} {n : Str} (he : PE X ex te) (hb : attributeBase ex n X.env (eval ex X.env) = eval ex X.env := by rfl) : PE X (.Attribute ex n po) (tFldE X.K te n) := by
  refine ⟨fun pns s σs Hh Qq Iv h => attr_of hb (thn (he.run pns s σs Hh _ Iv h) fun u s1 hh => ?_)⟩
  obtain ⟨x, J, I1, rx, C, fs, v, ⟨e, dd, ez, g1, g2⟩, T, hno, l, q⟩ := hh
  subst ez
  obtain rfl : u = Value.ref e := rx
  obtain ⟨ob, od, mA, K1, hl, hr⟩ := err_inst I1.hok g1 g2
  obtain ⟨z, hz, rz⟩ := RelO.some_of (v := v) (o := mA n) (by rw [← l]; exact hr n)
  exact HandSPX.exc_get I1.kIn K1 T.ga T.gg T.exC (PySem.W.findObj_own T.hdC hno rfl (by rw [hl, hz])) (handed_of rz) ⟨v, J, I1.tok _, rz, q⟩
end Rg
namespace Rg
open PySem PySem.Spec PyProof.Rows L2
/-- name = {k: v for ..}, a plain local name -/
theorem sw_dc {kx vx : Expr} {gs : List Comprehension} {sc : Scope} {po py : Pos} {y : Str} {ln : Nat} {ev : Env} (hk : ev.scope.kind = .function) (hy : ev.scope.names.lookup y = some .local) (hl : (py.line == po.line) = true)
    (ha : (sc.names.any fun (n, k) => n == y && (k == .local || k == .cell)) = false) : swapsWith (.DictComp kx vx gs sc po) (some (.Name y py)) ln ev = pure true := by
  have k1 : ev.kindOf y = some .local := hy
  have k2 : ev.blockKind = .function := by unfold Env.blockKind; rw [hk]; rfl
  unfold swapsWith
  simp only [k2, k1, ha, Expr.pos, hl]
  rfl
section
variable {X : Cx}
theorem ps_setDc {ix : Nat} {y : Str} {py : Pos} {kx vx tg itx : Expr} {ifs : List Expr} {sc : Scope} {own : List (Str × Nat)} {po spo : Pos} {wi : TI} {g : TG} {tt : TT} {tk tv : TE} (hc : X.calm = true) (hN : X.N.Nodup) (hy : X.N[ix]? = some y) (hyl : X.env.scope.names.lookup y = some .local)
    (hsw : swapsWith (.DictComp kx vx [⟨tg, itx, ifs, 0⟩] sc po) (some (.Name y py)) spo.line X.env = pure true) (hi : PI X tg itx wi) (ok : BlkOk X.N X.env.scope sc own)
    (hg : ∀ (s : Shared) (H : Hp) (C : Addr) (cl : List (Str × Addr)) (fp : List Addr), PG (X.blk s H sc (compEnvC sc cl C X.env) fp) tg g) (ht : ∀ (s : Shared) (H : Hp) (C : Addr) (cl : List (Str × Addr)) (fp : List Addr), PTs (X.blk s H sc (compEnvC sc cl C X.env) fp) ifs tt)
    (hk : ∀ (s : Shared) (H : Hp) (C : Addr) (cl : List (Str × Addr)) (fp : List Addr), PE (X.blk s H sc (compEnvC sc cl C X.env) fp) kx tk) (he : ∀ (s : Shared) (H : Hp) (C : Addr) (cl : List (Str × Addr)) (fp : List Addr), PE (X.blk s H sc (compEnvC sc cl C X.env) fp) vx tv)
    (hs : ∀ x, foldedSetIterable itx X.env x = pure x := by intro _; rfl) : PS X (.Assign [.Name y py] (.DictComp kx vx [⟨tg, itx, ifs, 0⟩] sc po) spo) (tAsg (tDc wi g tt tk tv (own.map (·.2))) (gName ix)) := by
  refine ⟨fun pns sh σs Hh De Iv h => ?_⟩
  rw [exec_Assign_Name_used _ _ _ _ hsw]
  refine wpAny_bind (wpAny_standAt (wpAny_bind ?_))
  show wpAny _ X.A (do let _ ← comprehension (.DictComp kx vx [⟨tg, itx, ifs, 0⟩] sc po) sc X.env (firstIterPos [⟨tg, itx, ifs, 0⟩] po) newDict false (eval itx X.env) (some (assign (.Name y py) X.env))) _ _ sh
  have h2 : tDc wi g tt tk tv (own.map (·.2)) σs Hh (fun x J => gName ix x σs J De.nx) := h
  refine wpAny_bind (thn (dc_core (Qf := fun _ s' => SP X pns De .next s') hc hN Iv hi ok hg ht hk he hs h2 fun D C s' m J I' q hn f => ?_) fun _ s' hq => wpAny_pure (wpAny_pure hq))
  show wpAny _ _ (assign (.Name y py) X.env (.ref D)) _ _ _
  refine wpAny_assign_Name (store_ok2 (v := V.ref D) I' hN hy (.inl hyl) rfl (fun s2 I2 ⟨a, sb, ha⟩ => ?_) (.inr hyl))
  obtain ⟨f0, f1, f2, f3, f4, f5⟩ := f
  have ne : C ≠ a := ha.elim (fun z => by rw [z]; exact f1) fun z e => f4 y a z e.symm
  exact ⟨m, hn.sameBut sb ne, fun h3 sb3 => ⟨_, J, I2.turned (t' := s2.toks) (fun b o hb e => (sb3.2 b hb).trans e) f0 f1 f3 f4 f5, q⟩⟩
end
end Rg
namespace Rg
open PySem PySem.Spec PyProof.Rows L2
/-! ### the tuples of a zip that are kept -/
theorem tup_at {h h' : Heap} {a : Addr} {its : Array Value} (x : h.IsTuple a its) (e : ∀ o, h.get? a = some o → h'.get? a = some o) : h'.IsTuple a its := let ⟨o, ho, r⟩ := x; ⟨o, e _ ho, r⟩
theorem draws_tup {prog : Program} {w : World} {A : Around} (clear : A.handled = none) (it l : Addr) (apart : l ≠ it) (its : Array Value) : Draws prog w A it [it, l] its.size (fun j v => its[j]? = some v) (fun j h => h.IsTupleIter it l j ∧ h.IsTuple l its) where
  live := fun _ _ stand => let ⟨o, ho, _⟩ := stand.1; ⟨o, ho⟩
  frame := fun _ _ _ stand kept => ⟨stand.1.at fun o e => kept it (by simp) o e, tup_at stand.2 fun o e => kept l (by simp) o e⟩
  item := fun j s Q E hj stand hQ => by
    refine RZ.nextOf_tuple_item stand.1 stand.2 (x := its[j]) (by simp [hj]) fun h' it' same => ?_
    exact hQ _ h' s.toks (by simp [hj]) ⟨it', stand.2.extBut same.extBut apart⟩ same
  done := fun s Q E stand hE => RZ.nextOf_tuple_end clear stand.1 stand.2 (by simp) hE
section
variable {prog : Program} {w : World} {A : Around} {E : Value → Shared → Prop} {s : Shared} {z TI TO T L i1 i2 : Addr} {fp1 fp2 : List Addr} {n1 n2 j : Nat} {P1 P2 : Nat → Value → Prop} {St1 St2 : Nat → Heap → Prop} {b : Bool} {oT : Obj}
theorem zh_next {Q : Value → Shared → Prop} (S : ZipSep2 z TI TO i1 i2 fp1 fp2) (D1 : Draws prog w A i1 fp1 n1 P1 St1) (D2 : Draws prog w A i2 fp2 n2 P2 St2) (hz : IsZipHeld s.heap z TI TO T b) (hT : s.heap.get? T = some oT) (hTI : IsTupOf2 s.heap TI (.ref i1) (.ref i2)) (t1 : St1 j s.heap) (t2 : St2 j s.heap) (l1 : j < n1) (l2 : j < n2)
    (hQ : ∀ u v h' tk, P1 j u → P2 j v → IsZipHeld h' z TI TO T true → St1 (j + 1) h' → St2 (j + 1) h' → IsTupOf2 h' s.heap.objs.size u v → h'.objs.size = s.heap.objs.size + 1 → (∀ c o, c ≠ z → c ≠ i1 → c ≠ i2 → s.heap.get? c = some o → h'.get? c = some o) → Q (.ref s.heap.objs.size) { s with heap := h', toks := tk }) :
    wpAny (model prog w) A (Builtin.«zip.__next__» ⟨[.ref z], []⟩) (fun fin s' => ∃ v, fin = .done (.ret v) ∧ Q v s') E s := by
  obtain ⟨hp, g, d, tk0, os⟩ := s
  show wpAny _ _ (field (.ref z) 2 >>= _) _ _ _
  refine wpAny_bind (wpAny_field hz rfl (x := .bool false) rfl ?_)
  show wpAny _ _ (field (.ref z) 3 >>= _) _ _ _
  refine wpAny_bind (wpAny_field hz rfl (x := .ref TI) rfl ?_)
  refine wpAny_bind (wpAny_seqItems hTI rfl ?_)
  show wpAny _ _ (Builtin.SmallTypes.ownedTupleIsFree (.ref z) >>= _) _ _ _
  refine wpAny_bind (wpAny_tupleHeld_zip (s := ⟨hp, g, d, tk0, os⟩) hz hT fun k1 z1 c1 => ?_)
  replace c1 : Heap.SameBut z hp k1 := c1
  simp only [Bool.false_eq_true, if_false]
  refine wpAny_bind ?_
  rw [← Array.forIn_toList]
  simp only [List.forIn_cons, List.forIn_nil]
  refine wpAny_bind (wpAny_bind (wpAny_holding ?_))
  show wpAny _ _ (Builtin.SmallTypes.nextOf (.ref i1) >>= _) _ _ ⟨k1, g, d, tk0, os⟩
  refine wpAny_bind (D1.item j _ _ _ l1 (D1.over t1 c1 S.zf1) fun u k2 tk1 pu t1' c2 => wpAny_pure ?_)
  replace c2 : Heap.SameBut i1 k1 k2 := c2
  refine wpAny_pure ?_
  refine wpAny_bind (wpAny_bind (wpAny_holding ?_))
  show wpAny _ _ (Builtin.SmallTypes.nextOf (.ref i2) >>= _) _ _ ⟨k2, g, d, tk1, os⟩
  refine wpAny_bind (D2.item j _ _ _ l2 (D2.over (D2.over t2 c1 S.zf2) c2 S.sep1_2) fun v k3 tk2 pv t2' c3 => wpAny_pure ?_)
  replace c3 : Heap.SameBut i2 k2 k3 := c3
  refine wpAny_pure (wpAny_pure ?_)
  show wpAny _ _ (newTuple [u, v] >>= _) _ _ ⟨k3, g, d, tk2, os⟩
  refine wpAny_bind (wpAny_newTuple ?_)
  have size3 : k3.objs.size = hp.objs.size := by rw [c3.1, c2.1, c1.1]
  have z3 : IsZipHeld k3 z TI TO T true := c3.extBut _ _ S.zi2 (c2.extBut _ _ S.zi1 z1)
  have stay : ∀ c o, c ≠ z → c ≠ i1 → c ≠ i2 → hp.get? c = some o → k3.get? c = some o := fun c o a1 a2 a3 e => c3.extBut _ _ a3 (c2.extBut _ _ a2 (c1.extBut _ _ a1 e))
  refine wpAny_pure ⟨_, rfl, ?_⟩
  show Q (.ref k3.objs.size) _
  have at3 : IsTupOf2 (k3.push { cls := .type "tuple", data := .seq #[u, v] }) k3.objs.size u v := Heap.get?_push_size _ rfl
  have size4 : (k3.push { cls := .type "tuple", data := .seq #[u, v] }).objs.size = k3.objs.size + 1 := Heap.size_push ..
  rw [size3] at at3 size4 ⊢
  exact hQ u v _ tk2 pu pv (Heap.get?_push_of_some _ z3) (D1.frame _ _ _ (D1.over t1' c3 S.sep2_1) fun c _ o e => Heap.get?_push_of_some _ e) (D2.frame _ _ _ t2' fun c _ o e => Heap.get?_push_of_some _ e) at3 size4 fun c o a1 a2 a3 e => Heap.get?_push_of_some _ (stay c o a1 a2 a3 e)
theorem zh_stop {Q : Fin → Shared → Prop} (S : ZipSep2 z TI TO i1 i2 fp1 fp2) (D1 : Draws prog w A i1 fp1 n1 P1 St1) (D2 : Draws prog w A i2 fp2 n2 P2 St2) (hz : IsZipHeld s.heap z TI TO T b) (hT : s.heap.get? T = some oT) (hTI : IsTupOf2 s.heap TI (.ref i1) (.ref i2)) (t1 : St1 j s.heap) (t2 : St2 j s.heap) (l1 : j ≤ n1) (l2 : j ≤ n2) (over : j = n1 ∨ j = n2)
    (hE : ∀ h' tk e, (∀ c o, c ≠ z → c ≠ i1 → c ≠ i2 → s.heap.get? c = some o → h'.get? c = some o) → (∃ o, h'.get? e = some o ∧ o.cls = .type "StopIteration") → E (.ref e) { s with heap := h', toks := tk }) :
    wpAny (model prog w) A (Builtin.«zip.__next__» ⟨[.ref z], []⟩) Q E s := by
  obtain ⟨hp, g, d, tk0, os⟩ := s
  show wpAny _ _ (field (.ref z) 2 >>= _) _ _ _
  refine wpAny_bind (wpAny_field hz rfl (x := .bool false) rfl ?_)
  show wpAny _ _ (field (.ref z) 3 >>= _) _ _ _
  refine wpAny_bind (wpAny_field hz rfl (x := .ref TI) rfl ?_)
  refine wpAny_bind (wpAny_seqItems hTI rfl ?_)
  show wpAny _ _ (Builtin.SmallTypes.ownedTupleIsFree (.ref z) >>= _) _ _ _
  refine wpAny_bind (wpAny_tupleHeld_zip (s := ⟨hp, g, d, tk0, os⟩) hz hT fun k1 z1 c1 => ?_)
  replace c1 : Heap.SameBut z hp k1 := c1
  simp only [Bool.false_eq_true, if_false]
  refine wpAny_bind ?_
  rw [← Array.forIn_toList]
  simp only [List.forIn_cons, List.forIn_nil]
  refine wpAny_bind (wpAny_bind (wpAny_holding ?_))
  show wpAny _ _ (Builtin.SmallTypes.nextOf (.ref i1) >>= _) _ _ ⟨k1, g, d, tk0, os⟩
  by_cases c : j < n1
  · have e2 : j = n2 := by omega
    refine wpAny_bind (D1.item j _ _ _ c (D1.over t1 c1 S.zf1) fun u k2 tk1 pu t1' c2 => wpAny_pure ?_)
    replace c2 : Heap.SameBut i1 k1 k2 := c2
    refine wpAny_pure ?_
    refine wpAny_bind (wpAny_bind (wpAny_holding ?_))
    show wpAny _ _ (Builtin.SmallTypes.nextOf (.ref i2) >>= _) _ _ ⟨k2, g, d, tk1, os⟩
    refine wpAny_bind (D2.done ⟨k2, g, d, tk1, os⟩ _ _ (by rw [← e2]; exact D2.over (D2.over t2 c1 S.zf2) c2 S.sep1_2) fun q e hq he => ?_)
    exact hE q tk1 e (fun c o a1 a2 a3 x => hq c o a3 (c2.extBut _ _ a2 (c1.extBut _ _ a1 x))) he
  · have e1 : j = n1 := by omega
    refine wpAny_bind (D1.done ⟨k1, g, d, tk0, os⟩ _ _ (by rw [← e1]; exact D1.over t1 c1 S.zf1) fun q e hq he => ?_)
    exact hE q tk0 e (fun c o a1 a2 a3 x => hq c o a2 (c1.extBut _ _ a1 x)) he
/-- a zip whose tuples a list keeps -/
def ZSt (z TI TO i1 i2 L : Addr) (St1 St2 : Nat → Heap → Prop) (j : Nat) (h : Heap) : Prop := IsTupOf2 h TI (.ref i1) (.ref i2) ∧ St1 j h ∧ St2 j h ∧ ((IsZip h z TI TO .none ∧ ∃ a b, IsTupOf2 h TO a b) ∨ ∃ T f oT, IsZipHeld h z TI TO T f ∧ h.get? T = some oT ∧ T ≠ z ∧ T ≠ i1 ∧ T ≠ i2 ∧ T ≠ L)
theorem zst_type (st : ZSt z TI TO i1 i2 L St1 St2 j s.heap) : s.TypeIs (.ref z) "zip" := by
  rcases st.2.2.2 with ⟨hz, _⟩ | ⟨_, _, _, hz, _⟩
  · exact ⟨_, hz, rfl⟩
  · exact ⟨_, hz, rfl⟩
theorem zst_keep (D1 : Draws prog w A i1 fp1 n1 P1 St1) (D2 : Draws prog w A i2 fp2 n2 P2 St2) {h h' : Heap} (st : ZSt z TI TO i1 i2 L St1 St2 j h) (nz : z ≠ L) (nTI : TI ≠ L) (nTO : TO ≠ L) (nf1 : L ∉ fp1) (nf2 : L ∉ fp2) (k : ∀ c o, c ≠ L → h.get? c = some o → h'.get? c = some o) : ZSt z TI TO i1 i2 L St1 St2 j h' := by
  obtain ⟨a1, a2, a3, a4⟩ := st
  refine ⟨k _ _ nTI a1, D1.frame _ _ _ a2 fun c hc o e => k c o (fun q => nf1 (q ▸ hc)) e, D2.frame _ _ _ a3 fun c hc o e => k c o (fun q => nf2 (q ▸ hc)) e, ?_⟩
  rcases a4 with ⟨hz, a, b, hTO⟩ | ⟨T, f, oT, hz, hT, r1, r2, r3, r4⟩
  · exact .inl ⟨k _ _ nz hz, a, b, k _ _ nTO hTO⟩
  · exact .inr ⟨T, f, oT, k _ _ nz hz, k _ _ r4 hT, r1, r2, r3, r4⟩
theorem zst_item {Q : Option Value → Shared → Prop} (S : ZipSep2 z TI TO i1 i2 fp1 fp2) (D1 : Draws prog w A.in1 i1 fp1 n1 P1 St1) (D2 : Draws prog w A.in1 i2 fp2 n2 P2 St2) (st : ZSt z TI TO i1 i2 L St1 St2 j s.heap) (hL : L < s.heap.objs.size) (l1 : j < n1) (l2 : j < n2)
    (hQ : ∀ u v h' tk, P1 j u → P2 j v → ZSt z TI TO i1 i2 L St1 St2 (j + 1) h' → IsTupOf2 h' s.heap.objs.size u v → (∀ c o, c ≠ z → c ≠ TO → c ≠ i1 → c ≠ i2 → s.heap.get? c = some o → h'.get? c = some o) → Q (some (.ref s.heap.objs.size)) { s with heap := h', toks := tk }) :
    wpAny (model prog w) A (pyNext (.ref z)) Q E s := by
  have ty := zst_type st
  obtain ⟨hTI, t1, t2, a4⟩ := st
  have lt : ∀ {c o}, s.heap.get? c = some o → s.heap.objs.size ≠ c := fun e => Nat.ne_of_gt (Heap.lt_size e)
  have m1 : s.heap.objs.size ≠ i1 := by obtain ⟨_, e⟩ := D1.live _ _ t1; exact lt e
  have m2 : s.heap.objs.size ≠ i2 := by obtain ⟨_, e⟩ := D2.live _ _ t2; exact lt e
  rcases a4 with ⟨hz, a, b, hTO⟩ | ⟨T, f, oT, hz, hT, r1, r2, r3, r4⟩
  · refine wpAny_pyNext_zipD2_item S D1 D2 hz hTI hTO t1 t2 l1 l2 fun u v h' tk pu pv b1 b2 d1 d2 b5 b6 hk => ?_
    exact hQ u v h' tk pu pv ⟨hk _ _ S.TIz S.TITO S.TIi1 S.TIi2 hTI, d1, d2, .inr ⟨_, false, _, b1, b5, lt hz, m1, m2, Nat.ne_of_gt hL⟩⟩ b5 hk
  · unfold pyNext
    refine wpAny_bind (wpAny_attempt (wpAny_callSpecial?_slot (name := Str.ofString "__next__") ty F.slot_zip_next
      (wpAny_call_entry F.slot_zip_next ty F.entry_zip_next (zh_next S D1 D2 hz hT hTI t1 t2 l1 l2 fun u v h' tk pu pv b1 d1 d2 b5 b6 hk => wpAny_pure ?_) (F.args_zip_next_1 _))))
    exact hQ u v h' tk pu pv ⟨hk _ _ S.TIz S.TIi1 S.TIi2 hTI, d1, d2, .inr ⟨T, true, oT, b1, hk _ _ r1 r2 r3 hT, r1, r2, r3, r4⟩⟩ b5 fun c o q1 _ q3 q4 e => hk c o q1 q3 q4 e
theorem zst_done {Q : Option Value → Shared → Prop} (S : ZipSep2 z TI TO i1 i2 fp1 fp2) (D1 : Draws prog w A.in1 i1 fp1 n1 P1 St1) (D2 : Draws prog w A.in1 i2 fp2 n2 P2 St2) (st : ZSt z TI TO i1 i2 L St1 St2 j s.heap) (l1 : j ≤ n1) (l2 : j ≤ n2) (over : j = n1 ∨ j = n2)
    (hQ : ∀ h' tk, (∀ c o, c ≠ z → c ≠ TO → c ≠ i1 → c ≠ i2 → s.heap.get? c = some o → h'.get? c = some o) → Q none { s with heap := h', toks := tk }) : wpAny (model prog w) A (pyNext (.ref z)) Q E s := by
  have ty := zst_type st
  obtain ⟨hTI, t1, t2, a4⟩ := st
  rcases a4 with ⟨hz, a, b, hTO⟩ | ⟨T, f, oT, hz, hT, r1, r2, r3, r4⟩
  · exact wpAny_pyNext_zipD2_end S D1 D2 hz hTI hTO t1 t2 l1 l2 over hQ
  · unfold pyNext
    refine wpAny_bind (wpAny_attempt (wpAny_callSpecial?_slot (name := Str.ofString "__next__") ty F.slot_zip_next
      (wpAny_call_entry F.slot_zip_next ty F.entry_zip_next (zh_stop S D1 D2 hz hT hTI t1 t2 l1 l2 over fun h' tk e hk he => ?_) (F.args_zip_next_1 _))))
    obtain ⟨o, ho, hc⟩ := he
    refine wpAny_bind (wpAny_isInstance (T := "StopIteration") (b := true) ⟨o, ho, hc⟩ isSubtype_stop ?_)
    exact wpAny_pure (hQ _ _ fun c o q1 _ q3 q4 e => hk c o q1 q3 q4 e)
theorem zst_self {Q : Value → Shared → Prop} (st : ZSt z TI TO i1 i2 L St1 St2 j s.heap) (h : Q (.ref z) s) : wpAny (model prog w) A (pyIter (.ref z)) Q E s := by
  have ty := zst_type st
  refine wpAny_pyIter_slot ty F.slot_zip_iter (wpAny_call_entry F.slot_zip_iter ty F.entry_zip_iter ?_ (F.args_zip_iter_1 _))
  show wpAny _ _ (ret (.ref z)) _ _ s
  exact wpAny_pure ⟨_, rfl, "zip", _, ty, F.slot_zip_next.lookup, h⟩
end
/-- the addresses of the pairs given out so far -/
structure ZGo (P1 P2 : Nat → Value → Prop) (lo : Addr) (h : Heap) (as : List Addr) : Prop where
  up : as.Pairwise (· < ·)
  hi : ∀ a ∈ as, lo < a
  each : ∀ (k : Nat) (a : Addr), as[k]? = some a → ∃ u v, P1 k u ∧ P2 k v ∧ IsTupOf2 h a u v
end Rg
namespace Rg
open PySem PySem.Spec PyProof.Rows L2
theorem nolen_zp : typeLookup (.type "zip") "__len__" = pure none := by rw [typeLookup_type, builtinLookup_eq_fast]; kernel_rfl
theorem nohint_zp : typeLookup (.type "zip") "__length_hint__" = pure none := by rw [typeLookup_type, builtinLookup_eq_fast]; kernel_rfl
/-- all cells of the zip stand below L -/
structure ZLow (z TI TO L : Addr) (fp1 fp2 : List Addr) : Prop where
  z : z < L
  TI : TI < L
  TO : TO < L
  f1 : ∀ c ∈ fp1, c < L
  f2 : ∀ c ∈ fp2, c < L
section
variable {prog : Program} {w : World} {A : Around} {s : Shared} {R : Result → Shared → Prop} {z TI TO L i1 i2 : Addr} {fp1 fp2 : List Addr} {n1 n2 : Nat} {P1 P2 : Nat → Value → Prop} {St1 St2 : Nat → Heap → Prop}
theorem zl_keep (W : ZLow z TI TO L fp1 fp2) (D1 : Draws prog w A i1 fp1 n1 P1 St1) (D2 : Draws prog w A i2 fp2 n2 P2 St2) {j : Nat} {h h' : Heap} (st : ZSt z TI TO i1 i2 L St1 St2 j h) (k : ∀ c o, c ≠ L → h.get? c = some o → h'.get? c = some o) : ZSt z TI TO i1 i2 L St1 St2 j h' :=
  zst_keep D1 D2 st (Nat.ne_of_lt W.z) (Nat.ne_of_lt W.TI) (Nat.ne_of_lt W.TO) (fun q => Nat.lt_irrefl _ (W.f1 _ q)) (fun q => Nat.lt_irrefl _ (W.f2 _ q)) k
theorem zl_loop (S : ZipSep2 z TI TO i1 i2 fp1 fp2) (D1 : Draws prog w A.in1.in1 i1 fp1 n1 P1 St1) (D2 : Draws prog w A.in1.in1 i2 fp2 n2 P2 St2) (W : ZLow z TI TO L fp1 fp2) (hn : min n1 n2 ≤ sizeLine) (res : Value) {h0 : Heap}
    (hR : ∀ h' tk acc c as, (∀ b o, b ≠ L → b ≠ z → b ≠ TO → b ≠ i1 → b ≠ i2 → h0.get? b = some o → h'.get? b = some o) → h'.get? L = some { cls := .type "list", dict := none, data := .seq acc c, slots := #[] } → as.length = min n1 n2 → ZGo P1 P2 L h' as → acc.toList = as.map Value.ref → R (.ok (.ret res)) { s with heap := h', toks := tk }) :
    ∀ (m j : Nat) (h : Heap) (tk c : Nat) (acc : Array Value) (as : List Addr), min n1 n2 - j = m → j ≤ min n1 n2 → ZSt z TI TO i1 i2 L St1 St2 j h → (∀ b o, b ≠ L → b ≠ z → b ≠ TO → b ≠ i1 → b ≠ i2 → h0.get? b = some o → h.get? b = some o) →
      h.get? L = some { cls := .type "list", dict := none, data := .seq acc c, slots := #[] } → acc.toList = as.map Value.ref → as.length = j → ZGo P1 P2 L h as → codeAny (model prog w) A (.builtin "list.extend.loop" ⟨[.ref L, .ref z, res], []⟩) R { s with heap := h, toks := tk } := by
  have lz : L ≠ z := Nat.ne_of_gt W.z
  have lTO : L ≠ TO := Nat.ne_of_gt W.TO
  have li1 : L ≠ i1 := Nat.ne_of_gt (W.f1 _ S.mem1)
  have li2 : L ≠ i2 := Nat.ne_of_gt (W.f2 _ S.mem2)
  have off : ∀ {a : Addr}, L < a → a ≠ z ∧ a ≠ TO ∧ a ≠ i1 ∧ a ≠ i2 := fun {a} q => ⟨Nat.ne_of_gt (Nat.lt_trans W.z q), Nat.ne_of_gt (Nat.lt_trans W.TO q), Nat.ne_of_gt (Nat.lt_trans (W.f1 _ S.mem1) q), Nat.ne_of_gt (Nat.lt_trans (W.f2 _ S.mem2) q)⟩
  intro m
  induction m with
  | zero =>
    intro j h tk c acc as hm hj st keep hL full len G
    have le1 := Nat.min_le_left n1 n2
    have le2 := Nat.min_le_right n1 n2
    refine codeAny_builtin PySem.F.entry_extend_loop ?_
    rw [Around.under_plainId PySem.F.plain_extend_loop _]
    show wpAny _ A.in1 (pyNext (.ref z) >>= _) _ _ _
    refine wpAny_bind (zst_done (s := { s with heap := h, toks := tk }) (A := A.in1) S D1 D2 st (by omega) (by omega) (by omega) fun h' tk' ex => ?_)
    refine wpAny_pure (hR h' tk' acc c as (fun b o q0 q1 q2 q3 q4 e => ex b o q1 q2 q3 q4 (keep b o q0 q1 q2 q3 q4 e)) (ex L _ lz lTO li1 li2 hL) (by omega) ⟨G.up, G.hi, fun k a hk => ?_⟩ full)
    obtain ⟨u, v, pu, pv, e⟩ := G.each k a hk
    obtain ⟨o1, o2, o3, o4⟩ := off (G.hi a (List.mem_of_getElem? hk))
    exact ⟨u, v, pu, pv, ex a _ o1 o2 o3 o4 e⟩
  | succ m ih =>
    intro j h tk c acc as hm hj st keep hL full len G
    have le1 := Nat.min_le_left n1 n2
    have le2 := Nat.min_le_right n1 n2
    have size : acc.size = j := by rw [← Array.length_toList, full, List.length_map, len]
    have hLs : L < h.objs.size := Heap.lt_size hL
    refine codeAny_builtin PySem.F.entry_extend_loop ?_
    rw [Around.under_plainId PySem.F.plain_extend_loop _]
    show wpAny _ A.in1 (pyNext (.ref z) >>= _) _ _ _
    refine wpAny_bind (zst_item (s := { s with heap := h, toks := tk }) (A := A.in1) S D1 D2 st hLs (by omega) (by omega) fun u v h' tk' pu pv st' new ex => ?_)
    dsimp only at new ex ⊢
    have hL' := ex L _ lz lTO li1 li2 hL
    have up : ∀ b o, b ≠ L → h'.get? b = some o → (h'.update L (Obj.mapSeq (·.push (Value.ref h.objs.size)))).get? b = some o := fun b o hb e => (Heap.get?_update_other _ _ (Ne.symm hb)).trans e
    show wpAny _ A.in1 (updateSeq L (·.push (Value.ref h.objs.size)) >>= _) _ _ _
    refine wpAny_bind ?_
    refine wpAny_updateSeq hL' rfl (wpAny_pure ⟨plainId_quiet PySem.F.plain_extend_loop _, ih (j + 1) _ tk' _ (acc.push (Value.ref h.objs.size)) (as ++ [h.objs.size]) (by omega) (by omega) (zl_keep W D1 D2 st' up)
      (fun b o q0 q1 q2 q3 q4 e => up b o q0 (ex b o q1 q2 q3 q4 (keep b o q0 q1 q2 q3 q4 e))) (Heap.get?_update_self _ hL' rfl) (by rw [Array.toList_push, full, List.map_append]; rfl) (by rw [List.length_append, len]; rfl) ⟨?_, ?_, ?_⟩⟩) (by rw [size]; omega) (by show (acc.push (Value.ref h.objs.size)).size ≤ sizeLine + 1; rw [Array.size_push, size]; omega)
    · refine List.pairwise_append.mpr ⟨G.up, List.pairwise_singleton _ _, fun a ha b hb => ?_⟩
      rw [List.mem_singleton.mp hb]
      obtain ⟨k, hk⟩ := List.mem_iff_getElem?.mp ha
      obtain ⟨_, _, _, _, e⟩ := G.each k a hk
      exact Heap.lt_size e
    · intro a ha
      rcases List.mem_append.mp ha with ha | ha
      · exact G.hi a ha
      · rw [List.mem_singleton.mp ha]; exact hLs
    · intro k a hk
      rcases Nat.lt_trichotomy k as.length with q | q | q
      · rw [List.getElem?_append_left q] at hk
        obtain ⟨u', v', pu', pv', e⟩ := G.each k a hk
        have ha := G.hi a (List.mem_of_getElem? hk)
        obtain ⟨o1, o2, o3, o4⟩ := off ha
        exact ⟨u', v', pu', pv', up a _ (Nat.ne_of_gt ha) (ex a _ o1 o2 o3 o4 e)⟩
      · subst q
        have ha : h.objs.size = a := by simpa using hk
        subst ha
        rw [len]
        exact ⟨u, v, pu, pv, up _ _ (Nat.ne_of_gt hLs) new⟩
      · rw [List.getElem?_eq_none (by rw [List.length_append, List.length_singleton]; omega)] at hk
        cases hk
theorem zl_extend (S : ZipSep2 z TI TO i1 i2 fp1 fp2) (D1 : Draws prog w A.in1.in1 i1 fp1 n1 P1 St1) (D2 : Draws prog w A.in1.in1 i2 fp2 n2 P2 St2) (W : ZLow z TI TO L fp1 fp2) (hn : min n1 n2 ≤ sizeLine) (res : Value) (c0 : Nat) (st : ZSt z TI TO i1 i2 L St1 St2 0 s.heap) (hL : s.heap.get? L = some { cls := .type "list", data := .seq #[] c0 })
    (hR : ∀ h' tk acc c as, (∀ b o, b ≠ L → b ≠ z → b ≠ TO → b ≠ i1 → b ≠ i2 → s.heap.get? b = some o → h'.get? b = some o) → h'.get? L = some { cls := .type "list", dict := none, data := .seq acc c, slots := #[] } → as.length = min n1 n2 → ZGo P1 P2 L h' as → acc.toList = as.map Value.ref → R (.ok (.ret res)) { s with heap := h', toks := tk }) :
    wpAny (model prog w) A.in1 (Builtin.List.listExtendWith (.ref L) (.ref z) res)
      (fun fin s' => match fin with | .done f => R (.ok f) s' | .again c' => c'.quiet = true ∧ codeAny (model prog w) A c' R s') (fun e s' => R (.error e) s') s := by
  have ty := zst_type st
  have ne : L ≠ z := Nat.ne_of_gt W.z
  unfold Builtin.List.listExtendWith
  refine wpAny_bind (wpAny_typeOf (T := "zip") ty ?_)
  have q1 : Builtin.List.listSameRef (.ref L) (.ref z) = false := by simp [Builtin.List.listSameRef, ne]
  have q2 : (Value.type "zip" == Value.type "list") = false := by decide
  have q3 : (Value.type "zip" == Value.type "tuple") = false := by decide
  simp only [q1, q2, q3, Bool.or_false, Bool.false_eq_true, if_false]
  refine wpAny_bind (zst_self st ?_)
  refine wpAny_bind (wpAny_holding ?_)
  unfold Builtin.List.listLengthHint
  refine wpAny_bind (wpAny_specialOf ty nolen_zp ?_)
  show wpAny _ A.in1 (specialOf (Value.ref z) (Str.ofString "__length_hint__") >>= _) _ _ _
  refine wpAny_bind (wpAny_specialOf ty nohint_zp ?_)
  refine wpAny_pure ?_
  show wpAny _ A.in1 (rule "list.extend.makes-room" >>= fun _ => Builtin.List.listTouch (.ref L) >>= fun _ => again (.builtin "list.extend.loop" ⟨[.ref L, .ref z, res], []⟩)) _ _ _
  refine wpAny_bind (wpAny_rule ?_)
  refine wpAny_bind ?_
  show wpAny _ A.in1 (updateSeq L (·.push .none) >>= fun _ => updateSeq L (·.pop)) _ _ _
  refine wpAny_bind (wpAny_updateSeq hL rfl ?_)
  have hL2 := Heap.get?_update_self (Obj.mapSeq (·.push Value.none)) hL rfl
  refine wpAny_updateSeq (hz := by seq_fits) hL2 rfl ?_
  have hL3 := Heap.get?_update_self (Obj.mapSeq (·.pop)) hL2 rfl
  have oth : ∀ b o, b ≠ L → s.heap.get? b = some o → ((s.heap.update L (Obj.mapSeq (·.push Value.none))).update L (Obj.mapSeq (·.pop))).get? b = some o := fun b o hb e => (Heap.get?_update_other _ _ (Ne.symm hb)).trans ((Heap.get?_update_other _ _ (Ne.symm hb)).trans e)
  refine wpAny_pure ⟨plainId_quiet PySem.F.plain_extend_loop _, zl_loop (s := s) (h0 := s.heap) S D1 D2 W hn res hR _ 0 _ s.toks _ #[] [] rfl (Nat.zero_le _) (zl_keep W D1 D2 st oth) (fun b o q0 _ _ _ _ e => oth b o q0 e) hL3 rfl rfl ⟨List.Pairwise.nil, (fun _ q => nomatch q), fun k a q => by simp at q⟩⟩
theorem zl_call {E : Value → Shared → Prop} {Q : Value → Shared → Prop} (S : ZipSep2 z TI TO i1 i2 fp1 fp2) (D1 : Draws prog w A.in1.in1.in1 i1 fp1 n1 P1 St1) (D2 : Draws prog w A.in1.in1.in1 i2 fp2 n2 P2 St2) (W : ZLow z TI TO s.heap.objs.size fp1 fp2) (hn : min n1 n2 ≤ sizeLine) (st : ZSt z TI TO i1 i2 s.heap.objs.size St1 St2 0 s.heap)
    (hQ : ∀ h' tk acc c as, (∀ b o, b ≠ z → b ≠ TO → b ≠ i1 → b ≠ i2 → s.heap.get? b = some o → h'.get? b = some o) → h'.get? s.heap.objs.size = some { cls := .type "list", dict := none, data := .seq acc c, slots := #[] } → as.length = min n1 n2 → ZGo P1 P2 s.heap.objs.size h' as → acc.toList = as.map Value.ref → Q (.ref s.heap.objs.size) { s with heap := h', toks := tk }) :
    wpAny (model prog w) A (call (.type "list") [.ref z]) Q E s := by
  refine callType_codes (Q₁ := fun obj t => obj = .ref s.heap.objs.size ∧ t = { s with heap := s.heap.push { cls := .type "list", data := .seq #[] } }) PySem.F.called_list (PySem.F.typeCall_list_1 _) PySem.F.entry_list_init
    (code_list_new _ ⟨rfl, rfl⟩) fun obj t ht => ?_
  obtain ⟨rfl, rfl⟩ := ht
  have hL : (s.heap.push { cls := .type "list", data := .seq #[] }).get? s.heap.objs.size = some { cls := .type "list", data := .seq #[] } := Heap.get?_push_size _ rfl
  refine ⟨⟨_, hL, rfl⟩, PySem.F.args_list_init_2 _ _, ?_⟩
  show wpAny _ _ (do let old ← Builtin.List.listItems (.ref s.heap.objs.size); Builtin.List.listUpdate (.ref s.heap.objs.size) (fun _ => #[]); letGo old.toList.reverse; Builtin.List.listExtendWith (.ref s.heap.objs.size) (.ref z) .none) _ _ _
  refine wpAny_bind ?_
  unfold Builtin.List.listItems
  refine wpAny_bind (wpAny_seqItems hL rfl (wpAny_pure ?_))
  show wpAny _ _ (updateSeq s.heap.objs.size (fun _ => #[]) >>= fun _ => letGo (#[] : Array Value).toList.reverse >>= fun _ => Builtin.List.listExtendWith (.ref s.heap.objs.size) (.ref z) .none) _ _ _
  refine wpAny_bind (wpAny_updateSeq hL rfl ?_)
  have hL2 := Heap.get?_update_self (Obj.mapSeq (fun _ => (#[] : Array Value))) hL rfl
  have oth : ∀ b o, b ≠ s.heap.objs.size → s.heap.get? b = some o → ((s.heap.push { cls := .type "list", data := .seq #[] }).update s.heap.objs.size (Obj.mapSeq (fun _ => (#[] : Array Value)))).get? b = some o :=
    fun b o hb e => (Heap.get?_update_other _ _ (Ne.symm hb)).trans (Heap.get?_push_of_some _ e)
  refine wpAny_bind (wpAny_letGo ?_)
  refine zl_extend (A := A.in1) S D1 D2 W hn .none _ (zl_keep W D1 D2 st oth) hL2 fun h' tk acc c as hk hL' hl G hacc => ?_
  exact ⟨rfl, hQ h' tk acc c as (fun b o q1 q2 q3 q4 e => hk b o (Nat.ne_of_lt (Heap.lt_size e)) q1 q2 q3 q4 (oth b o (Nat.ne_of_lt (Heap.lt_size e)) e)) hL' hl G hacc⟩
end
end Rg
namespace Rg
open PySem PySem.Spec PyProof.Rows L2
/-! ### list(zip(x, y)), by the hand layer -/
/-- pairs tracked at their addresses -/
def putZ : Hp → List Addr → List (V × V) → Hp
  | H, a :: as, q :: qs => putZ (upd H a (.tup [q.1, q.2])) as qs
  | H, _, _ => H
theorem putZ_off {b : Addr} : ∀ (as : List Addr) (qs : List (V × V)) (H : Hp), b ∉ as → putZ H as qs b = H b
  | [], _, _, _ => rfl
  | _ :: _, [], _, _ => rfl
  | a :: as, q :: qs, H, h => by
    show putZ (upd H a (.tup [q.1, q.2])) as qs b = H b
    rw [putZ_off as qs _ (fun m => h (List.mem_cons_of_mem _ m)), upd_ne (fun m => h (by rw [m]; exact List.mem_cons_self))]
/-- where pairs stand -/
def PairsAt (H : Hp) : List Addr → List (V × V) → Prop := Paired fun (t : Addr) (q : V × V) => H t = some (.tup [q.1, q.2])
theorem putZ_at : ∀ (as : List Addr) (qs : List (V × V)) (H : Hp), as.length = qs.length → as.Nodup → PairsAt (putZ H as qs) as qs
  | [], [], _, _, _ => .nil
  | [], _ :: _, _, h, _ => by cases h
  | _ :: _, [], _, h, _ => by cases h
  | a :: as, q :: qs, H, h, hn => by
    have hn' := List.nodup_cons.mp hn
    refine .cons ?_ (putZ_at as qs (upd H a (.tup [q.1, q.2])) (Nat.succ.inj h) hn'.2)
    show putZ (upd H a (.tup [q.1, q.2])) as qs a = some (.tup [q.1, q.2])
    rw [putZ_off as qs _ hn'.1, upd_same]
theorem pairs_get {H : Hp} : ∀ {as : List Addr} {qs : List (V × V)}, PairsAt H as qs → ∀ {i : Nat} {a : Addr}, as[i]? = some a → ∃ q, qs[i]? = some q ∧ H a = some (.tup [q.1, q.2])
  | _, _, .nil, i, x, h => by cases h
  | _, _, .cons r t, 0, x, h => by
    cases h
    exact ⟨_, rfl, r⟩
  | _, _, .cons r t, i + 1, x, h => pairs_get t h
theorem pairs_mem {H : Hp} {as : List Addr} {qs : List (V × V)} (h : PairsAt H as qs) {a : Addr} (m : a ∈ as) : ∃ (i : Nat) (q : V × V), as[i]? = some a ∧ qs[i]? = some q ∧ H a = some (.tup [q.1, q.2]) := by
  obtain ⟨i, hi⟩ := List.mem_iff_getElem?.mp m
  obtain ⟨q, e1, e2⟩ := pairs_get h hi
  exact ⟨i, q, hi, e1, e2⟩
theorem refs_vals : ∀ as : List Addr, Vals (as.map V.ref) (as.map Value.ref)
  | [] => .nil
  | _ :: as => .cons rfl (refs_vals as)
theorem zip_get {α β : Type} : ∀ {xs : List α} {ys : List β} {i : Nat} {q : α × β}, (xs.zip ys)[i]? = some q → xs[i]? = some q.1 ∧ ys[i]? = some q.2
  | [], _, i, q, h => by simp at h
  | _ :: _, [], i, q, h => by simp at h
  | x :: xs, y :: ys, 0, q, h => by
    have e : (x, y) = q := by simpa using h
    subst e
    exact ⟨rfl, rfl⟩
  | x :: xs, y :: ys, i + 1, q, h => by
    have h' : (xs.zip ys)[i]? = some q := by simpa using h
    simpa using zip_get h'
theorem zip_laid {X : Cx} {pins : List (Addr × Obj)} {σ : L2.St} {H : Hp} {s : Shared} {h' : Heap} {tk : Nat} {xs ys : List V} {is js : List Value} {acc : Array Value} {c : Nat} {as : List Addr} {L : Addr} (I : Inv X pins σ H s) (hx : Vals xs is) (hy : Vals ys js) (hz : xs.length ≤ sizeLine) (above : s.heap.objs.size ≤ L)
    (keep : ∀ b o, s.heap.get? b = some o → h'.get? b = some o) (hL : h'.get? L = some { cls := .type "list", dict := none, data := .seq acc c, slots := #[] }) (len : as.length = min is.toArray.size js.toArray.size) (G : ZGo (fun i v => is.toArray[i]? = some v) (fun i v => js.toArray[i]? = some v) L h' as) (full : acc.toList = as.map Value.ref) :
    ∃ H' : Hp, Same H H' ∧ H L = none ∧ (∀ t ∈ as, H t = none) ∧ H' L = some (.lst (as.map V.ref)) ∧ PairsAt H' as (xs.zip ys) ∧ Inv X pins σ H' { s with heap := h', toks := tk } := by
  have l1 := hx.length
  have l2 := hy.length
  have lz : as.length = (xs.zip ys).length := by rw [List.length_zip, len]; simp only [List.size_toArray]; omega
  have nL : L ∉ as := fun m => Nat.lt_irrefl _ (G.hi _ m)
  have nd : as.Nodup := List.Pairwise.imp (fun {a b} (h : a < b) => Nat.ne_of_lt h) G.up
  have fresh : ∀ t ∈ as, H t = none := fun t m => I.hok.fresh (Nat.le_trans above (Nat.le_of_lt (G.hi t m)))
  have freshL : H L = none := I.hok.fresh above
  have at_ := putZ_at as (xs.zip ys) (upd H L (.lst (as.map V.ref))) lz nd
  have off : ∀ b, b ∉ as → b ≠ L → putZ (upd H L (.lst (as.map V.ref))) as (xs.zip ys) b = H b := fun b m n => by rw [putZ_off as _ _ m, upd_ne n]
  have low : ∀ b o, s.heap.get? b = some o → b ∉ as ∧ b ≠ L := fun b o e => ⟨fun m => absurd (Heap.lt_size e) (Nat.not_lt.mpr (Nat.le_trans above (Nat.le_of_lt (G.hi b m)))), Nat.ne_of_lt (Nat.lt_of_lt_of_le (Heap.lt_size e) above)⟩
  have kp : ∀ b u, H b = some u → (putZ (upd H L (.lst (as.map V.ref))) as (xs.zip ys)) b = some u := fun b u e => by
    rw [off b (fun m => by rw [fresh b m] at e; cases e) (fun m => by rw [m, freshL] at e; cases e)]
    exact e
  have eL : putZ (upd H L (.lst (as.map V.ref))) as (xs.zip ys) L = some (.lst (as.map V.ref)) := by rw [putZ_off as _ _ nL, upd_same]
  refine ⟨putZ (upd H L (.lst (as.map V.ref))) as (xs.zip ys), kp, freshL, fresh, eL, at_, ?_⟩
  refine I.call' (ch := []) rfl ⟨fun b o q _ _ _ => keep b o q, fun b o q _ _ _ => ⟨o.slots, keep b o q⟩, fun b o q n _ => ?_, fun b o q _ => ⟨o, keep b o q⟩, fun b us q => kp b _ q, fun b o u q => kp b _ q, fun b ps q => ⟨#[], by rw [kp b _ q]; simp⟩⟩ (fun b u q => ?_) I.bare fun b m => by simp at m
  · obtain ⟨m1, m2⟩ := low b o q
    rw [off b m1 m2]
    exact n
  · by_cases m : b ∈ as
    · obtain ⟨i, p, e1, e2, e3⟩ := pairs_mem at_ m
      rw [e3] at q
      cases q
      obtain ⟨x, y⟩ := p
      obtain ⟨f1, f2⟩ := zip_get e2
      obtain ⟨u, v, pu, pv, hT⟩ := G.each i b e1
      obtain ⟨u', hu, ru⟩ := hx.get f1
      obtain ⟨v', hv, rv⟩ := hy.get f2
      have eu : u' = u := by rw [List.getElem?_toArray, hu] at pu; exact Option.some.inj pu
      have ev : v' = v := by rw [List.getElem?_toArray, hv] at pv; exact Option.some.inj pv
      subst eu ev
      exact ⟨by show 2 ≤ sizeLine; decide, [u', v'], .cons ru (.cons rv .nil), ⟨_, hT, rfl, _, rfl⟩⟩
    · by_cases m2 : b = L
      · rw [m2] at q ⊢
        rw [eL] at q
        cases q
        refine ⟨by rw [List.length_map, lz, List.length_zip]; omega, acc.toList, c, by rw [full]; exact refs_vals as, ?_⟩
        rw [Array.toArray_toList]
        exact hL
      · rw [off b m m2] at q
        exact (I.hok b u q).stay (fun d v _ y => keep d v y) (fun d y => kp d _ y) fun d us y => kp d _ y
section
variable {X : Cx}
/-- two lists, or two tuples -/
def Seq2 (K : PySem.W.Frag) (H : Hp) (a b : Addr) (xs ys : List V) : Prop := (SqL K H a xs ∧ SqL K H b ys) ∨ (SqT K H a xs ∧ SqT K H b ys)
def tLZip (K : PySem.W.Frag) (ta : TA) : TE := fun σ H Q => ta σ H fun vs H1 => ∃ (a b : Addr) (xs ys : List V), vs = [.ref a, .ref b] ∧ Seq2 K H1 a b xs ys ∧
  ∀ (p : Addr) (ts : List Addr) (H' : Hp), Same H1 H' → H1 p = none → (∀ t ∈ ts, H1 t = none) → H' p = some (.lst (ts.map V.ref)) → PairsAt H' ts (xs.zip ys) → Q (.ref p) H'
theorem pe_listZip {e e2 : Expr} {ta : TA} {p p2 pos2 pos : Pos} (calm : X.calm = true) (gl : Gl X "list") (ml : X.mg "list" = none) (gz : Gl X "zip") (mz : X.mg "zip" = none) (ha : PA X [e, e2] ta)
    (st : starEach [.Call (.Name "zip" p2) [e, e2] [] pos2] X.env = (false, eval (.Call (.Name "zip" p2) [e, e2] [] pos2) X.env) :: starEach [] X.env := by rfl)
    (st2 : starEach [e, e2] X.env = (false, eval e X.env) :: starEach [e2] X.env := by rfl) (pl2 : (backTo pos2 (starEach [e2] X.env)).any (·.1) = false := by rfl) :
    PE X (.Call (.Name "list" p) [.Call (.Name "zip" p2) [e, e2] [] pos2] [] pos) (tLZip X.K ta) := by
  refine ⟨fun pins s σ H Q I h => ?_⟩
  refine wpAny_Call_Name_kw (ld_blt I gl ml (by decide +kernel : bootBuiltins "list" = some (.type "list")) ?_)
  refine PyProof.Rows.callWith_type1 ?_ st rfl
  rw [st]
  show wpAny _ _ (spliced ((false, eval (.Call (.Name "zip" p2) [e, e2] [] pos2) X.env) :: backTo pos (starEach [] X.env))) _ _ s
  refine Calls.spliced_cons ?_
  refine wpAny_Call_Name_kw (ld_blt I gz mz PyProof.Rows.boot_zip ?_)
  refine PyProof.Rows.callWith_type1 (thn (ha.run pos2 pins s σ H _ I h) fun us s1 ⟨vs, H1, I1, r1, q1⟩ => ?_) st2 pl2
  obtain ⟨a, b, xs, ys, ex, sq, q⟩ := q1
  subst ex
  cases r1 with
  | cons r rr =>
    cases rr with
    | cons r' rr =>
      cases rr
      cases r
      cases r'
      have clear := I1.ok.hd calm
      have fin : ∀ {is js : List Value} {St1 St2 : Nat → Heap → Prop} {h' : Heap}, Vals xs is → Vals ys js → xs.length ≤ sizeLine → ys.length ≤ sizeLine → a < s1.heap.objs.size → b < s1.heap.objs.size →
          Draws X.prog X.w X.A.in1.in1.in1 s1.heap.objs.size [s1.heap.objs.size, a] is.toArray.size (fun i v => is.toArray[i]? = some v) St1 → Draws X.prog X.w X.A.in1.in1.in1 (s1.heap.objs.size + 1) [s1.heap.objs.size + 1, b] js.toArray.size (fun i v => js.toArray[i]? = some v) St2 →
          IsZip h' (s1.heap.objs.size + 4) (s1.heap.objs.size + 2) (s1.heap.objs.size + 3) .none → IsPair h' (s1.heap.objs.size + 2) (.ref s1.heap.objs.size) (.ref (s1.heap.objs.size + 1)) → IsPair h' (s1.heap.objs.size + 3) .none .none → St1 0 h' → St2 0 h' → h'.objs.size = s1.heap.objs.size + 5 →
          (∀ c o, s1.heap.get? c = some o → h'.get? c = some o) → wpAny (model X.prog X.w) X.A (spliced (backTo pos (starEach [] X.env))) (fun vs s₁ => wpAny (model X.prog X.w) X.A (call (.type "list") (.ref (s1.heap.objs.size + 4) :: vs)) (EP X pins σ Q) X.xe s₁) X.xe { s1 with heap := h' } := by
        intro is js St1 St2 h' rx ry zx zy la lb D1 D2 hz hTI hTO t1 t2 size keep
        refine Calls.spliced_nil ?_
        have S := zip_sep2 (N := s1.heap.objs.size) (fp1 := [a]) (fp2 := [b]) (fun c m => by rw [List.mem_singleton.mp m]; exact la) (fun c m => by rw [List.mem_singleton.mp m]; exact lb)
        have lx := rx.length
        have W : ZLow (s1.heap.objs.size + 4) (s1.heap.objs.size + 2) (s1.heap.objs.size + 3) h'.objs.size [s1.heap.objs.size, a] [s1.heap.objs.size + 1, b] := by
          rw [size]
          refine ⟨show (s1.heap.objs.size + 4 : Nat) < s1.heap.objs.size + 5 by omega, show (s1.heap.objs.size + 2 : Nat) < s1.heap.objs.size + 5 by omega, show (s1.heap.objs.size + 3 : Nat) < s1.heap.objs.size + 5 by omega, fun c m => ?_, fun c m => ?_⟩
          · rcases List.mem_cons.mp m with e | m
            · rw [e]; exact show (s1.heap.objs.size : Nat) < s1.heap.objs.size + 5 by omega
            · rw [List.mem_singleton.mp m]; exact Nat.lt_of_lt_of_le la (Nat.le_add_right _ _)
          · rcases List.mem_cons.mp m with e | m
            · rw [e]; exact show (s1.heap.objs.size + 1 : Nat) < s1.heap.objs.size + 5 by omega
            · rw [List.mem_singleton.mp m]; exact Nat.lt_of_lt_of_le lb (Nat.le_add_right _ _)
        refine zl_call (s := { s1 with heap := h' }) S D1 D2 W (Nat.le_trans (Nat.min_le_left _ _) (by simp only [List.size_toArray]; omega)) ⟨hTI, t1, t2, .inl ⟨hz, _, _, hTO⟩⟩ fun h2 tk acc c as hk hL len G full => ?_
        have keep2 : ∀ b o, s1.heap.get? b = some o → h2.get? b = some o := fun d o x => by
          have l := Heap.lt_size x
          exact hk d o (Nat.ne_of_lt (Nat.lt_of_lt_of_le l (Nat.le_add_right _ _))) (Nat.ne_of_lt (Nat.lt_of_lt_of_le l (Nat.le_add_right _ _))) (Nat.ne_of_lt l) (Nat.ne_of_lt (Nat.lt_of_lt_of_le l (Nat.le_add_right _ _))) (keep d o x)
        obtain ⟨H', k1, k2, k3, k4, k5, J⟩ := zip_laid (tk := tk) I1 rx ry zx (by show s1.heap.objs.size ≤ h'.objs.size; rw [size]; exact Nat.le_add_right _ _) keep2 hL len G full
        exact ⟨.ref _, H', J, rfl, q _ as H' k1 k2 k3 k4 k5⟩
      rcases sq with ⟨hx, hy⟩ | ⟨hx, hy⟩
      · obtain ⟨is, rx, p1, zx⟩ := I1.list hx
        obtain ⟨js, ry, p2, zy⟩ := I1.list hy
        have d1 : Draws X.prog X.w X.A.in1.in1.in1 s1.heap.objs.size [s1.heap.objs.size, a] is.toArray.size (fun i v => is.toArray[i]? = some v) (fun j h => h.IsListIter s1.heap.objs.size a j ∧ h.IsList a is.toArray) := Draws.list (A := X.A.in1.in1.in1) clear _ a (Nat.ne_of_lt p1.lt) _
        have d2 : Draws X.prog X.w X.A.in1.in1.in1 (s1.heap.objs.size + 1) [s1.heap.objs.size + 1, b] js.toArray.size (fun i v => js.toArray[i]? = some v) (fun j h => h.IsListIter (s1.heap.objs.size + 1) b j ∧ h.IsList b js.toArray) := Draws.list (A := X.A.in1.in1.in1) clear _ b (Nat.ne_of_lt (Nat.lt_succ_of_lt p2.lt)) _
        refine call_zip_2 p1.isList p2.isList fun h' hz hTI hTO h1 h2 size keep => fin rx ry zx zy p1.lt p2.lt d1 d2 hz hTI hTO ⟨h1, p1.isList.at fun o e => keep _ o e⟩ ⟨h2, p2.isList.at fun o e => keep _ o e⟩ size keep
      · obtain ⟨is, rx, p1, zx⟩ := I1.tuple hx
        obtain ⟨js, ry, p2, zy⟩ := I1.tuple hy
        have la : a < s1.heap.objs.size := by obtain ⟨o1, ho1, _⟩ := id p1; exact Heap.lt_size ho1
        have lb : b < s1.heap.objs.size := by obtain ⟨o1, ho1, _⟩ := id p2; exact Heap.lt_size ho1
        have g1 : s1.heap.IsTuple a is.toArray := p1
        have g2 : s1.heap.IsTuple b js.toArray := p2
        have d1 : Draws X.prog X.w X.A.in1.in1.in1 s1.heap.objs.size [s1.heap.objs.size, a] is.toArray.size (fun i v => is.toArray[i]? = some v) (fun j h => h.IsTupleIter s1.heap.objs.size a j ∧ h.IsTuple a is.toArray) := draws_tup (A := X.A.in1.in1.in1) clear _ a (Nat.ne_of_lt la) _
        have d2 : Draws X.prog X.w X.A.in1.in1.in1 (s1.heap.objs.size + 1) [s1.heap.objs.size + 1, b] js.toArray.size (fun i v => js.toArray[i]? = some v) (fun j h => h.IsTupleIter (s1.heap.objs.size + 1) b j ∧ h.IsTuple b js.toArray) := draws_tup (A := X.A.in1.in1.in1) clear _ b (Nat.ne_of_lt (Nat.lt_succ_of_lt lb)) _
        refine RZ.call_zipT g1 g2 fun h' hz hTI hTO h1 h2 size keep => fin rx ry zx zy la lb d1 d2 hz hTI hTO ⟨h1, tup_at g1 fun o e => keep _ o e⟩ ⟨h2, tup_at g2 fun o e => keep _ o e⟩ size keep
/-! ### for .. in (x if c else y) -/
def iIf (tA : TT) (wa wb : TI) : TI := fun σ H R => tA σ H fun d H1 => if d = true then wa σ H1 R else wb σ H1 R
theorem pi_ifExp {c a b tg : Expr} {pos : Pos} {tA : TT} {wa wb : TI} (hc : PT X c tA) (ha : PI X tg a wa) (hb : PI X tg b wb) : PI X tg (.IfExp c a b pos) (iIf tA wa wb) := by
  refine ⟨fun pins s σ H R I h => ?_⟩
  refine wpAny_IfExp (thn (hc.run pins s σ H _ I h) fun d s1 ⟨H1, I1, q1⟩ => ?_)
  cases d with
  | true => exact ha.run pins s1 σ H1 R I1 q1
  | false => exact hb.run pins s1 σ H1 R I1 q1
/-! ### x not in a tuple of data -/
def rNotInDT (K : PySem.W.Frag) : R2 := fun x y Hh Qq => ∃ dx dxs, Dp K Hh x dx ∧ Dp K Hh y (.tuple dxs) ∧ SeqAt.shaped dx = true ∧ SeqAt.shaped (.tuple dxs) = true ∧ Qq (.bl (!dxs.any fun z => PyData.eqv z dx)) Hh
theorem op_notInDT (hu : X.A.units + 65 < cLine) : OpR X (compareOp .NotIn) (rNotInDT X.K) := by
  intro pns s σs Hh x y v u Qq Iv rlx rly h
  obtain ⟨dx, dxs, hdx, hdy, sx, sy, qq⟩ := h
  obtain ⟨as, rd1⟩ := Dp.reads Iv dx x v hdx rlx
  obtain ⟨bs, rd2⟩ := Dp.reads Iv (.tuple dxs) y u hdy rly
  exact SeqAt.notIn_tuple_reads rd2 rd1 (SeqAt.canLay_of_shaped sy) (SeqAt.canLay_of_shaped sx) (room_in_shaped sx hu) ⟨.bl _, Hh, Iv, rfl, qq⟩
end
end Rg
namespace Rg
open PySem PySem.Spec PyProof.Rows L2
/-! ### set(xs) of a list of ints; sorted and len of a set of ints, any number of them -/
/-- an empty set, as the call makes it -/
abbrev mtSet (w : World) : Obj := { cls := .type "set", dict := none, data := .set #[] 0 (.fresh 0 0 (!w.params.followText "set-order")) }
section
variable {P : Program} {w : World} {B : Around} {E : Value → Shared → Prop} {z : Shared}
/-- an empty set is filled from a list of ints -/
theorem fill_set {a l : Addr} {arr : Array Value} (zs : List Int) {R : PySem.Fin → Shared → Prop} (calm : B.handled = none) (ga : z.heap.get? a = some (mtSet w)) (gl : z.heap.IsList l arr) (al : a ≠ l) (iz : IntsAre arr.toList zs) (few : zs.length + 1 < scanBound)
    (fin : ∀ (g : Heap) (tk m : Nat), SetR w g a (fun j => decide (j ∈ zs)) m → m ≤ zs.length → (∀ b u, b ≠ a → z.heap.get? b = some u → g.get? b = some u) → R (.done (.ret .none)) { z with heap := g, toks := tk }) :
    wpAny (model P w) B (Builtin.«set.__init__» ⟨[.ref a, .ref l], []⟩) R E z := by
  have same : arr.size = zs.length := by have q := iz.length; rwa [Array.length_toList] at q
  have la := Heap.lt_size ga
  have kept : ∀ {b : Addr} {u v : Obj}, z.heap.get? b = some u → (z.heap.push v).get? b = some u := fun q => Heap.get?_push_of_some _ q
  obtain ⟨⟨oc, od, ob, os⟩, gob, ec, nl, eb⟩ := id gl
  cases ec
  cases eb
  have ll := Heap.lt_size gob
  have y1 := PySem.F.sub_list_set
  have y2 := PySem.F.sub_list_frozenset
  have y3 : (Value.type "list" == Value.type "dict") = false := by decide
  have y4 := sub_set_self
  have ty : z.TypeIs (.ref a) "set" := ⟨_, ga, rfl⟩
  unfold Builtin.«set.__init__»
  unfold noKeywords
  unfold Builtin.Frozenset.updateFrom
  generalize hold : pyIter = it
  wp_walk
  subst hold
  refine wpAny_pyIter_list gl (wpAny_bind (wpAny_runValue ?_))
  have W := (Walks.list (prog := P) (w := w) (A := B.in1) (by simp [calm]) z.heap.objs.size l (Nat.ne_of_lt ll) arr).toS
  refine set_update_ints W a (by simp only [List.mem_cons, List.not_mem_nil, or_false, not_or]; exact ⟨Nat.ne_of_lt la, al⟩) zs same few (fun i v hv => ?_) (arr.size - 0) 0 _ (by omega) (Nat.zero_le _) ?_ ⟨0, Nat.le_refl 0, ?_⟩ fun t m mv ml R1 => ?_
  · have lt : i < zs.length := same ▸ (Array.getElem?_eq_some_iff.mp hv).1
    obtain ⟨t, q⟩ := PyProof.Rows.IntsAre.int_at iz i v (by rw [Array.getElem?_toList]; exact hv)
    exact ⟨zs[i], t, List.getElem?_eq_getElem lt, by rw [q, List.getD_eq_getElem?_getD, List.getElem?_eq_getElem lt] <;> rfl⟩
  · exact ⟨⟨_, Heap.get?_push_size _ rfl, rfl, rfl⟩, gl.push _⟩
  · exact setR_new_at (Heap.get?_push_of_some _ ga)
  · have g1 : t.gens = z.gens := mv.gens
    have g2 : t.drawn = z.drawn := mv.drawn
    have g3 : t.os = z.os := mv.os
    have same3 : t = { z with heap := t.heap, toks := t.toks } := by
      obtain ⟨t1, t2, t3, t4, t5⟩ := t
      simp only at g1 g2 g3
      subst g1 g2 g3
      rfl
    rw [same3]
    exact wpAny_pure (wpAny_pure (fin _ _ m R1 (same ▸ ml) fun b u ba gb => mv.heap b u (by simp only [List.mem_cons, List.not_mem_nil, or_false, not_or]; exact ⟨ba, Nat.ne_of_lt (Heap.lt_size gb)⟩) (kept gb)))
theorem set_of_list {A : Around} {l : Addr} {arr : Array Value} (zs : List Int) {Q : Value → Shared → Prop} (calm : A.handled = none) (gl : z.heap.IsList l arr) (iz : IntsAre arr.toList zs) (few : zs.length + 1 < scanBound)
    (fin : ∀ (g : Heap) (tk m : Nat), SetR w g z.heap.objs.size (fun j => decide (j ∈ zs)) m → m ≤ zs.length → (∀ b u, z.heap.get? b = some u → g.get? b = some u) → Q (.ref z.heap.objs.size) { z with heap := g, toks := tk }) : wpAny (model P w) A (call (.type "set") [.ref l]) Q E z := by
  have CS := PySem.F.called_set
  obtain ⟨k0, ks, ms⟩ := CS.mro
  have m1 := CS.made
  have m2 := CS.sub
  have m3 := CS.notType
  have m4 := CS.canCreate
  have m5 := PySem.F.typeCall_set_1 (.ref l)
  have m6 := CS.init.lookup
  have m7 := CS.init.bind (.ref z.heap.objs.size)
  have ll : l < z.heap.objs.size := by
    obtain ⟨o, go, _⟩ := gl
    exact Heap.lt_size go
  have new : (z.heap.push (mtSet w)).get? z.heap.objs.size = some (mtSet w) := Heap.get?_push_size _ rfl
  refine wpAny_call (codeAny_of_tree (show wpAny _ _ (callAny (.type "set") _) _ _ _ from wpAny_pure ⟨Code.quiet_builtin _ (by decide +kernel), codeAny_builtin PySem.F.entry_type_call ?_⟩))
  rw [Around.under_plain (weight_type_call_type "set" [.ref l] []) rfl]
  (repeat any_goals first | assumption | wp_step)
  refine codeAny_mono (code_set_led1 (.ref l) (E := E) (Q₁ := fun y t => y = .ref z.heap.objs.size ∧ t = { z with heap := z.heap.push (mtSet w) }) ⟨rfl, rfl⟩) fun r t hr => ?_
  rcases r with e | f
  · exact hr
  rcases f with _ | _ | _ | y
  all_goals first | (exact hr.elim; done) | skip
  obtain ⟨rfl, rfl⟩ := hr
  (repeat any_goals first | assumption | wp_step)
  refine codeAny_mono (codeAny_call_builtin (R := wants (fun y t => y = .none ∧ ∃ g tk m, t = { z with heap := g, toks := tk } ∧ SetR w g z.heap.objs.size (fun j => decide (j ∈ zs)) m ∧ m ≤ zs.length ∧ ∀ b u, z.heap.get? b = some u → g.get? b = some u) E) CS.init.plain PySem.F.entry_set_init (check_set_init_1 ⟨_, new, rfl⟩ ?_)) fun r t hr => ?_
  · exact fill_set (z := { z with heap := z.heap.push (mtSet w) }) zs (by simp [calm]) new (gl.push _) (Nat.ne_of_gt ll) iz few fun g tk m R1 ml k => ⟨rfl, g, tk, m, rfl, R1, ml, fun b u gb => k b u (Nat.ne_of_lt (Heap.lt_size gb)) (Heap.get?_push_of_some _ gb)⟩
  rcases r with e | f
  · exact hr
  rcases f with _ | _ | _ | y
  all_goals first | (exact hr.elim; done) | skip
  obtain ⟨rfl, g, tk, m, rfl, R1, ml, k⟩ := hr
  (repeat any_goals first | assumption | wp_step)
  exact fin g tk m R1 ml k
end

section
variable {P : Program} {w : World} {B : Around} {E : Value → Shared → Prop} {z : Shared}
theorem sort_ofSet {a : Addr} {S : Int → Bool} {n : Nat} {Q : Value → Shared → Prop} (R : SetR w z.heap a S n) (calm : B.handled = none) (few : n ≤ 4000)
    (fin : ∀ t p (out : List Value) (c : Nat) (zs : List Int), (∀ b u, z.heap.get? b = some u → t.heap.get? b = some u) → t.gens = z.gens → t.os = z.os → z.heap.objs.size ≤ p → t.heap.get? p = some (seqObj "list" out.toArray c) →
      IntsAre out zs → zs.Pairwise (· < ·) → (∀ k, k ∈ zs ↔ S k = true) → zs.length = n → Q (.ref p) t) : wpAny (model P w) B (call (.builtin "sorted") [.ref a]) Q E z := by
  rcases R with ⟨ob, es, ep, tb, gob, ex, eb, good, once, mem, small, fits, size, ris, led⟩
  refine Calls.call_function_entry kind_sorted plain_sorted entry_sorted (args_sorted1 (.ref a)) ?_
  unfold Builtin.«sorted»
  refine wpAny_bind (m := checkCount "sorted" 1 1 _) (wpAny_pure (wpAny_bind (collect_set (A := B.in1) calm ⟨ob, gob, ex.1, eb⟩ fits small ris led fun t us keep le tg to perm => ?_)))
  have un : us.length = n := by rw [perm.length_eq, List.length_map, Array.length_toList, size]
  have uz : us.length ≤ sizeLine := un ▸ Nat.le_trans few (by decide)
  have nums : IntsAre us (us.map SrtO.iv) := SrtO.ints_iv fun v hv => by
    obtain ⟨q, hq, rfl⟩ := List.mem_map.mp (perm.mem_iff.mp hv)
    obtain ⟨x, tk, ev, _⟩ := good q hq
    exact ⟨x, tk, ev⟩
  have keys : (us.map SrtO.iv).Perm (es.toList.map keyOf) := by
    refine (perm.map SrtO.iv).trans (List.Perm.of_eq ?_)
    rw [List.map_map]
    exact List.map_congr_left fun q _ => by
      obtain ⟨_, v⟩ := q
      cases v <;> rfl
  have new : (t.heap.push (seqObj "list" us.toArray 0)).get? t.heap.objs.size = some (seqObj "list" us.toArray 0) := Heap.get?_push_size _ rfl
  refine wpAny_bind (wpAny_newList (wpAny_bind (wpAny_holding (wpAny_call_entry slot_list_sort ⟨_, new, rfl⟩ entry_list_sort (SrtO.list_sort_ord SrtO.swo_int new uz (fun two => SrtO.ints_sortable nums two) fun out od st => ⟨_, rfl, ?_⟩) (args_list_sort _)))) uz)
  obtain ⟨i1, i2, i3⟩ := SrtO.ints_out nums od st
  obtain ⟨c, gc⟩ := PyProof.Rows.sortedHeap_at (vs := us) (out := out.toArray) new
  have all := i2.trans keys
  refine wpAny_pure ⟨_, rfl, fin _ t.heap.objs.size out c (out.map SrtO.iv) (fun b u gb => ?_) tg to le gc i1 (lt_of_le_nodup _ i3 (all.nodup_iff.mpr once)) (fun k => by rw [all.mem_iff]; exact (mem k).symm) (by rw [all.length_eq, List.length_map, Array.length_toList, size])⟩
  have old := Heap.lt_size (keep b u gb)
  exact (PyProof.Rows.sortedHeap_old (Nat.ne_of_lt old) (by rw [size_push']; exact Nat.lt_succ_of_lt old)).trans (Heap.get?_push_of_some _ (keep b u gb))
end
/-- set(xs), xs a list of ints -/
def rSetL (w : World) (K : PySem.W.Frag) : List V → Hp → VK → Prop := fun xs Hh Qq => ∃ (a : Addr) (zs : List Int), xs = [V.ref a] ∧ SqL K Hh a (zs.map V.int) ∧ zs.length ≤ 4000 ∧
  ∀ (p : Addr) (ks : List Int), ks.Nodup → (∀ k, k ∈ ks ↔ k ∈ zs) → ks.length ≤ zs.length → Hh p = none → Qq (.ref p) (upd Hh p (SetO w p (fun j => decide (j ∈ zs)) ks.length))
/-- sorted(found) of a set of ints -/
def rSortedSetN (w : World) : List V → Hp → VK → Prop := fun xs Hh Qq => ∃ (a : Addr) (S : Int → Bool) (n : Nat), xs = [V.ref a] ∧ Hh a = some (SetO w a S n) ∧ n ≤ 4000 ∧
  ∀ (zs : List Int) (p : Addr), zs.Pairwise (· < ·) → (∀ k : Int, k ∈ zs ↔ S k = true) → zs.length = n → Hh p = none → Qq (.ref p) (upd Hh p (.lst (zs.map V.int)))
/-- len(found) of a set of ints -/
def rLenSetO (w : World) : List V → Hp → VK → Prop := fun xs Hh Qq => ∃ (a : Addr) (S : Int → Bool) (n : Nat), xs = [V.ref a] ∧ Hh a = some (SetO w a S n) ∧ n ≤ 4000 ∧ Qq (.int n) Hh
section
variable {X : Cx}
theorem cr_setL (calm : X.calm = true) : CallR X (.type "set") (rSetL X.w X.K) := by
  rintro pns t σs Hh xs us Qq Iv rr ⟨a, zs, rfl, seq, few, q⟩
  obtain ⟨its, vals, lst, _⟩ := Iv.list seq
  rw [Vals.ref1 rr]
  refine set_of_list zs (Iv.ok.hd calm) lst.isList (by simpa using vals.ints) (by unfold scanBound; omega) fun g tk m R1 ml keep => ?_
  have free := Iv.hok.fresh (Nat.le_refl t.heap.objs.size)
  obtain ⟨ob, es, ep, tb, gob, ex, eb, good, once, mem, small, fits, size, ris, led⟩ := id R1
  have lk : (es.toList.map keyOf).length = m := by rw [List.length_map, Array.length_toList, size]
  have done := q t.heap.objs.size (es.toList.map keyOf) once (fun j => (mem j).symm.trans decide_eq_true_iff) (by rw [lk]; exact ml) free
  rw [lk] at done
  exact ⟨.ref _, _, Iv.laid (t' := tk) (fun b u gb => keep b u gb) (Nat.le_refl _) (setO_new R1), rfl, done⟩
theorem cr_sortedSetN (calm : X.calm = true) : CallR X (.builtin "sorted") (rSortedSetN X.w) := by
  rintro pns t σs Hh xs us Qq Iv rr ⟨a, S, n, rfl, ha, few, q⟩
  rw [Vals.ref1 rr]
  refine sort_ofSet (setO_get Iv ha) (Iv.ok.hd calm) few fun t2 p out c zs keep tg to le gp nums asc mem size => ?_
  have free : Hh p = none := Iv.hok.fresh le
  have fit : (zs.map V.int).length ≤ sizeLine := by rw [List.length_map, size]; exact Nat.le_trans few (by decide)
  have I2 : L2.Inv X pns σs (upd Hh p (.lst (zs.map V.int))) { t with heap := t2.heap, gens := t2.gens, drawn := t2.drawn, toks := t2.toks } := Iv.call (ch := []) (Un.laid keep le free) (Iv.hok.laid keep le ⟨fit, out, c, vals_of_ints nums, gp⟩) (by rw [tg]; exact Iv.bare) (fun _ x => nomatch x)
  obtain ⟨t21, t22, t23, t24, t25⟩ := t2
  cases to
  exact ⟨.ref p, _, I2, rfl, q zs p asc mem size free⟩
theorem cr_lenSetO : CallR X (.builtin "len") (rLenSetO X.w) := by
  rintro pns t σs Hh xs us Qq Iv rr ⟨a, S, n, rfl, ha, few, q⟩
  rw [Vals.ref1 rr]
  obtain ⟨ob, es, ep, tb, gob, ex, eb, good, once, mem, small, fits, size, ris, led⟩ := setO_get Iv ha
  exact call_len_set gob ex eb fits (by rw [size]; omega) ⟨.int n, Hh, Iv.tok _, ⟨_, by rw [size]⟩, q⟩
end
end Rg
namespace K
open PySem L2 Rg
open Evl (pss_cut)
def top (i : Nat) : Stmt := PySem.Challenge.pw_ringbars_k57_walls_all_told.main.body.getD i (.Pass ⟨0, 0, 0, 0⟩)
abbrev sWall : Stmt := top 0
abbrev sFixed : Stmt := top 2
abbrev sIsInteger : Stmt := top 4
abbrev sIsWithin : Stmt := top 5
abbrev sIsList : Stmt := top 6
abbrev sIsNumbers : Stmt := top 7
abbrev sFirstTwice : Stmt := top 8
abbrev sTwiceAt : Stmt := top 9
abbrev sBadRingInit : Stmt := inClass (top 12) 0
abbrev sBadLotInit : Stmt := inClass (top 13) 0
abbrev sBadNumberInit : Stmt := inClass (top 14) 0
abbrev sMissingInit : Stmt := inClass (top 15) 0
abbrev sTwiceInit : Stmt := inClass (top 17) 0
abbrev sTooManyInit : Stmt := inClass (top 18) 0
abbrev sBadTextInit : Stmt := inClass (top 19) 0
abbrev sExcessOf : Stmt := top 21
abbrev sSortBy : Stmt := top 22
abbrev sWantNumber : Stmt := top 24
abbrev sWantBar : Stmt := top 25
abbrev sWantLot : Stmt := top 26
abbrev sItemsOf : Stmt := top 29
abbrev sIntegerOf : Stmt := top 30
abbrev sItemAt : Stmt := top 31
abbrev sNumberAt : Stmt := top 32
abbrev sRingInit : Stmt := inClass (top 37) 0
abbrev sRingLen : Stmt := inClass (top 37) 1
abbrev sRingEq : Stmt := inClass (top 37) 2
abbrev sRingStr : Stmt := inClass (top 37) 3
abbrev sRingLengthOf : Stmt := inClass (top 37) 4
abbrev sRingSortOf : Stmt := inClass (top 37) 5
abbrev sRingWithLength : Stmt := inClass (top 37) 6
abbrev sRingBegunAt : Stmt := inClass (top 37) 7
abbrev sRingBackwards : Stmt := inClass (top 37) 8
abbrev sRingInOrder : Stmt := inClass (top 37) 9
abbrev sRingAsOne : Stmt := inClass (top 37) 10
abbrev sRingInTwo : Stmt := inClass (top 37) 11
abbrev sRingRead : Stmt := inClass (top 37) 12
abbrev sAreLengths : Stmt := top 38
abbrev sHasLevel : Stmt := top 39
abbrev sReadRing : Stmt := top 40
abbrev sWantRing : Stmt := top 41
abbrev sLotsOf : Stmt := top 43
abbrev sLevelLots : Stmt := top 44
abbrev sInOrder : Stmt := top 45
abbrev sLotsBySort : Stmt := top 46
abbrev sWalls : Stmt := top 50
abbrev sWallLots : Stmt := top 51
abbrev sWallsOf : Stmt := top 52
abbrev sWantTold : Stmt := top 53
abbrev sWantLast : Stmt := top 54
abbrev sLwReel : Stmt := top 56
abbrev sLwWind : Stmt := top 57
abbrev sLwPick : Stmt := top 58
abbrev sLwLots : Stmt := top 59
abbrev sLwGap : Stmt := top 60
abbrev sLwOthers : Stmt := top 61
abbrev sLwLengths : Stmt := top 62
abbrev sLwHeard : Stmt := top 63
abbrev sLwSums : Stmt := top 64
abbrev sLwOrder : Stmt := top 65
abbrev sLwLotsRight : Stmt := top 66
abbrev sLwRefusedRight : Stmt := top 67
abbrev sLaw : Stmt := top 68

/-- all but what stands at p is as it was -/
def But (p : Addr) (H H' : Hp) : Prop := ∀ b o, b ≠ p → H b = some o → H' b = some o
theorem But.refl (p : Addr) (H : Hp) : But p H H := fun _ _ _ h => h
theorem But.trans {p : Addr} {H H1 H2 : Hp} (a : But p H H1) (b : But p H1 H2) : But p H H2 := fun c o n h => b c o n (a c o n h)
theorem But.new {p q : Addr} {H H' : Hp} {o : HO} (a : But p H H') (n : H' q = none) : But p H (upd H' q o) := fun c u hc h => by
  have e := a c u hc h
  rw [upd_ne (ne_of_none e n)]
  exact e
theorem But.at {p : Addr} {H H' : Hp} {o : HO} (a : But p H H') : But p H (upd H' p o) := fun c u hc h => by
  rw [upd_ne hc]
  exact a c u hc h
theorem But.seq {K : PySem.W.Frag} {p a : Addr} {H H' : Hp} {xs : List V} (e : But p H H') (n : a ≠ p) (h : SqL K H a xs) : SqL K H' a xs := by
  rcases h with (h | ⟨o, h⟩) | h
  · exact .inl (.inl (e _ _ n h))
  · exact .inl (.inr ⟨o, e _ _ n h⟩)
  · exact .inr h
/-- the pen: its cells, how many were begun (at most n), what a great one has left -/
structure PenAt (K : PySem.W.Frag) (H : Hp) (p : Addr) (e : Addr × List Int) (n : Nat) : Prop where
  ex : ∃ (at' rest : Int), H p = some (.lst [.ref e.1, .int at', .int rest]) ∧ 0 ≤ at' ∧ at' ≤ n ∧ 0 ≤ rest
  sq : SqL K H e.1 (e.2.map V.int)
  np : e.1 ≠ p
  ln : e.2.length ≤ 62
theorem But.of {p : Addr} {H H' : Hp} (e : Same H H') : But p H H' := fun b o _ h => e b o h
theorem But.mut {p q : Addr} {H H' : Hp} {o : HO} (a : But p H H') (n : H q = none) : But p H (upd H' q o) := fun c u hc h => by
  have e := a c u hc h
  rw [upd_ne (ne_of_none h n)]
  exact e
theorem But.free {p q : Addr} {H H' : Hp} (a : But p H H') (hq : q ≠ p) (n : H' q = none) : H q = none := by
  cases e : H q with
  | none => rfl
  | some o =>
    rw [a q o hq e] at n
    cases n
theorem But.tup {K : PySem.W.Frag} {p a : Addr} {H H' : Hp} {xs : List V} (e : But p H H') (n : a ≠ p) (h : SqT K H a xs) : SqT K H' a xs := by
  rcases h with (h | ⟨o, h⟩) | h
  · exact .inl (.inl (e _ _ n h))
  · exact .inl (.inr ⟨o, e _ _ n h⟩)
  · exact .inr h
theorem _root_.L2.Same.new {q : Addr} {H H' : Hp} {o : HO} (a : Same H H') (n : H' q = none) : Same H (upd H' q o) := fun c u h => by
  have e := a c u h
  rw [upd_ne (ne_of_none e n)]
  exact e
theorem _root_.L2.Same.mut {q : Addr} {H H' : Hp} {o : HO} (a : Same H H') (n : H q = none) : Same H (upd H' q o) := fun c u h => by
  have e := a c u h
  rw [upd_ne (ne_of_none h n)]
  exact e
theorem _root_.L2.Same.tup {K : PySem.W.Frag} {a : Addr} {H H' : Hp} {xs : List V} (e : Same H H') (h : SqT K H a xs) : SqT K H' a xs := by
  rcases h with (h | ⟨o, h⟩) | h
  · exact .inl (.inl (e _ _ h))
  · exact .inl (.inr ⟨o, e _ _ h⟩)
  · exact .inr h
section
variable {K : PySem.W.Frag} {H H' : Hp} {p q : Addr} {e : Addr × List Int} {n m : Nat} {o : HO}
theorem PenAt.mono (h : PenAt K H p e n) (le : n ≤ m) : PenAt K H p e m := by
  obtain ⟨a, r, h1, h5, h6, h7⟩ := h.ex
  exact ⟨⟨a, r, h1, h5, by omega, h7⟩, h.sq, h.np, h.ln⟩
/-- the pen stands while all that is tracked stands -/
theorem PenAt.same (h : PenAt K H p e n) (s : Same H H') : PenAt K H' p e n := by
  obtain ⟨a, r, h1, h5, h6, h7⟩ := h.ex
  exact ⟨⟨a, r, s _ _ h1, h5, h6, h7⟩, s.seq h.sq, h.np, h.ln⟩
theorem PenAt.some (h : PenAt K H p e n) : ∃ xs, H p = some (.lst xs) := by
  obtain ⟨a, r, h1, _⟩ := h.ex
  exact ⟨_, h1⟩
theorem PenAt.ne (h : PenAt K H p e n) (z : H q = none) : q ≠ p := by
  obtain ⟨xs, h1⟩ := h.some
  exact (ne_of_none h1 z).symm
/-- the pen stands while a new thing is laid -/
theorem PenAt.put (h : PenAt K H p e n) (z : H q = none) : PenAt K (upd H q o) p e n := h.same (Same.new (Same.refl H) z)
/-- .. while a thing is written that was not there ahead -/
theorem PenAt.mut (h : PenAt K H p e m) (h2 : PenAt K H' p e n) (b : But p H H') (z : H q = none) : PenAt K (upd H' q o) p e n := by
  obtain ⟨a, r, h1, h5, h6, h7⟩ := h2.ex
  exact ⟨⟨a, r, by rw [upd_ne (h.ne z).symm]; exact h1, h5, h6, h7⟩, (b.mut z).seq h.np h.sq, h.np, h.ln⟩
end
/-- the built-ins that the text names -/
structure Bi (mg : Str → Option Value) : Prop where
  int : mg "int" = none
  len : mg "len" = none
  abs : mg "abs" = none
  list : mg "list" = none
  tuple : mg "tuple" = none
  bool : mg "bool" = none
  range : mg "range" = none
  sum : mg "sum" = none
  max : mg "max" = none
  all : mg "all" = none
  any : mg "any" = none
  sorted : mg "sorted" = none
  enumerate : mg "enumerate" = none
  isinstance : mg "isinstance" = none
section
variable {K : PySem.W.Frag}
theorem eqv_nil (l : List Int) : PyData.eqv (.list (l.map PyData.int)) (.list []) = l.isEmpty := by
  cases l <;> simp [PyData.eqv, PyData.eqvAll] <;> rfl
theorem dp_ints {H : Hp} : ∀ l : List Int, DpAll K H (l.map V.int) (l.map PyData.int)
  | [] => .nil
  | i :: l => .cons (.int i) (dp_ints l)
theorem lay_ints : ∀ l : List Int, PyData.canLayAll0 (l.map PyData.int) = true
  | [] => by simp [PyData.canLayAll0]
  | i :: l => by simp [PyData.canLayAll0, PyData.canLay0, lay_ints l]
theorem deep_ints : ∀ l : List Int, PyData.depthAll (l.map PyData.int) = 0
  | [] => by simp [PyData.depthAll]
  | i :: l => by simp [PyData.depthAll, PyData.depth, deep_ints l]
theorem shaped_ints (l : List Int) : SeqAt.shaped (.list (l.map PyData.int)) = true := by
  simp [SeqAt.shaped, PyData.canLay0, PyData.depth, lay_ints l, deep_ints l]
end
end K
namespace K
open PySem L2 Rg
open Evl (pss_cut)
def spDraw (K : PySem.W.Frag) : Sp := fun vs H Q _ => ∃ (p : Addr) (e : Addr × List Int) (many : Int) (n : Nat), vs = [.ref p, .int many] ∧ 1 ≤ many ∧ many ≤ 1000000 ∧ n < 1000000 ∧ PenAt K H p e n ∧
  ∀ (r : Int) (H' : Hp), 0 ≤ r → r < many → But p H H' → PenAt K H' p e (n + 1) → Q (.int r) H'
section
variable {P : Program} {w : World} {K : PySem.W.Frag} {mg : Str → Option Value} {base : Heap}
abbrev nDraw : List Str := ["_law_reel_here", "_law_many", "_law_left", "_law_at", "_law_cell", "_law_mixed"]
theorem scDraw : FnScope nDraw ["_law_reel_here", "_law_many"] (defScope sLwWind) := ⟨rfl, rfl, rfl, by decide +kernel, rfl, by decide +kernel, by decide +kernel⟩
theorem ok_draw {f : Addr} {fd : FuncData} (F : Fun K "_law_wind" "_law_wind" sLwWind f fd) (T : Bi mg) : FnOk P w K mg base CX0 2 f fd ["_law_reel_here", "_law_many"] (spDraw K) := by
  refine F.ok scDraw (fun vs H Q E h => ?_) (fun cdv A outer s H vs Q E hr h => ?_)
  · obtain ⟨p, e, many, n, rfl, _⟩ := h
    rfl
  · have nd := scDraw.nd
    refine ⟨_, pss_cons (ps_if (pt_cmpR op_gt (pe_ix ix_list (pv 0) pe_int (fun _ _ => rfl)) pe_int (nomark _))
        (pss_cons (ps_set (i := 2) nd rfl (Or.inl rfl) (pe_callTy call_int1 (by rfl) T.int (by decide +kernel) (pa_cons (pe_ix ix_list (pv 0) pe_int (fun _ _ => rfl)) pa_nil)))
        (pss_cons (ps_asg (pe_op op_fdiv (pv 2) (pv 1)) (pg_sub (pv 0) pe_int set_list))
        (pss_one (ps_ret (pe_op op_mod (pe_callTy call_int1 (by rfl) T.int (by decide +kernel) (pa_cons (pv 2) pa_nil)) (pv 1)))))) pss_nil)
      (pss_cons (ps_set (i := 3) nd rfl (Or.inl rfl) (pe_ix ix_list (pv 0) pe_int (fun _ _ => rfl)))
      (pss_cons (ps_asg (pe_op op_add (pv 3) pe_int) (pg_sub (pv 0) pe_int set_list))
      (pss_cons (ps_set (i := 4) nd rfl (Or.inl rfl) (pe_op op_add (pe_op op_mul pe_int (pv 3)) pe_int))
      (pss_cut (ps_if (pt_cmpR (op_neD hr.units) (pe_ix ix_list (pv 0) pe_int (fun _ _ => rfl)) (pe_lst pa_nil) (nomark _))
        (pss_one (ps_set (i := 4) nd rfl (Or.inl rfl) (pe_ix ix_list (pe_ix ix_list (pv 0) pe_int (fun _ _ => rfl)) (pe_op op_mod (pe_callTy call_int1 (by rfl) T.int (by decide +kernel) (pa_cons (pv 3) pa_nil)) (pe_callB call_len_seq (by rfl) T.len PySem.boot_len (pa_cons (pe_ix ix_list (pv 0) pe_int (fun _ _ => rfl)) pa_nil))) (fun _ _ => rfl)))) pss_nil)
      (pss_cut (ps_if (PW.pt (pw_and (pt_cmpR op_lt (pv 3) (pe_callB call_len_seq (by rfl) T.len PySem.boot_len (pa_cons (pe_ix ix_list (pv 0) pe_int (fun _ _ => rfl)) pa_nil)) (nomark _))
          (pw_and1 (pt_cmpR op_ge (pe_callB call_abs (by rfl) T.abs (by decide +kernel) (pa_cons (pv 4) pa_nil)) (pe_op op_pow pe_int pe_int) (nomark _)))))
        (pss_cons (ps_set (i := 2) nd rfl (Or.inl rfl) (pe_op op_add (pe_op op_mul pe_int (pe_op op_sub (pe_callB call_abs (by rfl) T.abs (by decide +kernel) (pa_cons (pe_callTy call_int1 (by rfl) T.int (by decide +kernel) (pa_cons (pv 4) pa_nil)) pa_nil)) (pe_op op_pow pe_int pe_int))) (pe_callTy call_int1 (by rfl) T.int (by decide +kernel) (pa_cons (pe_cmpR op_lt (pv 4) pe_int (nomark _)) pa_nil))))
        (pss_cons (ps_asg (pe_op op_fdiv (pv 2) (pv 1)) (pg_sub (pv 0) pe_int set_list))
        (pss_one (ps_ret (pe_op op_mod (pe_callTy call_int1 (by rfl) T.int (by decide +kernel) (pa_cons (pv 2) pa_nil)) (pv 1)))))) pss_nil)
      (pss_cut (ps_set (i := 5) nd rfl (Or.inl rfl) (pe_op op_mod (pe_callTy call_int1 (by rfl) T.int (by decide +kernel) (pa_cons (pe_op op_pow (pe_op op_add (pe_op op_add (pe_op op_mod (pe_callTy call_int1 (by rfl) T.int (by decide +kernel) (pa_cons (pv 4) pa_nil)) pe_int) (pe_op op_mul pe_int (pv 3))) pe_int) pe_int) pa_nil)) pe_int))
      (pss_cons (ps_set (i := 5) nd rfl (Or.inl rfl) (pe_op op_mod (pe_callTy call_int1 (by rfl) T.int (by decide +kernel) (pa_cons (pe_op op_pow (pe_op op_add (pe_op op_add (pe_op op_mul (pv 5) (pe_op op_add (pe_op op_mul pe_int (pv 3)) pe_int)) (pe_op op_mul (pe_op op_mul pe_int (pv 3)) (pv 3))) pe_int) pe_int) pa_nil)) pe_int))
      (pss_one (ps_ret (pe_op op_mod (pe_callTy call_int1 (by rfl) T.int (by decide +kernel) (pa_cons (pe_op op_fdiv (pv 5) pe_int) pa_nil)) (pv 1))))))))))), ?_⟩
    obtain ⟨p, ⟨c, cells⟩, many, n, rfl, m1, m2, hn, ⟨⟨at0, rest, hp, a0, a1, r0⟩, hc, hcp, hcl⟩, k⟩ := h
    dsimp only at hp hc hcp hcl
    have mp : (0 : Int) < many := by omega
    have md : (0 : Int) < many ∧ many < 1073741824 := ⟨mp, by omega⟩
    refine ⟨_, rfl, p, _, _, _, rfl, rfl, SqL.of hp, atI_nat (j := 2) rfl, _, _, rfl, rfl, _, rfl, ?_⟩
    refine ite2 (fun hg => ?_) (fun hg => ?_)
    · have g0 : rest > 0 := of_decide_eq_true hg
      refine ⟨_, rfl, p, _, _, _, rfl, rfl, SqL.of hp, atI_nat (j := 2) rfl, .inl ⟨_, rfl, ?_⟩⟩
      refine ⟨_, rfl, _, rfl, _, _, rfl, rfl, md, _, rfl, p, _, _, 2, rfl, rfl, hp, rfl, ?_⟩
      refine ⟨_, rfl, .inl ⟨_, rfl, _, rfl, _, _, rfl, rfl, mp, ?_⟩⟩
      have b1 : But p H (upd H p (.lst [.ref c, .int at0, .int (rest / many)])) := (But.refl p H).at
      exact k _ _ (Int.emod_nonneg _ (by omega)) (Int.emod_lt_of_pos _ mp) b1 ⟨⟨at0, rest / many, upd_same, a0, by omega, Int.ediv_nonneg r0 (by omega)⟩, b1.seq hcp hc, hcp, hcl⟩
    · refine ⟨_, rfl, p, _, _, _, rfl, rfl, SqL.of hp, atI_nat (j := 1) rfl, ?_⟩
      refine ⟨_, rfl, _, _, rfl, rfl, _, rfl, p, _, _, 1, rfl, rfl, hp, rfl, ?_⟩
      have h1 : upd H p (.lst [.ref c, .int (at0 + 1), .int rest]) p = some (.lst [.ref c, .int (at0 + 1), .int rest]) := upd_same
      have b1 : But p H (upd H p (.lst [.ref c, .int (at0 + 1), .int rest])) := (But.refl p H).at
      refine ⟨_, rfl, _, _, rfl, rfl, .inl ⟨by decide, by decide⟩, _, _, rfl, rfl, ?_⟩
      refine ⟨fun σ' H' => ∃ cell : Int, σ' = [some (.ref p), some (.int many), none, some (.int at0), some (.int cell), none] ∧ But p H H' ∧ H' p = some (.lst [.ref c, .int (at0 + 1), .int rest]), ?_, ?_⟩
      · refine ⟨_, rfl, p, _, _, _, rfl, rfl, SqL.of h1, atI_nat (j := 0) rfl, (by decide), fun q hq => ?_⟩
        have hqp : p ≠ q := ne_of_none h1 hq
        have b2 : But p H (upd (upd H p (.lst [.ref c, .int (at0 + 1), .int rest])) q (.lst [])) := b1.new hq
        have h2 : upd (upd H p (.lst [.ref c, .int (at0 + 1), .int rest])) q (.lst []) p = some (.lst [.ref c, .int (at0 + 1), .int rest]) := by rw [upd_ne hqp]; exact h1
        refine ⟨_, _, .lst (b2.seq hcp hc) (dp_ints cells), .lst (SqL.of upd_same) .nil, shaped_ints _, rfl, _, rfl, ?_⟩
        rw [eqv_nil]
        cases e : cells.isEmpty with
        | true =>
          refine iteF ?_
          exact ⟨_, rfl, b2, h2⟩
        | false =>
          have hl : 0 < cells.length := by
            cases cells with
            | nil => cases e
            | cons z zs => simp
          refine iteT ?_
          have hlt : (at0 % (cells.length : Int)).toNat < cells.length := by
            have := Int.emod_lt_of_pos at0 (show (0 : Int) < cells.length by omega)
            have := Int.emod_nonneg at0 (show (cells.length : Int) ≠ 0 by omega)
            omega
          have hix : (cells.map V.int)[(at0 % (cells.length : Int)).toNat]? = some (V.int (cells[(at0 % (cells.length : Int)).toNat])) := by
            rw [List.getElem?_map, List.getElem?_eq_getElem hlt]
            rfl
          refine ⟨_, rfl, p, _, _, _, rfl, rfl, SqL.of h2, atI_nat (j := 0) rfl, _, rfl, .inl ⟨_, rfl, _, rfl, p, _, _, _, rfl, rfl, SqL.of h2, atI_nat (j := 0) rfl, c, _, rfl, .inl (b2.seq hcp hc), ?_⟩⟩
          rw [List.length_map]
          refine ⟨_, _, rfl, rfl, (by omega), c, _, _, _, rfl, rfl, b2.seq hcp hc, at_of (j := (at0 % (cells.length : Int)).toNat) (by
            have := Int.emod_nonneg at0 (show (cells.length : Int) ≠ 0 by omega)
            omega) hix, ?_⟩
          exact ⟨_, rfl, b2, h2⟩
      · rintro σ' H' ⟨cell, rfl, b2, h2⟩
        have pw : CPow 10 18 := ⟨by decide, by decide, by decide⟩
        refine ⟨fun σ' H'' => σ' = [some (.ref p), some (.int many), none, some (.int at0), some (.int cell), none] ∧ But p H H'' ∧ H'' p = some (.lst [.ref c, .int (at0 + 1), .int rest]), ?_, ?_⟩
        · refine ⟨_, rfl, _, rfl, p, _, _, _, rfl, rfl, SqL.of h2, atI_nat (j := 0) rfl, c, _, rfl, .inl (b2.seq hcp hc), _, _, rfl, rfl, _, rfl, ?_⟩
          refine ite2 (fun _ => ?_) (fun _ => iteF ?_)
          · refine ⟨_, rfl, _, rfl, _, _, rfl, rfl, pw, _, _, rfl, rfl, _, rfl, ?_⟩
            refine ite2 (fun hge => ?_) (fun _ => ?_)
            · have ge := of_decide_eq_true hge
              have ge2 : (10 : Int) ^ (18 : Int).toNat ≤ if cell < 0 then -cell else cell := ge
              have gr0 : 0 ≤ (2 * ((if cell < 0 then -cell else cell) - (10 : Int) ^ (18 : Int).toNat) + (if decide (cell < 0) = true then 1 else 0) : Int) := by
                split <;> omega
              refine ⟨_, rfl, .inl ⟨_, rfl, _, rfl, _, _, rfl, rfl, pw, _, _, rfl, rfl, _, _, rfl, rfl, .inl ⟨by decide, by decide⟩, _, rfl, _, _, rfl, rfl, .inr ⟨_, rfl, _, _, rfl, rfl, ?_⟩⟩⟩
              refine ⟨_, rfl, _, rfl, _, _, rfl, rfl, md, _, rfl, p, _, _, 2, rfl, rfl, h2, rfl, ?_⟩
              refine ⟨_, rfl, .inl ⟨_, rfl, _, rfl, _, _, rfl, rfl, mp, ?_⟩⟩
              exact k _ _ (Int.emod_nonneg _ (by omega)) (Int.emod_lt_of_pos _ mp) b2.at ⟨⟨at0 + 1, _, upd_same, by omega, by omega, Int.ediv_nonneg gr0 (by omega)⟩, (b2.at).seq hcp hc, hcp, hcl⟩
            · exact ⟨rfl, b2, h2⟩
          · exact ⟨rfl, b2, h2⟩
        · rintro σ'' H'' ⟨rfl, b3, h3⟩
          refine ⟨fun σ' H4 => ∃ x : Int, 0 ≤ x ∧ x < 2147483587 ∧ σ' = [some (.ref p), some (.int many), none, some (.int at0), some (.int cell), some (.int x)] ∧ H4 = H'', ?_, ?_⟩
          · have q0 := Int.emod_nonneg cell (show (2147483477 : Int) ≠ 0 by decide)
            have q1 := Int.emod_lt_of_pos cell (show (0 : Int) < 2147483477 by decide)
            have pw5 : CPow (cell % 2147483477 + 63367 * at0 + 911) 3 := ⟨by decide, by decide, by omega⟩
            refine ⟨_, rfl, .inl ⟨_, rfl, _, _, rfl, rfl, (by show (0 : Int) < 2147483477; decide), _, rfl, _, _, rfl, rfl, .inl ⟨by decide, by decide⟩, _, _, rfl, rfl, _, _, rfl, rfl, _, _, rfl, rfl, pw5, .inl ⟨_, rfl, _, _, rfl, rfl, (by show (0 : Int) < 2147483587; decide), ?_⟩⟩⟩
            exact ⟨_, Int.emod_nonneg _ (by decide), Int.emod_lt_of_pos _ (by decide), rfl, rfl⟩
          · rintro σ' H4 ⟨x, x0, x1, rfl, rfl⟩
            have e1 : x * (2 * at0 + 1543) ≤ 2147483587 * 2001543 := Int.mul_le_mul (by omega) (by omega) (by omega) (by decide)
            have e2 : 0 ≤ x * (2 * at0 + 1543) := Int.mul_nonneg x0 (by omega)
            have e3 : 57719 * at0 * at0 ≤ 57719000000 * 1000000 := Int.mul_le_mul (by omega) (by omega) a0 (by decide)
            have e4 : 0 ≤ 57719 * at0 * at0 := Int.mul_nonneg (by omega) a0
            have pw3 : CPow (x * (2 * at0 + 1543) + 57719 * at0 * at0 + 63367) 5 := ⟨by decide, by decide, by omega⟩
            refine ⟨_, rfl, _, rfl, _, _, rfl, rfl, .inl ⟨by decide, by decide⟩, _, _, rfl, rfl, _, _, rfl, rfl, .inl ⟨by omega, by omega⟩, _, rfl, _, _, rfl, rfl, .inl ⟨by decide, by decide⟩, _, rfl, _, _, rfl, rfl, .inr ⟨by omega, by omega⟩, _, _, rfl, rfl, _, _, rfl, rfl, _, _, rfl, rfl, pw3, .inl ⟨_, rfl, _, _, rfl, rfl, (by show (0 : Int) < 2147483579; decide), ?_⟩⟩
            refine ⟨_, rfl, _, _, rfl, rfl, ⟨by decide, by decide⟩, .inl ⟨_, rfl, _, rfl, _, _, rfl, rfl, mp, ?_⟩⟩
            exact k _ _ (Int.emod_nonneg _ (by omega)) (Int.emod_lt_of_pos _ mp) b3 ⟨⟨at0 + 1, rest, h3, by omega, by omega, r0⟩, b3.seq hcp hc, hcp, hcl⟩
end
end K
namespace K
open PySem L2 Rg
open Evl (pss_cut)
theorem int_at {l : List Int} {i : Nat} {v : V} (h : (l.map V.int)[i]? = some v) : ∃ z, l[i]? = some z ∧ v = .int z := by
  rw [List.getElem?_map] at h
  cases e : l[i]? with
  | none => rw [e] at h; cases h
  | some z => rw [e] at h; exact ⟨z, rfl, (Option.some.inj h).symm⟩
theorem take_snoc {α : Type} {l : List α} {i : Nat} {z : α} (h : l[i]? = some z) : l.take i ++ [z] = l.take (i + 1) := by
  rw [List.take_succ, h]; rfl
theorem sz {n : Nat} (h : n ≤ 100000) : n ≤ sizeLine := Nat.le_trans h (by decide)
theorem szl {n : Nat} (h : n < 100000) : n < sizeLine := Nat.lt_of_lt_of_le h (by decide)
theorem cutV_to (xs : List V) (k : Nat) : cutV xs none (some (k : Int)) = xs.take k := by
  unfold cutV
  rw [HT.sIx_none, HT.sIx_nat, List.drop_zero, Nat.sub_zero]
  rcases Nat.le_total k xs.length with h | h
  · rw [Nat.min_eq_left h]
  · rw [Nat.min_eq_right h, List.take_length, List.take_of_length_le h]
section
variable {P : Program} {w : World} {K : PySem.W.Frag} {mg : Str → Option Value} {base : Heap}
/-! ### the pen -/
def spPen (K : PySem.W.Frag) : Sp := fun vs H Q _ => ∃ (a : Addr) (ns : List Int), vs = [.ref a] ∧ SqL K H a (ns.map V.int) ∧ ns.length ≤ 63 ∧
  ∀ (p : Addr) (e : Addr × List Int) (H' : Hp), Same H H' → H p = none → PenAt K H' p e 0 → Q (.ref p) H'
abbrev nPen : List Str := ["_law_script", "_law_cell"]
theorem scPen : FnScope nPen ["_law_script"] (defScope sLwReel) := ⟨rfl, rfl, rfl, by decide +kernel, rfl, by decide +kernel, by decide +kernel⟩
theorem ok_pen {f : Addr} {fd : FuncData} (F : Fun K "_law_reel" "_law_reel" sLwReel f fd) (T : Bi mg) : FnOk P w K mg base CX0 2 f fd ["_law_script"] (spPen K) := by
  refine F.ok scPen (fun vs H Q E h => ?_) (fun cdv A outer s H vs Q E hr h => ?_)
  · obtain ⟨a, ns, rfl, _⟩ := h
    rfl
  · have nd := scPen.nd
    refine ⟨_, pss_one (ps_ret (pe_lst (pa_cons (pe_lc (own := [("_law_cell", 1)]) (g := gName 1) (tt := tYes) rfl nd (pi_list (pe_slice sl_list (pv 0) po_none (po_some pe_int)))
      (blkOk_by (N := nPen) (sc := defScope sLwReel) (by decide +kernel)) (fun _ _ _ _ _ => pg_name (i := 1) nd rfl (Or.inl rfl)) (fun _ _ _ _ _ => pts_nil)
      (fun _ _ _ _ _ => pe_callTy call_int1 (by rfl) T.int (by decide +kernel) (pa_cons (pv 1) pa_nil))) (pa_cons pe_int (pa_cons pe_int pa_nil))))), ?_⟩
    obtain ⟨a, ns, rfl, hS, hl, k⟩ := h
    refine ⟨_, rfl, _, rfl, a, _, rfl, hS, fun q hq => ?_⟩
    have e0 : cutV (ns.map V.int) none (some 60) = (ns.take 60).map V.int := by
      rw [show (60 : Int) = ((60 : Nat) : Int) from rfl, cutV_to, List.map_take]
    rw [e0]
    refine ⟨q, rfl, ⟨_, SqL.of upd_same⟩, fun D hD => ?_⟩
    have hqD : q ≠ D := ne_of_none upd_same hD
    have sD : Same (upd H q (.lst ((ns.take 60).map V.int))) (upd (upd H q (.lst ((ns.take 60).map V.int))) D (.lst [])) := (Same.refl _).new hD
    refine lc_list (K := K) (a := q) (xs := (ns.take 60).map V.int) (fun i H' => Same (upd H q (.lst ((ns.take 60).map V.int))) H' ∧ H' D = some (.lst (((ns.take 60).take i).map V.int)))
      ⟨sD, upd_same⟩ (fun i H' _ p => p.1.seq (SqL.of upd_same)) ?_ ?_
    · rintro i x H' hi ⟨s1, h1⟩
      obtain ⟨z, hz, rfl⟩ := int_at hi
      refine ⟨rfl, _, rfl, .inl ⟨_, rfl, _, h1, szl (by rw [List.length_map, List.length_take, List.length_take]; omega), s1.mut hD, ?_⟩⟩
      rw [← take_snoc hz, List.map_append]
      exact upd_same
    · rintro H' ⟨s1, h1⟩
      rw [List.length_map, List.take_length] at h1
      refine ⟨(by show 3 ≤ sizeLine; decide), fun p hp => ?_⟩
      have nD : H D = none := by
        rw [upd_ne hqD.symm] at hD
        exact hD
      have s2 : Same H H' := fun b o e => s1 b o (by rw [upd_ne (ne_of_none e hq)]; exact e)
      refine k p (D, ns.take 60) _ (s2.new hp) (s2.free hp) ⟨⟨0, 0, upd_same, by decide, by decide, by decide⟩, SqL.of (by rw [upd_ne (ne_of_none h1 hp)]; exact h1), ne_of_none h1 hp, by rw [List.length_take]; omega⟩
end
end K
namespace K
open PySem L2 Rg
open Evl (pss_cut)
section
variable {P : Program} {w : World} {K : PySem.W.Frag} {mg : Str → Option Value} {base : Heap}
/-! ### one of some things -/
def spPick (K : PySem.W.Frag) : Sp := fun vs H Q _ => ∃ (p l : Addr) (e : Addr × List Int) (xs : List V) (n : Nat), vs = [.ref p, .ref l] ∧ SqL K H l xs ∧ l ≠ p ∧ 1 ≤ xs.length ∧ xs.length ≤ 1000 ∧ n < 1000000 ∧ PenAt K H p e n ∧
  ∀ (i : Nat) (v : V) (H' : Hp), xs[i]? = some v → But p H H' → PenAt K H' p e (n + 1) → Q v H'
abbrev nPick : List Str := ["_law_reel_here", "_law_some"]
theorem scPick : FnScope nPick ["_law_reel_here", "_law_some"] (defScope sLwPick) := ⟨rfl, rfl, rfl, by decide +kernel, rfl, by decide +kernel, by decide +kernel⟩
/-- the draw as a def called by its name -/
structure DrawAt (P : Program) (w : World) (K : PySem.W.Frag) (mg : Str → Option Value) (base : Heap) (f : Addr) (fd : FuncData) : Prop where
  ok : FnOk P w K mg base CX0 2 f fd ["_law_reel_here", "_law_many"] (spDraw K)
  g : mg "_law_wind" = some (.ref f)
  kp : PySem.W.keepIn K (.ref f) = true
  b : Binds K fd ["_law_reel_here", "_law_many"] []
theorem ok_pick {f fD : Addr} {fd fdD : FuncData} (F : Fun K "_law_pick" "_law_pick" sLwPick f fd) (T : Bi mg) (D : DrawAt P w K mg base fD fdD) : FnOk P w K mg base CX0 3 f fd ["_law_reel_here", "_law_some"] (spPick K) := by
  refine F.ok scPick (fun vs H Q E h => ?_) (fun cdv A outer s H vs Q E hr h => ?_)
  · obtain ⟨p, l, e, xs, n, rfl, _⟩ := h
    rfl
  · have nd := scPick.nd
    refine ⟨_, pss_one (ps_ret (pe_ix ix_list (pv 1) (pe_call D.ok hr rfl D.g D.kp D.b .nil pass0 (pa_cons (pv 0) (pa_cons (pe_callB call_len_seq (by rfl) T.len PySem.boot_len (pa_cons (pv 1) pa_nil)) pa_nil))) (fun _ _ => rfl))), ?_⟩
    obtain ⟨p, l, e, xs, n, rfl, hl, hlp, l1, l2, hn, pen, k⟩ := h
    refine ⟨_, rfl, _, rfl, _, rfl, l, xs, rfl, .inl hl, p, e, _, n, rfl, by omega, by omega, hn, pen, fun r H' r0 r1 b pen' => ?_⟩
    have hr : r.toNat < xs.length := by omega
    exact ⟨l, xs, r, _, rfl, rfl, b.seq hlp hl, at_of (j := r.toNat) (by omega) (List.getElem?_eq_getElem hr), k _ _ _ (List.getElem?_eq_getElem hr) b pen'⟩
end
end K
namespace K
open PySem L2 Rg
open Evl (pss_cut)
/-- each from 1 to m -/
def Bd (m : Int) (ls : List Int) : Prop := ∀ x ∈ ls, 1 ≤ x ∧ x ≤ m
theorem Bd.snoc {m x : Int} {ls : List Int} (h : Bd m ls) (h1 : 1 ≤ x) (h2 : x ≤ m) : Bd m (ls ++ [x]) := fun y hy => by
  rcases List.mem_append.mp hy with z | z
  · exact h y z
  · rw [List.mem_singleton.mp z]
    exact ⟨h1, h2⟩
theorem Bd.le {m k : Int} {ls : List Int} (h : Bd m ls) (hk : m ≤ k) : Bd k ls := fun x hx => ⟨(h x hx).1, by have := (h x hx).2; omega⟩
theorem Bd.set {m x : Int} {ls : List Int} {i : Nat} (h : Bd m ls) (h1 : 1 ≤ x) (h2 : x ≤ m) : Bd m (ls.set i x) := fun y hy => by
  rcases List.mem_or_eq_of_mem_set hy with z | z
  · exact h y z
  · rw [z]; exact ⟨h1, h2⟩
theorem Bd.sum {m : Int} : ∀ {ls : List Int}, Bd m ls → (ls.length : Int) ≤ ls.sum ∧ ls.sum ≤ m * ls.length
  | [], _ => by simp
  | x :: ls, h => by
    have ih := Bd.sum (m := m) (ls := ls) fun y hy => h y (List.mem_cons_of_mem _ hy)
    have hx := h x (List.mem_cons_self ..)
    rw [List.sum_cons, List.length_cons]
    have e : m * ((ls.length + 1 : Nat) : Int) = m * ls.length + m := by push_cast; rw [Int.mul_add, Int.mul_one]
    rw [e]
    push_cast
    omega
theorem ixN_at {n : Nat} {r : Int} (h0 : 0 ≤ r) (h1 : r < n) : ixN n r = some r.toNat := by
  unfold ixN
  rw [if_pos h0, if_pos h1]
theorem int_get {ls : List Int} {i : Nat} (h : i < ls.length) : (ls.map V.int)[i]? = some (V.int ls[i]) := by
  rw [List.getElem?_map, List.getElem?_eq_getElem h]; rfl
theorem set_map (ls : List Int) (i : Nat) (x : Int) : (ls.map V.int).set i (V.int x) = (ls.set i x).map V.int := by
  rw [List.map_set]
theorem erase_sum : ∀ {ls : List Int} {i : Nat} (h : i < ls.length), (ls.eraseIdx i).sum = ls.sum - ls[i]
  | x :: ls, 0, h => by simp [List.sum_cons]; omega
  | x :: ls, i + 1, h => by
    have h' : i < ls.length := by simpa using h
    have ih := erase_sum h'
    rw [List.eraseIdx_cons_succ, List.sum_cons, List.sum_cons, ih, List.getElem_cons_succ]
    omega
theorem abs_sum {m : Int} (hm : 0 ≤ m) : ∀ {ls : List Int}, (∀ x ∈ ls, -m ≤ x ∧ x ≤ m) → -(m * ls.length) ≤ ls.sum ∧ ls.sum ≤ m * ls.length
  | [], _ => by simp
  | x :: ls, h => by
    have ih := abs_sum hm (ls := ls) fun y hy => h y (List.mem_cons_of_mem _ hy)
    have hx := h x (List.mem_cons_self ..)
    have e : m * ((ls.length + 1 : Nat) : Int) = m * ls.length + m := by push_cast; rw [Int.mul_add, Int.mul_one]
    rw [List.sum_cons, List.length_cons, e]
    omega
section
variable {P : Program} {w : World} {K : PySem.W.Frag} {mg : Str → Option Value} {base : Heap}
def spLengths (K : PySem.W.Frag) : Sp := fun vs H Q _ => ∃ (p : Addr) (e : Addr × List Int) (m n : Nat), vs = [.ref p, .int (m : Nat)] ∧ m ≤ 8 ∧ n < 800000 ∧ PenAt K H p e n ∧
  ∀ (l : Addr) (ls : List Int) (H' : Hp), ls.length = m → Bd 1000000 ls → H l = none → But p H H' → H' l = some (.lst (ls.map V.int)) → PenAt K H' p e (n + 9) → Q (.ref l) H'
abbrev nLengths : List Str := ["_law_reel_here", "_law_many", "_law_way", "_law_most", "_law_bar"]
theorem scLengths : FnScope nLengths ["_law_reel_here", "_law_many"] (defScope sLwLengths) := ⟨rfl, rfl, rfl, by decide +kernel, rfl, by decide +kernel, by decide +kernel⟩
theorem ok_lengths {f fD : Addr} {fd fdD : FuncData} (F : Fun K "_law_lengths" "_law_lengths" sLwLengths f fd) (T : Bi mg) (D : DrawAt P w K mg base fD fdD) : FnOk P w K mg base CX0 3 f fd ["_law_reel_here", "_law_many"] (spLengths K) := by
  refine F.ok scLengths (fun vs H Q E h => ?_) (fun cdv A outer s H vs Q E hr h => ?_)
  · obtain ⟨p, e, m, n, rfl, _⟩ := h
    rfl
  · have nd := scLengths.nd
    refine ⟨_, pss_cons (ps_set (i := 2) nd rfl (Or.inl rfl) (pe_call D.ok hr rfl D.g D.kp D.b .nil pass0 (pa_cons (pv 0) (pa_cons pe_int pa_nil))))
      (pss_cut (ps_set (i := 3) nd rfl (Or.inr rfl) (pe_ix ix_list (pe_lst (pa_cons pe_int (pa_cons pe_int (pa_cons pe_int (pa_cons pe_int (pa_cons pe_int (pa_cons pe_int (pa_cons pe_int (pa_cons pe_int pa_nil))))))))) (pv 2) (fun _ _ => rfl)))
      (pss_one (ps_ret (pe_lc (own := [("_law_bar", 4)]) (g := gName 4) (tt := tYes) rfl nd (pi_range1 (by rfl) T.range (pa_cons (pv 1) pa_nil)) (blkOk_by (N := nLengths) (sc := defScope sLwLengths) (by decide +kernel))
        (fun _ _ _ _ _ => pg_name (i := 4) nd rfl (Or.inl rfl)) (fun _ _ _ _ _ => pts_nil) (fun _ _ _ _ _ => pe_op op_add pe_int (pe_call D.ok hr rfl D.g D.kp D.b .nil pass0 (pa_cons (pv 0) (pa_cons (pv 3) pa_nil)))))))), ?_⟩
    obtain ⟨p, e, m, n, rfl, m8, hn, pen, k⟩ := h
    refine ⟨_, rfl, p, e, 8, n, rfl, by decide, by decide, by omega, pen, fun r1 H1 r1a r1b b1 pen1 => ?_⟩
    refine ⟨fun σ' H' => ∃ most : Int, 1 ≤ most ∧ most ≤ 1000000 ∧ σ' = [some (.ref p), some (.int (m : Nat)), some (.int r1), some (.int most), none] ∧ But p H H' ∧ PenAt K H' p e (n + 1), ?_, ?_⟩
    · refine ⟨(by show 8 ≤ sizeLine; decide), fun q hq => ?_⟩
      have hb := (b1.new hq : But p H (upd H1 q (.lst [.int 9, .int 3, .int 9, .int 5, .int 20, .int 9, .int 2, .int 1000000])))
      have hp := (pen1.put hq : PenAt K (upd H1 q (.lst [.int 9, .int 3, .int 9, .int 5, .int 20, .int 9, .int 2, .int 1000000])) p e (n + 1))
      have c8 : r1 = 0 ∨ r1 = 1 ∨ r1 = 2 ∨ r1 = 3 ∨ r1 = 4 ∨ r1 = 5 ∨ r1 = 6 ∨ r1 = 7 := by omega
      rcases c8 with c | c | c | c | c | c | c | c <;> subst c <;> refine ⟨_, rfl, q, _, _, _, rfl, rfl, SqL.of upd_same, rfl, ?_⟩ <;> exact ⟨_, by decide, by decide, rfl, hb, hp⟩
    · rintro σ' H3 ⟨most, m1, m2, rfl, b3, pen3⟩
      refine ⟨_, rfl, _, rfl, by omega, by omega, fun D hD => ?_⟩
      have hDp : D ≠ p := pen3.ne hD
      have hD0 : H D = none := b3.free hDp hD
      refine lc_range (lo := 0) (n := ((m : Nat) : Int).toNat) (fun i H' => ∃ ls : List Int, ls.length = i ∧ Bd most ls ∧ H' D = some (.lst (ls.map V.int)) ∧ But p H H' ∧ PenAt K H' p e (n + 1 + i)) ⟨[], rfl, fun x hx => (by cases hx), upd_same, b3.mut hD0, pen.mut pen3 b3 hD0⟩ ?_ ?_
      · rintro i H' hi ⟨ls, ll, bd, hd, b, pen'⟩
        rw [Int.toNat_natCast] at hi
        refine ⟨rfl, _, rfl, _, rfl, p, e, most, n + 1 + i, rfl, m1, m2, by omega, pen', fun r H4 q0 q1 b4 pen4 => ⟨_, _, rfl, rfl, _, b4 D _ hDp hd, szl (by rw [List.length_map]; omega), ls ++ [1 + r], by rw [List.length_append, ll]; rfl, bd.snoc (by omega) (by omega), ?_, (b.trans b4).mut hD0, pen.mut pen4 (b.trans b4) hD0⟩⟩
        rw [List.map_append]
        exact upd_same
      · rintro H4 ⟨ls, ll, bd, hd, b4, pen4⟩
        rw [Int.toNat_natCast] at ll pen4
        exact k D ls H4 ll (bd.le m2) hD0 b4 hd (pen4.mono (by omega))
end
end K
namespace K
open PySem L2 Rg
open Evl (pss_cut)
/-- the kinds that are asked for -/
def kinds : List String := ["NoneType", "bool", "int", "str", "list", "tuple", "dict"]
theorem kit_int : ∀ k ∈ kinds, kitB k "int" = some (decide (k = "int" ∨ k = "bool")) := by decide +kernel
theorem kit_bool : ∀ k ∈ kinds, kitB k "bool" = some (decide (k = "bool")) := by decide +kernel
theorem kit_list : ∀ k ∈ kinds, kitB k "list" = some (decide (k = "list")) := by decide +kernel
theorem kit_tuple : ∀ k ∈ kinds, kitB k "tuple" = some (decide (k = "tuple")) := by decide +kernel
/-- v is of the kind k -/
def Knd (K : PySem.W.Frag) (H : Hp) (v : V) (k : String) : Prop := TyX K H v (.type k) ∧ k ∈ kinds
section
variable {P : Program} {w : World} {K : PySem.W.Frag} {mg : Str → Option Value} {base : Heap}
theorem Knd.int {H : Hp} {i : Int} : Knd K H (.int i) "int" := ⟨.base (.int i), by decide⟩
theorem tyx_same {H H' : Hp} {v : V} {t : Value} (h : TyX K H v t) (s : Same H H') : TyX K H' v t := by
  cases h with
  | base h =>
    refine .base ?_
    cases h with
    | non => exact .non
    | bl x => exact .bl x
    | int x => exact .int x
    | str x => exact .str x
    | flt x => exact .flt x
    | lst e => exact .lst (s _ _ e)
    | frz e => exact .frz (s _ _ e)
    | tup e => exact .tup (s _ _ e)
    | dK e => exact .dK (s _ _ e)
    | dT e => exact .dT (s _ _ e)
    | ins e cl ha hn htk hm => exact .ins (s _ _ e) cl ha hn htk hm
  | byt b => exact .byt b
  | set e => exact .set (s _ _ e)
  | kList e c => exact .kList e c
  | kTuple e c => exact .kTuple e c
  | kDict e c => exact .kDict e c
  | fTuple e => exact .fTuple (s _ _ e)
  | fDict e => exact .fDict (s _ _ e)
theorem Knd.same {H H' : Hp} {v : V} {k : String} (h : Knd K H v k) (s : Same H H') : Knd K H' v k := ⟨tyx_same h.1 s, h.2⟩
/-! ### is_integer -/
def spIsInt (K : PySem.W.Frag) : Sp := fun vs H Q _ => ∃ (v : V) (k : String), vs = [v] ∧ Knd K H v k ∧ Q (.bl (decide (k = "int"))) H
theorem scIsInt : FnScope ["value"] ["value"] (defScope sIsInteger) := ⟨rfl, rfl, rfl, by decide +kernel, rfl, by decide +kernel, by decide +kernel⟩
theorem ok_isInt {f : Addr} {fd : FuncData} (F : Fun K "is_integer" "is_integer" sIsInteger f fd) (T : Bi mg) : FnOk P w K mg base CX0 1 f fd ["value"] (spIsInt K) := by
  refine F.ok scIsInt (fun vs H Q E h => ?_) (fun cdv A outer s H vs Q E hr h => ?_)
  · obtain ⟨v, k, rfl, _⟩ := h
    rfl
  · refine ⟨_, pss_one (ps_ret (pe_and (pe_callB call_isi (by rfl) T.isinstance (by decide +kernel) (pa_cons (pv 0) (pa_cons (pe_bltn (v := .ty "int") (u := .type "int") (by rfl) T.int (by decide +kernel) rfl) pa_nil)))
      (pe_one (pe_not (pe_callB call_isi (by rfl) T.isinstance (by decide +kernel) (pa_cons (pv 0) (pa_cons (pe_bltn (v := .ty "bool") (u := .type "bool") (by rfl) T.bool (by decide +kernel) rfl) pa_nil))))))), ?_⟩
    obtain ⟨v, k, rfl, ⟨ty, hk⟩, q⟩ := h
    refine ⟨_, rfl, v, .ty "int", _, _, _, rfl, .ty _, ty, kit_ty (kit_int k hk), _, rfl, ?_⟩
    refine ite2 (fun c => ?_) (fun c => ?_)
    · refine ⟨_, rfl, v, .ty "bool", _, _, _, rfl, .ty _, ty, kit_ty (kit_bool k hk), _, rfl, ?_⟩
      have c' : k = "int" ∨ k = "bool" := of_decide_eq_true c
      have e : (!decide (k = "bool")) = decide (k = "int") := by
        rcases c' with rfl | rfl <;> decide
      rw [e]
      exact q
    · have c' : ¬ (k = "int" ∨ k = "bool") := fun z => c (decide_eq_true z)
      have e : decide (k = "int") = false := decide_eq_false fun z => c' (.inl z)
      rw [e] at q
      exact q
/-! ### is_list -/
def spIsList (K : PySem.W.Frag) : Sp := fun vs H Q _ => ∃ (v : V) (k : String), vs = [v] ∧ Knd K H v k ∧ ∀ H', Same H H' → Q (.bl (decide (k = "list" ∨ k = "tuple"))) H'
theorem scIsList : FnScope ["value"] ["value"] (defScope sIsList) := ⟨rfl, rfl, rfl, by decide +kernel, rfl, by decide +kernel, by decide +kernel⟩
theorem ok_isList {f : Addr} {fd : FuncData} (F : Fun K "is_list" "is_list" sIsList f fd) (T : Bi mg) : FnOk P w K mg base CX0 1 f fd ["value"] (spIsList K) := by
  refine F.ok scIsList (fun vs H Q E h => ?_) (fun cdv A outer s H vs Q E hr h => ?_)
  · obtain ⟨v, k, rfl, _⟩ := h
    rfl
  · refine ⟨_, pss_one (ps_ret (pe_callB call_isiT (by rfl) T.isinstance (by decide +kernel) (pa_cons (pv 0) (pa_cons (pe_tup (pa_cons (pe_bltn (v := .ty "list") (u := .type "list") (by rfl) T.list (by decide +kernel) rfl) (pa_cons (pe_bltn (v := .ty "tuple") (u := .type "tuple") (by rfl) T.tuple (by decide +kernel) rfl) pa_nil))) pa_nil)))), ?_⟩
    obtain ⟨v, k, rfl, ⟨ty, hk⟩, q⟩ := h
    refine ⟨_, rfl, (by show 2 ≤ sizeLine; decide), fun p hp => ?_⟩
    have s1 : Same H (upd H p (.tup [.ty "list", .ty "tuple"])) := (Same.refl H).new hp
    refine ⟨v, p, [.ty "list", .ty "tuple"], _, _, decide (k = "list" ∨ k = "tuple"), rfl, upd_same, .cons (.ty _) (.cons (.ty _) .nil), tyx_same ty s1, kitAny_cons (kit_ty (kit_list k hk)) (fun e => kitAny_cons (b := decide (k = "tuple")) (r := decide (k = "list" ∨ k = "tuple")) (kit_ty (kit_tuple k hk)) (fun e' => ?_) fun e' => ?_) fun e => ?_, q _ s1⟩
    · have h1 : ¬ k = "list" := of_decide_eq_false e
      have h2 : ¬ k = "tuple" := of_decide_eq_false e'
      rw [kitAny_nil, decide_eq_false (fun z => z.elim h1 h2)]
    · exact decide_eq_true (.inr (of_decide_eq_true e'))
    · exact decide_eq_true (.inl (of_decide_eq_true e))
end
end K
namespace K
open PySem L2 Rg
open Evl (pss_cut)
theorem iteDT {c A B : Prop} [Decidable c] (hc : c) (h : A) : if decide c = true then A else B := by
  rw [if_pos (decide_eq_true hc)]; exact h
theorem iteDF {c A B : Prop} [Decidable c] (hc : ¬ c) (h : B) : if decide c = true then A else B := by
  rw [if_neg (by rw [decide_eq_false hc]; exact Bool.false_ne_true)]; exact h
theorem iteBT {c : Bool} {A B : Prop} (hc : c = true) (h : A) : if c = true then A else B := by
  rw [if_pos hc]; exact h
theorem iteBF {c : Bool} {A B : Prop} (hc : c = false) (h : B) : if c = true then A else B := by
  rw [if_neg (by rw [hc]; exact Bool.false_ne_true)]; exact h
theorem sm {n : Nat} (h : n ≤ 10000) : n < sizeLine := Nat.lt_of_le_of_lt h (by decide)
/-- a def of the text, by its name -/
structure DefAt (P : Program) (w : World) (K : PySem.W.Frag) (mg : Str → Option Value) (base : Heap) (CX : CXT) (k : Nat) (x : Str) (ps : List Str) (sp : Sp) (f : Addr) (fd : FuncData) : Prop where
  ok : FnOk P w K mg base CX k f fd ps sp
  g : mg x = some (.ref f)
  kp : PySem.W.keepIn K (.ref f) = true
  b : Binds K fd ps []
section
variable {P : Program} {w : World} {K : PySem.W.Frag} {mg : Str → Option Value} {base : Heap}
/-- two promises of one def -/
theorem fn_or {CX : CXT} {k : Nat} {f : Addr} {fd : FuncData} {ps : List Str} {sp sp' : Sp} (F : FnOk P w K mg base CX k f fd ps sp) (G : FnOk P w K mg base CX k f fd ps sp') : FnOk P w K mg base CX k f fd ps (fun vs H Q E => sp vs H Q E ∨ sp' vs H Q E) :=
  ⟨fun vs H Q E h => h.elim (F.len vs H Q E) (G.len vs H Q E), fun A outer s H args us vs Q E hr e0 hb hv h => h.elim (F.run A outer s H args us vs Q E hr e0 hb hv) (G.run A outer s H args us vs Q E hr e0 hb hv)⟩
/-! ### is_within, of ints -/
def spWithin : Sp := fun vs H Q _ => ∃ (v lo hi : Int), vs = [.int v, .int lo, .int hi] ∧ Q (.bl (decide (lo ≤ v) && decide (v ≤ hi))) H
theorem scWithin : FnScope ["value", "least", "most"] ["value", "least", "most"] (defScope sIsWithin) := ⟨rfl, rfl, rfl, by decide +kernel, rfl, by decide +kernel, by decide +kernel⟩
theorem ok_within {f fI : Addr} {fd fdI : FuncData} (F : Fun K "is_within" "is_within" sIsWithin f fd) (G : DefAt P w K mg base CX0 1 "is_integer" ["value"] (spIsInt K) fI fdI) : FnOk P w K mg base CX0 2 f fd ["value", "least", "most"] spWithin := by
  refine F.ok scWithin (fun vs H Q E h => ?_) (fun cdv A outer s H vs Q E hr h => ?_)
  · obtain ⟨v, lo, hi, rfl, _⟩ := h
    rfl
  · refine ⟨_, pss_cons (ps_if (pt_not (pt_val (pe_call G.ok hr rfl G.g G.kp G.b .nil pass0 (pa_cons (pv 0) pa_nil)))) (pss_one (ps_ret pe_bl)) pss_nil)
      (pss_one (ps_ret (pe_and (pe_or (pe_cmpR op_isN (pv 1) pe_non (nomark _)) (pe_one (pe_cmpR op_ge (pv 0) (pv 1) (nomark _)))) (pe_one (pe_or (pe_cmpR op_isN (pv 2) pe_non (nomark _)) (pe_one (pe_cmpR op_le (pv 0) (pv 2) (nomark _)))))))), ?_⟩
    obtain ⟨v, lo, hi, rfl, q⟩ := h
    refine ⟨_, rfl, V.int v, "int", rfl, Knd.int, _, rfl, iteNS rfl ?_⟩
    refine ⟨_, rfl, rfl, _, rfl, iteDF (fun z => nomatch z) ⟨_, rfl, _, rfl, _, _, rfl, rfl, _, rfl, ?_⟩⟩
    refine ite2 (fun c => ?_) (fun c => ?_)
    · have c' : lo ≤ v := of_decide_eq_true c
      refine ⟨_, rfl, rfl, _, rfl, iteDF (fun z => nomatch z) ⟨_, rfl, _, rfl, _, _, rfl, rfl, ?_⟩⟩
      rw [decide_eq_true c', Bool.true_and] at q
      exact q
    · have c' : ¬ lo ≤ v := fun z => c (decide_eq_true z)
      rw [decide_eq_false c', Bool.false_and] at q
      exact q
/-! ### is_numbers -/
abbrev nNums : List Str := ["value", "one"]
theorem scNums : FnScope nNums ["value"] (defScope sIsNumbers) := ⟨rfl, rfl, rfl, by decide +kernel, rfl, by decide +kernel, by decide +kernel⟩
/-- of what is no list or tuple | of a list | of a tuple -/
def spNumsO (K : PySem.W.Frag) : Sp := fun vs H Q _ => ∃ (v : V) (k : String), vs = [v] ∧ Knd K H v k ∧ k ≠ "list" ∧ k ≠ "tuple" ∧ ∀ H', Same H H' → Q (.bl false) H'
def spNumsL (K : PySem.W.Frag) : Sp := fun vs H Q _ => ∃ (a : Addr) (xs : List V) (kf : V → String), vs = [.ref a] ∧ Knd K H (.ref a) "list" ∧ SqL K H a xs ∧ xs.length ≤ 1000 ∧ (∀ x ∈ xs, Knd K H x (kf x)) ∧ ∀ H', Same H H' → Q (.bl (xs.all fun x => decide (kf x = "int"))) H'
def spNumsT (K : PySem.W.Frag) : Sp := fun vs H Q _ => ∃ (a : Addr) (xs : List V) (kf : V → String), vs = [.ref a] ∧ Knd K H (.ref a) "tuple" ∧ SqT K H a xs ∧ xs.length ≤ 1000 ∧ (∀ x ∈ xs, Knd K H x (kf x)) ∧ ∀ H', Same H H' → Q (.bl (xs.all fun x => decide (kf x = "int"))) H'
theorem all_map_bl (xs : List V) (g : V → Bool) : ((xs.map g).all id) = xs.all g := by
  rw [List.all_map]; rfl
theorem ok_numsO {f fI fL : Addr} {fd fdI fdL : FuncData} (F : Fun K "is_numbers" "is_numbers" sIsNumbers f fd) (T : Bi mg) (G : DefAt P w K mg base CX0 1 "is_integer" ["value"] (spIsInt K) fI fdI) (L : DefAt P w K mg base CX0 1 "is_list" ["value"] (spIsList K) fL fdL) : FnOk P w K mg base CX0 2 f fd ["value"] (spNumsO K) := by
  refine F.ok scNums (fun vs H Q E h => ?_) (fun cdv A outer s H vs Q E hr h => ?_)
  · obtain ⟨v, k, rfl, _⟩ := h
    rfl
  · refine ⟨_, pss_one (ps_ret (pe_and (pe_call L.ok hr rfl L.g L.kp L.b .nil pass0 (pa_cons (pv 0) pa_nil)) (pe_one (pe_callB (cr_all rfl) (by rfl) T.all (by decide +kernel) (pa_cons (pe_lc (own := [("one", 1)]) (g := gName 1) (tt := tYes) rfl scNums.nd (pi_list (pv 0))
      (blkOk_by (N := nNums) (sc := defScope sIsNumbers) (by decide +kernel)) (fun _ _ _ _ _ => pg_name (i := 1) scNums.nd rfl (Or.inl rfl)) (fun _ _ _ _ _ => pts_nil) (fun _ _ _ _ _ => pe_call G.ok hr rfl G.g G.kp G.b .nil pass0 (pa_cons (pv 1) pa_nil))) pa_nil))))), ?_⟩
    obtain ⟨v, k, rfl, hk, k1, k2, q⟩ := h
    exact ⟨_, rfl, v, k, rfl, hk, fun H' s1 => ⟨_, rfl, iteDF (fun z => z.elim k1 k2) (q H' s1)⟩⟩
theorem ok_numsL {f fI fL : Addr} {fd fdI fdL : FuncData} (F : Fun K "is_numbers" "is_numbers" sIsNumbers f fd) (T : Bi mg) (G : DefAt P w K mg base CX0 1 "is_integer" ["value"] (spIsInt K) fI fdI) (L : DefAt P w K mg base CX0 1 "is_list" ["value"] (spIsList K) fL fdL) : FnOk P w K mg base CX0 2 f fd ["value"] (spNumsL K) := by
  refine F.ok scNums (fun vs H Q E h => ?_) (fun cdv A outer s H vs Q E hr h => ?_)
  · obtain ⟨v, k, kf, rfl, _⟩ := h
    rfl
  · refine ⟨_, pss_one (ps_ret (pe_and (pe_call L.ok hr rfl L.g L.kp L.b .nil pass0 (pa_cons (pv 0) pa_nil)) (pe_one (pe_callB (cr_all rfl) (by rfl) T.all (by decide +kernel) (pa_cons (pe_lc (own := [("one", 1)]) (g := gName 1) (tt := tYes) rfl scNums.nd (pi_list (pv 0))
      (blkOk_by (N := nNums) (sc := defScope sIsNumbers) (by decide +kernel)) (fun _ _ _ _ _ => pg_name (i := 1) scNums.nd rfl (Or.inl rfl)) (fun _ _ _ _ _ => pts_nil) (fun _ _ _ _ _ => pe_call G.ok hr rfl G.g G.kp G.b .nil pass0 (pa_cons (pv 1) pa_nil))) pa_nil))))), ?_⟩
    obtain ⟨a, xs, kf, rfl, hk, hs, hl, hx, q⟩ := h
    refine ⟨_, rfl, _, "list", rfl, hk, fun H1 s1 => ⟨_, rfl, iteDT (.inl rfl) ?_⟩⟩
    refine ⟨_, rfl, a, rfl, ⟨_, s1.seq hs⟩, fun D hD => ?_⟩
    have hD0 := s1.free hD
    refine lc_list (K := K) (a := a) (xs := xs) (fun i H' => Same H H' ∧ H' D = some (.lst ((xs.take i).map fun x => V.bl (decide (kf x = "int"))))) ⟨s1.new hD, upd_same⟩ (fun i H' _ p => p.1.seq hs) ?_ ?_
    · rintro i x H' hi ⟨s2, h2⟩
      refine ⟨rfl, _, rfl, x, kf x, rfl, (hx x (List.mem_of_getElem? hi)).same s2, _, h2, (by rw [List.length_map, List.length_take]; exact sm (by omega)), s2.mut hD0, ?_⟩
      rw [upd_same, List.take_succ, hi, List.map_append]
      rfl
    · rintro H' ⟨s2, h2⟩
      rw [List.take_length] at h2
      refine ⟨D, xs.map fun x => decide (kf x = "int"), rfl, SqL.of (by rw [List.map_map]; exact h2), ?_⟩
      rw [all_map_bl]
      exact q H' s2
theorem ok_numsT {f fI fL : Addr} {fd fdI fdL : FuncData} (F : Fun K "is_numbers" "is_numbers" sIsNumbers f fd) (T : Bi mg) (G : DefAt P w K mg base CX0 1 "is_integer" ["value"] (spIsInt K) fI fdI) (L : DefAt P w K mg base CX0 1 "is_list" ["value"] (spIsList K) fL fdL) : FnOk P w K mg base CX0 2 f fd ["value"] (spNumsT K) := by
  refine F.ok scNums (fun vs H Q E h => ?_) (fun cdv A outer s H vs Q E hr h => ?_)
  · obtain ⟨v, k, kf, rfl, _⟩ := h
    rfl
  · refine ⟨_, pss_one (ps_ret (pe_and (pe_call L.ok hr rfl L.g L.kp L.b .nil pass0 (pa_cons (pv 0) pa_nil)) (pe_one (pe_callB (cr_all rfl) (by rfl) T.all (by decide +kernel) (pa_cons (pe_lc (own := [("one", 1)]) (g := gName 1) (tt := tYes) rfl scNums.nd (pi_tup (pv 0))
      (blkOk_by (N := nNums) (sc := defScope sIsNumbers) (by decide +kernel)) (fun _ _ _ _ _ => pg_name (i := 1) scNums.nd rfl (Or.inl rfl)) (fun _ _ _ _ _ => pts_nil) (fun _ _ _ _ _ => pe_call G.ok hr rfl G.g G.kp G.b .nil pass0 (pa_cons (pv 1) pa_nil))) pa_nil))))), ?_⟩
    obtain ⟨a, xs, kf, rfl, hk, hs, hl, hx, q⟩ := h
    refine ⟨_, rfl, _, "tuple", rfl, hk, fun H1 s1 => ⟨_, rfl, iteDT (.inr rfl) ?_⟩⟩
    refine ⟨_, rfl, a, rfl, ⟨_, s1.tup hs⟩, fun D hD => ?_⟩
    have hD0 := s1.free hD
    refine lc_tup (K := K) (a := a) (xs := xs) (fun i H' => Same H H' ∧ H' D = some (.lst ((xs.take i).map fun x => V.bl (decide (kf x = "int"))))) ⟨s1.new hD, upd_same⟩ (fun i H' _ p => p.1.tup hs) ?_ ?_
    · rintro i x H' hi ⟨s2, h2⟩
      refine ⟨rfl, _, rfl, x, kf x, rfl, (hx x (List.mem_of_getElem? hi)).same s2, _, h2, (by rw [List.length_map, List.length_take]; exact sm (by omega)), s2.mut hD0, ?_⟩
      rw [upd_same, List.take_succ, hi, List.map_append]
      rfl
    · rintro H' ⟨s2, h2⟩
      rw [List.take_length] at h2
      refine ⟨D, xs.map fun x => decide (kf x = "int"), rfl, SqL.of (by rw [List.map_map]; exact h2), ?_⟩
      rw [all_map_bl]
      exact q H' s2
end
end K
namespace K
open PySem L2 Rg
open Evl (pss_cut)
/-- the first that stands twice, behind those seen -/
def ft : List Int → List Int → Option Int
  | _, [] => none
  | seen, x :: xs => if x ∈ seen then some x else ft (seen ++ [x]) xs
def oV : Option Int → V
  | none => .non
  | some x => .int x
def seenK (l : List Int) : List (Key × V) := l.map fun k => (Sum.inl k, V.bl true)
theorem seen_val (l : List Int) (n : Int) : valV (seenK l) (Sum.inl n : Key) = if n ∈ l then some (.bl true) else none := by
  induction l with
  | nil => rfl
  | cons x l ih =>
    by_cases e : x = n
    · rw [if_pos (by rw [e]; exact List.mem_cons_self ..)]
      exact valV_pos (p := ((Sum.inl x : Key), V.bl true)) (by rw [e])
    · have h1 : valV (seenK (x :: l)) (Sum.inl n : Key) = valV (seenK l) (Sum.inl n) := valV_neg (p := ((Sum.inl x : Key), V.bl true)) (fun z => e (Sum.inl.inj z))
      rw [h1, ih]
      by_cases f : n ∈ l
      · rw [if_pos f, if_pos (List.mem_cons_of_mem _ f)]
      · rw [if_neg f, if_neg fun z => (List.mem_cons.mp z).elim (fun q => e q.symm) f]
theorem seen_len (l : List Int) : (seenK l).length = l.length := List.length_map ..
theorem seen_put {l : List Int} {n : Int} (h : n ∉ l) : putK (seenK l) (Sum.inl n : Key) (.bl true) = seenK (l ++ [n]) := by
  rw [putK_new _ (by rw [seen_val, if_neg h])]
  simp [seenK]
theorem ft_step {ns : List Int} {i : Nat} {z : Int} (h : ns[i]? = some z) : ft (ns.take i) (ns.drop i) = if z ∈ ns.take i then some z else ft (ns.take (i + 1)) (ns.drop (i + 1)) := by
  obtain ⟨hi, rfl⟩ := List.getElem?_eq_some_iff.mp h
  rw [List.drop_eq_getElem_cons hi, ← take_snoc h]
  rfl
section
variable {P : Program} {w : World} {K : PySem.W.Frag} {mg : Str → Option Value} {base : Heap}
/-! ### fixed, of an int -/
def spFixed : Sp := fun vs H Q _ => ∃ i : Int, vs = [.int i] ∧ ∀ H', Same H H' → Q (.int i) H'
theorem scFixed : FnScope ["value"] ["value"] (defScope sFixed) := ⟨rfl, rfl, rfl, by decide +kernel, rfl, by decide +kernel, by decide +kernel⟩
theorem ok_fixed {f : Addr} {fd : FuncData} (F : Fun K "fixed" "fixed" sFixed f fd) (T : Bi mg) : FnOk P w K mg base CX0 1 f fd ["value"] spFixed := by
  refine F.ok scFixed (fun vs H Q E h => ?_) (fun cdv A outer s H vs Q E hr h => ?_)
  · obtain ⟨v, rfl, _⟩ := h
    rfl
  · refine ⟨_, pss_cons (ps_if (pt_val (pe_callB call_isiT (by rfl) T.isinstance (by decide +kernel) (pa_cons (pv 0) (pa_cons (pe_tup (pa_cons (pe_bltn (v := .ty "list") (u := .type "list") (by rfl) T.list (by decide +kernel) rfl) (pa_cons (pe_bltn (v := .ty "tuple") (u := .type "tuple") (by rfl) T.tuple (by decide +kernel) rfl) pa_nil))) pa_nil)))) (pss_one ps_never) pss_nil)
      (pss_one (ps_ret (pv 0))), ?_⟩
    obtain ⟨i, rfl, q⟩ := h
    refine ⟨_, rfl, (by show 2 ≤ sizeLine; decide), fun p hp => ?_⟩
    have s1 : Same H (upd H p (.tup [.ty "list", .ty "tuple"])) := (Same.refl H).new hp
    refine ⟨.int i, p, [.ty "list", .ty "tuple"], .type "int", _, false, rfl, upd_same, .cons (.ty _) (.cons (.ty _) .nil), .base (.int i), kitAny_cons (kit_ty (kit_list "int" (by decide))) (fun e => kitAny_cons (b := false) (r := false) (kit_ty (kit_tuple "int" (by decide))) (fun _ => kitAny_nil) fun e' => nomatch e') (fun e => nomatch e), _, rfl, iteF ?_⟩
    exact ⟨_, rfl, q _ s1⟩
/-! ### twice_at, first_twice, of ints: a list | a tuple -/
def tatQ (ns : List Int) (H : Hp) (Q : VK) : Prop := ∀ H', Same H H' → (ft [] ns = none → Q .non H') ∧ ∀ (i : Nat) (z : Int), ns[i]? = some z → ft [] ns = some z → Q (.int (i : Nat)) H'
def spTaL (K : PySem.W.Frag) : Sp := fun vs H Q _ => ∃ (a : Addr) (ns : List Int), vs = [.ref a] ∧ SqL K H a (ns.map V.int) ∧ ns.length ≤ 1000 ∧ tatQ ns H Q
def spTaT (K : PySem.W.Frag) : Sp := fun vs H Q _ => ∃ (a : Addr) (ns : List Int), vs = [.ref a] ∧ SqT K H a (ns.map V.int) ∧ ns.length ≤ 1000 ∧ tatQ ns H Q
abbrev nTa : List Str := ["values", "seen", "at", "value", "key"]
theorem scTa : FnScope nTa ["values"] (defScope sTwiceAt) := ⟨rfl, rfl, rfl, by decide +kernel, rfl, by decide +kernel, by decide +kernel⟩
theorem ok_taL {f fX : Addr} {fd fdX : FuncData} (F : Fun K "twice_at" "twice_at" sTwiceAt f fd) (T : Bi mg) (G : DefAt P w K mg base CX0 1 "fixed" ["value"] spFixed fX fdX) : FnOk P w K mg base CX0 2 f fd ["values"] (spTaL K) := by
  refine F.ok scTa (fun vs H Q E h => ?_) (fun cdv A outer s H vs Q E hr h => ?_)
  · obtain ⟨a, ns, rfl, _⟩ := h
    rfl
  · have hu := hu_of hr
    have nd := scTa.nd
    refine ⟨_, pss_cons (ps_set (i := 1) nd rfl (Or.inl rfl) pe_dnewK)
      (pss_cons (ps_for PassesOwn.never rfl (pi_enum (by rfl) T.enumerate (pa_cons (pv 0) pa_nil)) (pg_tup rfl (pgs_cons (pg_name (i := 2) nd rfl (Or.inl rfl)) (pgs_cons (pg_name (i := 3) nd rfl (Or.inl rfl)) pgs_nil)))
        (pss_cons (ps_set (i := 4) nd rfl (Or.inl rfl) (pe_call G.ok hr rfl G.g G.kp G.b .nil pass0 (pa_cons (pv 3) pa_nil)))
        (pss_cons (ps_if (pt_cmp (pc_din hu (pv 4) (pv 1))) (pss_one (ps_ret (pv 2))) pss_nil)
        (pss_one (ps_dput hu (pv 1) (pv 4) pe_bl rfl)))))
      (pss_one (ps_ret pe_non))), ?_⟩
    obtain ⟨a, ns, rfl, hs, hl, q⟩ := h
    intro d hd
    refine ⟨_, rfl, a, _, rfl, ((Same.refl H).new hd).seq hs, ?_⟩
    refine for_it walk_enum (fun i σ H' => ∃ (z1 v k : Option V), σ = [some (.ref a), some (.ref d), z1, v, k] ∧ Same H H' ∧ H' d = some (.dK (seenK (ns.take i))) ∧ ft [] ns = ft (ns.take i) (ns.drop i))
      ⟨none, none, none, rfl, (Same.refl H).new hd, upd_same, rfl⟩ (fun i σ H' _ ⟨_, _, _, _, s, _⟩ => s.seq hs) ?_ ?_
    · rintro i x σ H1 H2 hi ⟨z1, v, k, rfl, s1, h1, e1⟩ ⟨U, x1, x2, rfl, hU, rfl, ex1, ex2⟩
      obtain rfl := (Option.some.inj ex1).symm
      obtain ⟨z, hz, rfl⟩ := int_at ex2
      rw [List.length_map] at hi
      rw [ft_step hz] at e1
      have s2 : Same H1 (upd H1 U (.tup [.int (i : Nat), .int z])) := (Same.refl H1).new hU
      refine ⟨U, _, rfl, .inl (.inl upd_same), rfl, _, _, rfl, _, _, rfl, rfl, ?_⟩
      refine ⟨_, rfl, z, rfl, fun H3 s3 => ?_⟩
      have h3 := s3 _ _ (s2 _ _ h1)
      have s13 := s1.trans (s2.trans s3)
      refine ⟨_, rfl, _, rfl, d, _, rfl, DGet.k (k := Sum.inl z) h3, _, rfl, ?_⟩
      rw [seen_val]
      by_cases c : z ∈ ns.take i
      · rw [if_pos c] at e1 ⊢
        refine iteT ?_
        exact ⟨_, rfl, (q H3 s13).2 i z hz e1⟩
      · rw [if_neg c] at e1 ⊢
        refine iteF ?_
        refine ⟨_, rfl, _, rfl, d, _, rfl, DPut.k (k := Sum.inl z) h3 (by rw [seen_len, List.length_take]; exact sm (by omega)), ?_⟩
        rw [seen_put c, take_snoc hz]
        exact ⟨_, _, _, rfl, s13.mut hd, upd_same, e1⟩
    · rintro σ H' ⟨z1, v, k, rfl, s1, h1, e1⟩
      rw [List.length_map, List.drop_length] at e1
      exact (q H' s1).1 e1
theorem ok_taT {f fX : Addr} {fd fdX : FuncData} (F : Fun K "twice_at" "twice_at" sTwiceAt f fd) (T : Bi mg) (G : DefAt P w K mg base CX0 1 "fixed" ["value"] spFixed fX fdX) : FnOk P w K mg base CX0 2 f fd ["values"] (spTaT K) := by
  refine F.ok scTa (fun vs H Q E h => ?_) (fun cdv A outer s H vs Q E hr h => ?_)
  · obtain ⟨a, ns, rfl, _⟩ := h
    rfl
  · have hu := hu_of hr
    have nd := scTa.nd
    refine ⟨_, pss_cons (ps_set (i := 1) nd rfl (Or.inl rfl) pe_dnewK)
      (pss_cons (ps_for PassesOwn.never rfl (pi_enumT (by rfl) T.enumerate (pa_cons (pv 0) pa_nil)) (pg_tup rfl (pgs_cons (pg_name (i := 2) nd rfl (Or.inl rfl)) (pgs_cons (pg_name (i := 3) nd rfl (Or.inl rfl)) pgs_nil)))
        (pss_cons (ps_set (i := 4) nd rfl (Or.inl rfl) (pe_call G.ok hr rfl G.g G.kp G.b .nil pass0 (pa_cons (pv 3) pa_nil)))
        (pss_cons (ps_if (pt_cmp (pc_din hu (pv 4) (pv 1))) (pss_one (ps_ret (pv 2))) pss_nil)
        (pss_one (ps_dput hu (pv 1) (pv 4) pe_bl rfl)))))
      (pss_one (ps_ret pe_non))), ?_⟩
    obtain ⟨a, ns, rfl, hs, hl, q⟩ := h
    intro d hd
    refine ⟨_, rfl, a, _, rfl, ((Same.refl H).new hd).tup hs, ?_⟩
    refine for_it walk_enumT (fun i σ H' => ∃ (z1 v k : Option V), σ = [some (.ref a), some (.ref d), z1, v, k] ∧ Same H H' ∧ H' d = some (.dK (seenK (ns.take i))) ∧ ft [] ns = ft (ns.take i) (ns.drop i))
      ⟨none, none, none, rfl, (Same.refl H).new hd, upd_same, rfl⟩ (fun i σ H' _ ⟨_, _, _, _, s, _⟩ => s.tup hs) ?_ ?_
    · rintro i x σ H1 H2 hi ⟨z1, v, k, rfl, s1, h1, e1⟩ ⟨U, x1, x2, rfl, hU, rfl, ex1, ex2⟩
      obtain rfl := (Option.some.inj ex1).symm
      obtain ⟨z, hz, rfl⟩ := int_at ex2
      rw [List.length_map] at hi
      rw [ft_step hz] at e1
      have s2 : Same H1 (upd H1 U (.tup [.int (i : Nat), .int z])) := (Same.refl H1).new hU
      refine ⟨U, _, rfl, .inl (.inl upd_same), rfl, _, _, rfl, _, _, rfl, rfl, ?_⟩
      refine ⟨_, rfl, z, rfl, fun H3 s3 => ?_⟩
      have h3 := s3 _ _ (s2 _ _ h1)
      have s13 := s1.trans (s2.trans s3)
      refine ⟨_, rfl, _, rfl, d, _, rfl, DGet.k (k := Sum.inl z) h3, _, rfl, ?_⟩
      rw [seen_val]
      by_cases c : z ∈ ns.take i
      · rw [if_pos c] at e1 ⊢
        refine iteT ?_
        exact ⟨_, rfl, (q H3 s13).2 i z hz e1⟩
      · rw [if_neg c] at e1 ⊢
        refine iteF ?_
        refine ⟨_, rfl, _, rfl, d, _, rfl, DPut.k (k := Sum.inl z) h3 (by rw [seen_len, List.length_take]; exact sm (by omega)), ?_⟩
        rw [seen_put c, take_snoc hz]
        exact ⟨_, _, _, rfl, s13.mut hd, upd_same, e1⟩
    · rintro σ H' ⟨z1, v, k, rfl, s1, h1, e1⟩
      rw [List.length_map, List.drop_length] at e1
      exact (q H' s1).1 e1
def spTwL (K : PySem.W.Frag) : Sp := fun vs H Q _ => ∃ (a : Addr) (ns : List Int), vs = [.ref a] ∧ SqL K H a (ns.map V.int) ∧ ns.length ≤ 1000 ∧ ∀ H', Same H H' → Q (oV (ft [] ns)) H'
def spTwT (K : PySem.W.Frag) : Sp := fun vs H Q _ => ∃ (a : Addr) (ns : List Int), vs = [.ref a] ∧ SqT K H a (ns.map V.int) ∧ ns.length ≤ 1000 ∧ ∀ H', Same H H' → Q (oV (ft [] ns)) H'
theorem ft_mem : ∀ (xs seen : List Int) (z : Int), ft seen xs = some z → z ∈ xs
  | [], seen, z, h => by cases h
  | x :: xs, seen, z, h => by
    unfold ft at h
    by_cases c : x ∈ seen
    · rw [if_pos c] at h
      rw [Option.some.inj h]
      exact List.mem_cons_self ..
    · rw [if_neg c] at h
      exact List.mem_cons_of_mem _ (ft_mem xs _ z h)
abbrev nTw : List Str := ["values", "at"]
theorem scTw : FnScope nTw ["values"] (defScope sFirstTwice) := ⟨rfl, rfl, rfl, by decide +kernel, rfl, by decide +kernel, by decide +kernel⟩
theorem ok_twL {f fX fA : Addr} {fd fdX fdA : FuncData} (F : Fun K "first_twice" "first_twice" sFirstTwice f fd) (G : DefAt P w K mg base CX0 1 "fixed" ["value"] spFixed fX fdX) (A' : DefAt P w K mg base CX0 2 "twice_at" ["values"] (spTaL K) fA fdA) : FnOk P w K mg base CX0 3 f fd ["values"] (spTwL K) := by
  refine F.ok scTw (fun vs H Q E h => ?_) (fun cdv A outer s H vs Q E hr h => ?_)
  · obtain ⟨a, ns, rfl, _⟩ := h
    rfl
  · have nd := scTw.nd
    refine ⟨_, pss_cons (ps_set (i := 1) nd rfl (Or.inl rfl) (pe_call A'.ok hr rfl A'.g A'.kp A'.b .nil pass0 (pa_cons (pv 0) pa_nil)))
      (pss_one (ps_ret (pe_ifExp (pt_cmpR op_isN (pv 1) pe_non (nomark _)) pe_non (pe_call G.ok (hr.mono (by decide)) rfl G.g G.kp G.b .nil pass0 (pa_cons (pe_ix (r := rIxL K) ix_list (pv 0) (pv 1) (fun _ _ => rfl)) pa_nil))))), ?_⟩
    obtain ⟨a, ns, rfl, hs, hl, q⟩ := h
    refine ⟨_, rfl, a, ns, rfl, hs, hl, fun H1 s1 => ⟨fun e => ?_, fun i z hz e => ?_⟩⟩
    · have qq := q H1 s1
      rw [e] at qq
      exact ⟨_, rfl, rfl, _, rfl, iteT qq⟩
    · refine ⟨_, rfl, rfl, _, rfl, iteF ?_⟩
      refine ⟨_, rfl, _, rfl, a, _, _, _, rfl, rfl, s1.seq hs, atI_nat (by rw [List.getElem?_map, hz]; rfl), z, rfl, fun H2 s2 => ?_⟩
      have qq := q H2 (s1.trans s2)
      rw [e] at qq
      exact qq
theorem ok_twT {f fX fA : Addr} {fd fdX fdA : FuncData} (F : Fun K "first_twice" "first_twice" sFirstTwice f fd) (G : DefAt P w K mg base CX0 1 "fixed" ["value"] spFixed fX fdX) (A' : DefAt P w K mg base CX0 2 "twice_at" ["values"] (spTaT K) fA fdA) : FnOk P w K mg base CX0 3 f fd ["values"] (spTwT K) := by
  refine F.ok scTw (fun vs H Q E h => ?_) (fun cdv A outer s H vs Q E hr h => ?_)
  · obtain ⟨a, ns, rfl, _⟩ := h
    rfl
  · have nd := scTw.nd
    refine ⟨_, pss_cons (ps_set (i := 1) nd rfl (Or.inl rfl) (pe_call A'.ok hr rfl A'.g A'.kp A'.b .nil pass0 (pa_cons (pv 0) pa_nil)))
      (pss_one (ps_ret (pe_ifExp (pt_cmpR op_isN (pv 1) pe_non (nomark _)) pe_non (pe_call G.ok (hr.mono (by decide)) rfl G.g G.kp G.b .nil pass0 (pa_cons (pe_ix (r := rIxT K) ix_tup (pv 0) (pv 1) (fun _ _ => rfl)) pa_nil))))), ?_⟩
    obtain ⟨a, ns, rfl, hs, hl, q⟩ := h
    refine ⟨_, rfl, a, ns, rfl, hs, hl, fun H1 s1 => ⟨fun e => ?_, fun i z hz e => ?_⟩⟩
    · have qq := q H1 s1
      rw [e] at qq
      exact ⟨_, rfl, rfl, _, rfl, iteT qq⟩
    · refine ⟨_, rfl, rfl, _, rfl, iteF ?_⟩
      refine ⟨_, rfl, _, rfl, a, _, _, _, rfl, rfl, s1.tup hs, atI_nat (by rw [List.getElem?_map, hz]; rfl), z, rfl, fun H2 s2 => ?_⟩
      have qq := q H2 (s1.trans s2)
      rw [e] at qq
      exact qq
end
end K
namespace K
open PySem L2 Rg
open Evl (pss_cut)
section
variable {P : Program} {w : World} {K : PySem.W.Frag} {mg : Str → Option Value} {base : Heap}
/-! ### errors with one field -/
def spIni (K : PySem.W.Frag) (f : Str) : Sp := fun vs H Q _ => ∃ (a C : Addr) (v : V), vs = [.ref a, v] ∧ OexC K C ∧ PySem.W.findIn K (.ref C) f = some none ∧ H a = some (exo a C none) ∧
  ∀ d, H d = none → d ≠ a → Q .non (upd (upd H d (exd d [(f, v)])) a (exo a C (some d)))
theorem scBadLot : FnScope ["self", "part"] ["self", "part"] (defScope sBadLotInit) := ⟨rfl, rfl, rfl, by decide +kernel, rfl, by decide +kernel, by decide +kernel⟩
theorem scMissing : FnScope ["self", "value"] ["self", "value"] (defScope sMissingInit) := ⟨rfl, rfl, rfl, by decide +kernel, rfl, by decide +kernel, by decide +kernel⟩
theorem scTwice : FnScope ["self", "value"] ["self", "value"] (defScope sTwiceInit) := ⟨rfl, rfl, rfl, by decide +kernel, rfl, by decide +kernel, by decide +kernel⟩
theorem ok_badLotI {f : Addr} {fd : FuncData} (F : Fun K "__init__" "BadLot.__init__" sBadLotInit f fd) : FnOk P w K mg base CX0 1 f fd ["self", "part"] (spIni K "part") := by
  refine F.ok scBadLot (fun vs H Q E h => ?_) (fun cdv A outer s H vs Q E hr h => ?_)
  · obtain ⟨a, C, v, rfl, _⟩ := h
    rfl
  · refine ⟨_, pss_one (ps_ost (pv 0) (pv 1)), ?_⟩
    obtain ⟨a, C, v, rfl, o, n, ha, k⟩ := h
    exact ⟨_, rfl, _, rfl, a, C, rfl, o, n, .inl ⟨ha, fun d h1 h2 => k d h1 h2⟩⟩
theorem ok_missingI {f : Addr} {fd : FuncData} (F : Fun K "__init__" "Missing.__init__" sMissingInit f fd) : FnOk P w K mg base CX0 1 f fd ["self", "value"] (spIni K "value") := by
  refine F.ok scMissing (fun vs H Q E h => ?_) (fun cdv A outer s H vs Q E hr h => ?_)
  · obtain ⟨a, C, v, rfl, _⟩ := h
    rfl
  · refine ⟨_, pss_one (ps_ost (pv 0) (pv 1)), ?_⟩
    obtain ⟨a, C, v, rfl, o, n, ha, k⟩ := h
    exact ⟨_, rfl, _, rfl, a, C, rfl, o, n, .inl ⟨ha, fun d h1 h2 => k d h1 h2⟩⟩
theorem ok_twiceI {f : Addr} {fd : FuncData} (F : Fun K "__init__" "Twice.__init__" sTwiceInit f fd) : FnOk P w K mg base CX0 1 f fd ["self", "value"] (spIni K "value") := by
  refine F.ok scTwice (fun vs H Q E h => ?_) (fun cdv A outer s H vs Q E hr h => ?_)
  · obtain ⟨a, C, v, rfl, _⟩ := h
    rfl
  · refine ⟨_, pss_one (ps_ost (pv 0) (pv 1)), ?_⟩
    obtain ⟨a, C, v, rfl, o, n, ha, k⟩ := h
    exact ⟨_, rfl, _, rfl, a, C, rfl, o, n, .inl ⟨ha, fun d h1 h2 => k d h1 h2⟩⟩
/-- the class x of errors with the field f, at C, its __init__ at fI -/
structure ErrAt (P : Program) (w : World) (K : PySem.W.Frag) (mg : Str → Option Value) (base : Heap) (x f : Str) (C fI : Addr) (fdI : FuncData) : Prop where
  oex : OexC K C
  ic : PySem.W.findIn K (.ref C) "__init__" = some (some (.ref fI))
  ti : PySem.W.typeIn K (.ref fI) = some (.type "function")
  nf : PySem.W.findIn K (.ref C) f = some none
  g : mg x = some (.ref C)
  b : Binds K fdI ["self", f] []
  ok : FnOk P w K mg base CX0 1 fI fdI ["self", f] (spIni K f)
/-- an error of the class at C with the field f holding v leaves; what was tracked stands -/
def Errs (E : XK) (C : Addr) (f : Str) (v : V) (H : Hp) : Prop := ∀ (d : Addr) (H' : Hp), Same H H' → H d = none → H' d = some (.xd [(f, v)]) → E (.ref C) (some d) H'
theorem Errs.later {E : XK} {C : Addr} {f : Str} {v : V} {H H1 : Hp} (h : Errs E C f v H) (s : Same H H1) : Errs E C f v H1 := fun d H' s' n e => h d H' (s.trans s') (s.free n) e
/-- the making of such an error, as a raise asks it -/
theorem err_made {E : XK} {C : Addr} {f : Str} {v : V} {H : Hp} (o : OexC K C) (n : PySem.W.findIn K (.ref C) f = some none) (h : Errs E C f v H) :
    ([v] : List V).length ≤ 1000 ∧ ∀ a, H a = none → spIni K f (.ref a :: ([v] ++ [])) (upd H a (exo a C none))
      (fun u H2 => u = .non ∧ ∃ (d : Addr) (fs : List (Str × V)), H2 a = some (exo a C (some d)) ∧ H2 d = some (exd d fs) ∧ H d = none ∧ E (.ref C) (some d) (upd (del H2 a) d (.xd fs))) (fun _ _ _ => False) := by
  refine ⟨(by show 1 ≤ 1000; decide), fun a ha => ⟨a, C, v, rfl, o, n, upd_same, fun d hd hda => ⟨rfl, d, [(f, v)], upd_same, by rw [upd_ne hda, upd_same], ?_, ?_⟩⟩⟩
  · rw [upd_ne hda] at hd
    exact hd
  · rw [upd_ne hda] at hd
    refine h d _ (fun b u e => ?_) hd upd_same
    have hba : b ≠ a := ne_of_none e ha
    have hbd : b ≠ d := ne_of_none e hd
    rw [upd_ne hbd, del_ne hba, upd_ne hba, upd_ne hbd, upd_ne hba]
    exact e
/-! ### want_bar -/
def spWantBar (C : Addr) : Sp := fun vs H Q E => ∃ (v many : Int), vs = [.int v, .int many] ∧ ((0 ≤ v ∧ v < many ∧ ∀ H', Same H H' → Q .non H') ∨ (¬ (0 ≤ v ∧ v < many) ∧ Errs E C "value" (.int v) H))
theorem scWantBar : FnScope ["value", "many"] ["value", "many"] (defScope sWantBar) := ⟨rfl, rfl, rfl, by decide +kernel, rfl, by decide +kernel, by decide +kernel⟩
theorem ok_wantBar {f fW C fI : Addr} {fd fdW fdI : FuncData} (F : Fun K "want_bar" "want_bar" sWantBar f fd) (W : DefAt P w K mg base CX0 2 "is_within" ["value", "least", "most"] spWithin fW fdW) (B : ErrAt P w K mg base "NoBar" "value" C fI fdI) :
    FnOk P w K mg base (L2.CX P w) 3 f fd ["value", "many"] (spWantBar C) := by
  refine F.okX scWantBar (fun vs H Q E h => ?_) (fun cdv A outer s H vs Q E hr h => ?_)
  · obtain ⟨v, many, rfl, _⟩ := h
    rfl
  · refine ⟨_, pss_one (ps_if (pt_not (pt_val (pe_call W.ok hr rfl W.g W.kp W.b .nil pass0 (pa_cons (pv 0) (pa_cons pe_int (pa_cons (pe_op op_sub (pv 1) pe_int) pa_nil))))))
      (pss_one (ps_raise rfl (takes_of rfl rfl rfl rfl) (pmk_oex B.oex B.ic B.ti B.ok hr B.b .nil pass0 rfl B.g (pa_cons (pv 0) pa_nil)))) pss_nil), ?_⟩
    obtain ⟨v, many, rfl, h⟩ := h
    refine ⟨_, rfl, _, rfl, _, _, rfl, rfl, v, 0, many - 1, rfl, _, rfl, ?_⟩
    rcases h with ⟨h0, h1, q⟩ | ⟨hn, q⟩
    · refine iteBF ?_ (q H (Same.refl H))
      simp only [decide_eq_true h0, decide_eq_true (show v ≤ many - 1 by omega)]
      rfl
    · refine iteBT ?_ ?_
      · have e : (decide (0 ≤ v) && decide (v ≤ many - 1)) = false := by
          cases c : (decide (0 ≤ v) && decide (v ≤ many - 1)) with
          | false => rfl
          | true =>
            simp only [Bool.and_eq_true, decide_eq_true_eq] at c
            exact absurd ⟨c.1, by omega⟩ hn
        show (!(decide (0 ≤ v) && decide (v ≤ many - 1))) = true
        rw [e]
        rfl
      · exact ⟨_, rfl, err_made B.oex B.nf q⟩
end
end K
namespace K
open PySem L2 Rg
open Evl (pss_cut)
/-- what becomes of a lot that is passed -/
inductive Lr where
  | bad | bar (b : Int) | twice (b : Int) | ok (ns : List Int)
def isBar (many b : Int) : Bool := decide (0 ≤ b) && decide (b < many)
def res (many : Int) (ns : List Int) : Lr := match ns.find? (fun b => !isBar many b) with
  | some b => .bar b
  | none => match ft [] ns with
    | some b => .twice b
    | none => .ok ns
theorem isBar_iff {many b : Int} : isBar many b = true ↔ 0 ≤ b ∧ b < many := by
  unfold isBar
  rw [Bool.and_eq_true, decide_eq_true_eq, decide_eq_true_eq]
theorem res_bar {many b : Int} {ns : List Int} {i : Nat} (h : ∀ x ∈ ns.take i, isBar many x = true) (hb : ns[i]? = some b) (nb : ¬ isBar many b = true) : res many ns = .bar b := by
  have e : ns.find? (fun b => !isBar many b) = some b := by
    obtain ⟨hi, rfl⟩ := List.getElem?_eq_some_iff.mp hb
    have e1 : ns = ns.take i ++ ns[i] :: ns.drop (i + 1) := by rw [List.getElem_cons_drop, List.take_append_drop]
    have e2 : (ns.take i).find? (fun b => !isBar many b) = none := List.find?_eq_none.mpr fun x hx => by rw [h x hx]; decide
    have e3 : ns.find? (fun b => !isBar many b) = (ns.take i ++ ns[i] :: ns.drop (i + 1)).find? (fun b => !isBar many b) := congrArg _ e1
    rw [e3, List.find?_append, e2, List.find?_cons]
    have e4 : isBar many ns[i] = false := by
      cases q : isBar many ns[i] with
      | false => rfl
      | true => exact absurd q nb
    rw [e4]
    rfl
  unfold res
  rw [e]
theorem res_all {many : Int} {ns : List Int} (h : ∀ x ∈ ns, isBar many x = true) : res many ns = match ft [] ns with | some b => .twice b | none => .ok ns := by
  have e : ns.find? (fun b => !isBar many b) = none := List.find?_eq_none.mpr fun x hx => by rw [h x hx]; decide
  unfold res
  rw [e]
section
variable {P : Program} {w : World} {K : PySem.W.Frag} {mg : Str → Option Value} {base : Heap}
/-- where the three errors stand -/
structure Cs where
  l : Addr
  n : Addr
  t : Addr
def LotFin (E : XK) (c : Cs) (part : Str) (H : Hp) (r : Lr) (k : List Int → Prop) : Prop := match r with
  | .bad => Errs E c.l "part" (.str part) H
  | .bar b => Errs E c.n "value" (.int b) H
  | .twice b => Errs E c.t "value" (.int b) H
  | .ok ns => k ns
def spWLO (K : PySem.W.Frag) (c : Cs) : Sp := fun vs H Q E => ∃ (v : V) (k : String) (many : Int) (part : Str), vs = [v, .int many, .str part] ∧ Knd K H v k ∧ k ≠ "list" ∧ k ≠ "tuple" ∧ Errs E c.l "part" (.str part) H
def spWLL (K : PySem.W.Frag) (c : Cs) : Sp := fun vs H Q E => ∃ (a : Addr) (xs : List V) (kf : V → String) (many : Int) (part : Str), vs = [.ref a, .int many, .str part] ∧ Knd K H (.ref a) "list" ∧ SqL K H a xs ∧ xs.length ≤ 1000 ∧ (∀ x ∈ xs, Knd K H x (kf x)) ∧
  (((xs.all fun x => decide (kf x = "int")) = false ∧ Errs E c.l "part" (.str part) H) ∨
   ∃ ns, xs = ns.map V.int ∧ (xs.all fun x => decide (kf x = "int")) = true ∧ LotFin E c part H (res many ns) fun ns => ∀ (p : Addr) (ms : List Int) (H' : Hp), ms.Perm ns → Same H H' → H' p = some (.tup (ms.map V.int)) → Q (.ref p) H')
def spWLT (K : PySem.W.Frag) (c : Cs) : Sp := fun vs H Q E => ∃ (a : Addr) (ns : List Int) (many : Int) (part : Str), vs = [.ref a, .int many, .str part] ∧ Knd K H (.ref a) "tuple" ∧ SqT K H a (ns.map V.int) ∧ ns.length ≤ 1000 ∧
  LotFin E c part H (res many ns) fun ns => ∀ (p : Addr) (ms : List Int) (H' : Hp), ms.Perm ns → Same H H' → H' p = some (.tup (ms.map V.int)) → Q (.ref p) H'
abbrev nWL : List Str := ["value", "many", "part", "bar", "twice"]
theorem scWL : FnScope nWL ["value", "many", "part"] (defScope sWantLot) := ⟨rfl, rfl, rfl, by decide +kernel, rfl, by decide +kernel, by decide +kernel⟩
theorem ok_wlO {f fN fB fT : Addr} {c : Cs} {fL fTI : Addr} {fd fdN fdB fdT fdL fdTI : FuncData} (F : Fun K "want_lot" "want_lot" sWantLot f fd) (T : Bi mg) (N : DefAt P w K mg base CX0 2 "is_numbers" ["value"] (spNumsO K) fN fdN) (B : DefAt P w K mg base (L2.CX P w) 3 "want_bar" ["value", "many"] (spWantBar c.n) fB fdB)
    (Tw : DefAt P w K mg base CX0 3 "first_twice" ["values"] (spTwL K) fT fdT) (L : ErrAt P w K mg base "BadLot" "part" c.l fL fdL) (TI : ErrAt P w K mg base "Twice" "value" c.t fTI fdTI) : FnOk P w K mg base (L2.CX P w) 4 f fd ["value", "many", "part"] (spWLO K c) := by
  refine F.okX scWL (fun vs H Q E h => ?_) (fun cdv A outer s H vs Q E hr h => ?_)
  · obtain ⟨v, k, many, part, rfl, _⟩ := h
    rfl
  · have nd := scWL.nd
    have hr2 : Room 2 (A.deeper (PyProof.Rows.envOfC "want_lot" (defScope sWantLot) s.heap.objs.size f cdv)) := hr.mono (by decide)
    refine ⟨_, pss_cons (ps_if (pt_not (pt_val (pe_call N.ok hr2 rfl N.g N.kp N.b .nil pass0 (pa_cons (pv 0) pa_nil)))) (pss_one (ps_raise rfl (takes_of rfl rfl rfl rfl) (pmk_oex L.oex L.ic L.ti L.ok hr2 L.b .nil pass0 rfl L.g (pa_cons (pv 2) pa_nil)))) pss_nil) pss_never, ?_⟩
    obtain ⟨v, k, many, part, rfl, hk, k1, k2, q⟩ := h
    exact ⟨_, rfl, v, k, rfl, hk, k1, k2, fun H' s1 => ⟨_, rfl, iteT ⟨_, rfl, err_made L.oex L.nf (q.later s1)⟩⟩⟩
theorem ok_wlL {f fN fB fT : Addr} {c : Cs} {fL fTI : Addr} {fd fdN fdB fdT fdL fdTI : FuncData} (F : Fun K "want_lot" "want_lot" sWantLot f fd) (T : Bi mg) (N : DefAt P w K mg base CX0 2 "is_numbers" ["value"] (spNumsL K) fN fdN) (B : DefAt P w K mg base (L2.CX P w) 3 "want_bar" ["value", "many"] (spWantBar c.n) fB fdB)
    (Tw : DefAt P w K mg base CX0 3 "first_twice" ["values"] (spTwL K) fT fdT) (L : ErrAt P w K mg base "BadLot" "part" c.l fL fdL) (TI : ErrAt P w K mg base "Twice" "value" c.t fTI fdTI) : FnOk P w K mg base (L2.CX P w) 4 f fd ["value", "many", "part"] (spWLL K c) := by
  refine F.okX scWL (fun vs H Q E h => ?_) (fun cdv A outer s H vs Q E hr h => ?_)
  · obtain ⟨a, xs, kf, many, part, rfl, _⟩ := h
    rfl
  · have nd := scWL.nd
    have hr2 : Room 2 (A.deeper (PyProof.Rows.envOfC "want_lot" (defScope sWantLot) s.heap.objs.size f cdv)) := hr.mono (by decide)
    refine ⟨_, pss_cons (ps_if (pt_not (pt_val (pe_call N.ok hr2 rfl N.g N.kp N.b .nil pass0 (pa_cons (pv 0) pa_nil)))) (pss_one (ps_raise rfl (takes_of rfl rfl rfl rfl) (pmk_oex L.oex L.ic L.ti L.ok hr2 L.b .nil pass0 rfl L.g (pa_cons (pv 2) pa_nil)))) pss_nil)
      (pss_cons (ps_for (passes_of rfl) rfl (pi_list (pv 0)) (pg_name (i := 3) nd rfl (Or.inl rfl)) (pss_one (ps_expr (pe_call B.ok hr rfl B.g B.kp B.b .nil (passes_call (takes_of rfl rfl rfl rfl) (fun _ _ _ _ h => h)) (pa_cons (pv 3) (pa_cons (pv 1) pa_nil))))))
      (pss_cons (ps_set (i := 4) nd rfl (Or.inl rfl) (pe_call Tw.ok hr rfl Tw.g Tw.kp Tw.b .nil pass0 (pa_cons (pv 0) pa_nil)))
      (pss_cons (ps_if (pt_cmpR op_notN (pv 4) pe_non (nomark _)) (pss_one (ps_raise rfl (takes_of rfl rfl rfl rfl) (pmk_oex TI.oex TI.ic TI.ti TI.ok hr2 TI.b .nil pass0 rfl TI.g (pa_cons (pv 4) pa_nil)))) pss_nil)
      (pss_one (ps_ret (pe_callTy call_tuple_of (by rfl) T.tuple (by decide +kernel) (pa_cons (pe_callB cr_sortedI (by rfl) T.sorted (by decide +kernel) (pa_cons (pv 0) pa_nil)) pa_nil))))))), ?_⟩
    obtain ⟨a, xs, kf, many, part, rfl, hk, hs, hl, hx, q⟩ := h
    refine ⟨_, rfl, a, xs, kf, rfl, hk, hs, hl, hx, fun H1 s1 => ⟨_, rfl, ?_⟩⟩
    rcases q with ⟨e, q⟩ | ⟨ns, rfl, e, q⟩
    · rw [e]
      exact iteT ⟨_, rfl, err_made L.oex L.nf (q.later s1)⟩
    · rw [e]
      refine iteF ?_
      refine ⟨_, rfl, a, rfl, ⟨_, s1.seq hs⟩, for_list (K := K) (a := a) (xs := ns.map V.int) (fun i σ H' => ∃ (b : Option V), σ = [some (.ref a), some (.int many), some (.str part), b, none] ∧ Same H H' ∧ ∀ x ∈ ns.take i, isBar many x = true)
        ⟨none, rfl, s1, fun x hx => nomatch hx⟩ (fun i σ H' _ ⟨_, _, s, _⟩ => s.seq hs) ?_ ?_⟩
      · rintro i x σ H' hi ⟨b, rfl, s2, al⟩
        obtain ⟨z, hz, rfl⟩ := int_at hi
        refine ⟨_, rfl, _, rfl, z, many, rfl, ?_⟩
        by_cases c : isBar many z = true
        · obtain ⟨c1, c2⟩ := isBar_iff.mp c
          refine .inl ⟨c1, c2, fun H3 s3 => ⟨_, rfl, s2.trans s3, fun y hy => ?_⟩⟩
          rw [← take_snoc hz] at hy
          rcases List.mem_append.mp hy with m | m
          · exact al y m
          · rw [List.mem_singleton.mp m]
            exact c
        · refine .inr ⟨fun z => c (isBar_iff.mpr z), ?_⟩
          rw [res_bar al hz c] at q
          exact Errs.later q s2
      · rintro σ H' ⟨b, rfl, s2, al⟩
        rw [List.length_map, List.take_length] at al
        rw [res_all al] at q
        rw [List.length_map] at hl
        refine ⟨_, rfl, a, ns, rfl, s2.seq hs, hl, fun H3 s3 => ?_⟩
        have s23 := s2.trans s3
        cases e2 : ft [] ns with
        | some z =>
          rw [e2] at q
          exact ⟨_, rfl, rfl, _, rfl, iteT ⟨_, rfl, err_made TI.oex TI.nf (Errs.later q s23)⟩⟩
        | none =>
          rw [e2] at q
          refine ⟨_, rfl, rfl, _, rfl, iteF ?_⟩
          refine ⟨_, rfl, a, ns, rfl, s23.seq hs, fun ms p pm _ hp => ⟨p, _, rfl, .inl ⟨SqL.of upd_same, fun t ht => ?_⟩⟩⟩
          exact q t ms _ pm ((s23.new hp).new ht) upd_same
theorem ok_wlT {f fN fB fT : Addr} {c : Cs} {fL fTI : Addr} {fd fdN fdB fdT fdL fdTI : FuncData} (F : Fun K "want_lot" "want_lot" sWantLot f fd) (T : Bi mg) (N : DefAt P w K mg base CX0 2 "is_numbers" ["value"] (spNumsT K) fN fdN) (B : DefAt P w K mg base (L2.CX P w) 3 "want_bar" ["value", "many"] (spWantBar c.n) fB fdB)
    (Tw : DefAt P w K mg base CX0 3 "first_twice" ["values"] (spTwT K) fT fdT) (L : ErrAt P w K mg base "BadLot" "part" c.l fL fdL) (TI : ErrAt P w K mg base "Twice" "value" c.t fTI fdTI) : FnOk P w K mg base (L2.CX P w) 4 f fd ["value", "many", "part"] (spWLT K c) := by
  refine F.okX scWL (fun vs H Q E h => ?_) (fun cdv A outer s H vs Q E hr h => ?_)
  · obtain ⟨a, ns, many, part, rfl, _⟩ := h
    rfl
  · have nd := scWL.nd
    have hr2 : Room 2 (A.deeper (PyProof.Rows.envOfC "want_lot" (defScope sWantLot) s.heap.objs.size f cdv)) := hr.mono (by decide)
    refine ⟨_, pss_cons (ps_if (pt_not (pt_val (pe_call N.ok hr2 rfl N.g N.kp N.b .nil pass0 (pa_cons (pv 0) pa_nil)))) (pss_one (ps_raise rfl (takes_of rfl rfl rfl rfl) (pmk_oex L.oex L.ic L.ti L.ok hr2 L.b .nil pass0 rfl L.g (pa_cons (pv 2) pa_nil)))) pss_nil)
      (pss_cons (ps_for (passes_of rfl) rfl (pi_tup (pv 0)) (pg_name (i := 3) nd rfl (Or.inl rfl)) (pss_one (ps_expr (pe_call B.ok hr rfl B.g B.kp B.b .nil (passes_call (takes_of rfl rfl rfl rfl) (fun _ _ _ _ h => h)) (pa_cons (pv 3) (pa_cons (pv 1) pa_nil))))))
      (pss_cons (ps_set (i := 4) nd rfl (Or.inl rfl) (pe_call Tw.ok hr rfl Tw.g Tw.kp Tw.b .nil pass0 (pa_cons (pv 0) pa_nil)))
      (pss_cons (ps_if (pt_cmpR op_notN (pv 4) pe_non (nomark _)) (pss_one (ps_raise rfl (takes_of rfl rfl rfl rfl) (pmk_oex TI.oex TI.ic TI.ti TI.ok hr2 TI.b .nil pass0 rfl TI.g (pa_cons (pv 4) pa_nil)))) pss_nil)
      (pss_one (ps_ret (pe_callTy call_tuple_of (by rfl) T.tuple (by decide +kernel) (pa_cons (pe_callB cr_sortedT (by rfl) T.sorted (by decide +kernel) (pa_cons (pv 0) pa_nil)) pa_nil))))))), ?_⟩
    obtain ⟨a, ns, many, part, rfl, hk, hs, hl, q⟩ := h
    refine ⟨_, rfl, a, _, (fun _ => "int"), rfl, hk, hs, (by rw [List.length_map]; exact hl), (fun x hx => ?_), fun H1 s1 => ⟨_, rfl, ?_⟩⟩
    · obtain ⟨z, _, rfl⟩ := List.mem_map.mp hx
      exact Knd.int
    · have e : ((ns.map V.int).all fun x => decide (("int" : String) = "int")) = true := List.all_eq_true.mpr fun _ _ => rfl
      rw [e]
      refine iteF ?_
      refine ⟨_, rfl, a, rfl, ⟨_, s1.tup hs⟩, for_tup (K := K) (a := a) (xs := ns.map V.int) (fun i σ H' => ∃ (b : Option V), σ = [some (.ref a), some (.int many), some (.str part), b, none] ∧ Same H H' ∧ ∀ x ∈ ns.take i, isBar many x = true)
        ⟨none, rfl, s1, fun x hx => nomatch hx⟩ (fun i σ H' _ ⟨_, _, s, _⟩ => s.tup hs) ?_ ?_⟩
      · rintro i x σ H' hi ⟨b, rfl, s2, al⟩
        obtain ⟨z, hz, rfl⟩ := int_at hi
        refine ⟨_, rfl, _, rfl, z, many, rfl, ?_⟩
        by_cases c : isBar many z = true
        · obtain ⟨c1, c2⟩ := isBar_iff.mp c
          refine .inl ⟨c1, c2, fun H3 s3 => ⟨_, rfl, s2.trans s3, fun y hy => ?_⟩⟩
          rw [← take_snoc hz] at hy
          rcases List.mem_append.mp hy with m | m
          · exact al y m
          · rw [List.mem_singleton.mp m]
            exact c
        · refine .inr ⟨fun z => c (isBar_iff.mpr z), ?_⟩
          rw [res_bar al hz c] at q
          exact Errs.later q s2
      · rintro σ H' ⟨b, rfl, s2, al⟩
        rw [List.length_map, List.take_length] at al
        rw [res_all al] at q
        refine ⟨_, rfl, a, ns, rfl, s2.tup hs, hl, fun H3 s3 => ?_⟩
        have s23 := s2.trans s3
        cases e2 : ft [] ns with
        | some z =>
          rw [e2] at q
          exact ⟨_, rfl, rfl, _, rfl, iteT ⟨_, rfl, err_made TI.oex TI.nf (Errs.later q s23)⟩⟩
        | none =>
          rw [e2] at q
          refine ⟨_, rfl, rfl, _, rfl, iteF ?_⟩
          refine ⟨_, rfl, a, ns, rfl, s23.tup hs, fun ms p pm _ hp => ⟨p, _, rfl, .inl ⟨SqL.of upd_same, fun t ht => ?_⟩⟩⟩
          exact q t ms _ pm ((s23.new hp).new ht) upd_same
end
end K
namespace K
open PySem L2 Rg
open Evl (pss_cut)
/-! ### what a ring tells -/
def sumsOf (ls : List Int) : List Int := ls.foldl (fun s l => s ++ s.map (· + l)) [0]
def levelB (ls : List Int) : Bool := (sumsOf ls).any fun o => decide (2 * o = ls.sum)
def closesB (ls : List Int) : Bool := ls.all fun x => decide (2 * x ≤ ls.sum)
def lsum (ls ns : List Int) : Int := (ns.map fun b => ls.getD b.toNat 0).sum
def sortV (ls ns : List Int) : Str := if 2 * lsum ls ns = ls.sum then "level" else if 2 * lsum ls ns < ls.sum then "short" else "long"
theorem sums_take {ls : List Int} {i : Nat} {z : Int} (h : ls[i]? = some z) : sumsOf (ls.take (i + 1)) = sumsOf (ls.take i) ++ (sumsOf (ls.take i)).map (· + z) := by
  unfold sumsOf
  rw [← take_snoc h, List.foldl_append]
  rfl
theorem sums_len : ∀ (ls : List Int) (i : Nat), i ≤ ls.length → (sumsOf (ls.take i)).length = 2 ^ i
  | ls, 0, _ => rfl
  | ls, i + 1, h => by
    have hz : ls[i]? = some ls[i] := List.getElem?_eq_getElem h
    rw [sums_take hz, List.length_append, List.length_map, sums_len ls i (by omega), Nat.pow_succ]
    omega
theorem closes_max {ls : List Int} {m : Int} (hm : m ∈ ls) (hx : ∀ y ∈ ls, y ≤ m) : decide (2 * m ≤ ls.sum) = closesB ls := by
  unfold closesB
  by_cases c : 2 * m ≤ ls.sum
  · rw [decide_eq_true c]
    refine (List.all_eq_true.mpr fun y hy => decide_eq_true ?_).symm
    have := hx y hy
    omega
  · rw [decide_eq_false c]
    cases e : ls.all fun x => decide (2 * x ≤ ls.sum) with
    | false => rfl
    | true => exact absurd (of_decide_eq_true (List.all_eq_true.mp e m hm)) c
theorem dec_int (a b : Int) : decide (V.int a = V.int b) = decide (a = b) := by
  by_cases e : a = b
  · rw [e]; simp
  · rw [decide_eq_false e, decide_eq_false fun z => e (V.int.inj z)]
theorem all_any (l : List Int) (g : Int → Bool) : (l.map g).any id = l.any g := by
  rw [List.any_map]; rfl
/-- the attributes of a ring, in the order in which __init__ stores them -/
def rf (t : Addr) (ls : List Int) : List (Str × V) := putF "is_clear" (.bl (!levelB ls)) (putF "closes" (.bl (closesB ls)) (putF "total" (.int ls.sum) (putF "lengths" (.ref t) [])))
theorem n1 : ¬ (("lengths" : Str) = "total") := by decide +kernel
theorem n2 : ¬ (("lengths" : Str) = "closes") := by decide +kernel
theorem n3 : ¬ (("lengths" : Str) = "is_clear") := by decide +kernel
theorem n4 : ¬ (("total" : Str) = "closes") := by decide +kernel
theorem n5 : ¬ (("total" : Str) = "is_clear") := by decide +kernel
theorem n6 : ¬ (("closes" : Str) = "is_clear") := by decide +kernel
theorem rf_lengths (t : Addr) (ls : List Int) : (rf t ls).lookup ("lengths" : Str) = some (.ref t) := by
  unfold rf
  rw [lookup_putF, if_neg n3, lookup_putF, if_neg n2, lookup_putF, if_neg n1, lookup_putF, if_pos rfl]
theorem rf_total (t : Addr) (ls : List Int) : (rf t ls).lookup ("total" : Str) = some (.int ls.sum) := by
  unfold rf
  rw [lookup_putF, if_neg n5, lookup_putF, if_neg n4, lookup_putF, if_pos rfl]
theorem rf_closes (t : Addr) (ls : List Int) : (rf t ls).lookup ("closes" : Str) = some (.bl (closesB ls)) := by
  unfold rf
  rw [lookup_putF, if_neg n6, lookup_putF, if_pos rfl]
theorem rf_clear (t : Addr) (ls : List Int) : (rf t ls).lookup ("is_clear" : Str) = some (.bl (!levelB ls)) := by
  unfold rf
  rw [lookup_putF, if_pos rfl]
theorem rf_no (t : Addr) (ls : List Int) {m : Str} (h1 : ¬ m = "lengths") (h2 : ¬ m = "total") (h3 : ¬ m = "closes") (h4 : ¬ m = "is_clear") : (rf t ls).lookup m = none := by
  unfold rf
  rw [lookup_putF, if_neg h4, lookup_putF, if_neg h3, lookup_putF, if_neg h2, lookup_putF, if_neg h1]
  rfl
section
variable {P : Program} {w : World} {K : PySem.W.Frag} {mg : Str → Option Value} {base : Heap}
def RingAt (K : PySem.W.Frag) (C : Addr) (H : Hp) (r : Addr) (ls : List Int) : Prop := ∃ dx t, H r = some (.ins C dx (rf t ls)) ∧ SqT K H t (ls.map V.int) ∧ ∃ o : Obj, H t = some (.frz o (.tup (ls.map V.int))) ∧ o.dict = none
theorem RingAt.same {C : Addr} {H H' : Hp} {r : Addr} {ls : List Int} (h : RingAt K C H r ls) (s : Same H H') : RingAt K C H' r ls := by
  obtain ⟨dx, t, h1, h2, o, h3, h4⟩ := h
  exact ⟨dx, t, s _ _ h1, s.tup h2, o, s _ _ h3, h4⟩
/-- the class Ring as the top has made it -/
structure RingC (K : PySem.W.Frag) (mg : Str → Option Value) (C : Addr) : Prop where
  cl : Cls K C
  nL : NoAttr K C "lengths"
  nT : NoAttr K C "total"
  nC : NoAttr K C "closes"
  nI : NoAttr K C "is_clear"
  g : mg "Ring" = some (.ref C)
  ha : PySem.W.findIn K (.ref C) "__class__" = some (some (.builtin "object.__class__"))
  hn : PySem.W.specialIn K (.builtin "object.__class__") "__get__" = some (some (.builtin "getset_descriptor.__get__"))
  ht : PySem.W.takesIn K (.builtin "object.__class__") = some true
  hm : PySem.W.mroIn K C (.type "object") = some true
structure Nm (mg : Str → Option Value) : Prop where
  mostL : ∃ t, mg "MOST_LENGTH" = some (.int 1000000 t)
  leastB : ∃ t, mg "LEAST_BARS" = some (.int 3 t)
  mostB : ∃ t, mg "MOST_BARS" = some (.int 8 t)
/-! ### are_lengths -/
def spAreL (K : PySem.W.Frag) : Sp := fun vs H Q _ => ∃ (a : Addr) (ls : List Int), vs = [.ref a] ∧ Knd K H (.ref a) "list" ∧ SqL K H a (ls.map V.int) ∧ ls.length ≤ 1000 ∧ Bd 1000000 ls ∧ ∀ H', Same H H' → Q (.bl true) H'
abbrev nAreL : List Str := ["value", "one"]
theorem scAreL : FnScope nAreL ["value"] (defScope sAreLengths) := ⟨rfl, rfl, rfl, by decide +kernel, rfl, by decide +kernel, by decide +kernel⟩
theorem all_true {bs : List Bool} (h : ∀ b ∈ bs, b = true) : bs.all id = true := List.all_eq_true.mpr fun b hb => h b hb
theorem ok_areL {f fW fL : Addr} {fd fdW fdL : FuncData} (F : Fun K "are_lengths" "are_lengths" sAreLengths f fd) (T : Bi mg) (N : Nm mg) (W : DefAt P w K mg base CX0 2 "is_within" ["value", "least", "most"] spWithin fW fdW) (L : DefAt P w K mg base CX0 1 "is_list" ["value"] (spIsList K) fL fdL) : FnOk P w K mg base CX0 3 f fd ["value"] (spAreL K) := by
  refine F.ok scAreL (fun vs H Q E h => ?_) (fun cdv A outer s H vs Q E hr h => ?_)
  · obtain ⟨a, ls, rfl, _⟩ := h
    rfl
  · obtain ⟨tM, hM⟩ := N.mostL
    refine ⟨_, pss_one (ps_ret (pe_and (pe_call L.ok (hr.mono (by decide)) rfl L.g L.kp L.b .nil pass0 (pa_cons (pv 0) pa_nil)) (pe_one (pe_callB (cr_all rfl) (by rfl) T.all (by decide +kernel) (pa_cons (pe_lc (own := [("one", 1)]) (g := gName 1) (tt := tYes) rfl scAreL.nd (pi_list (pv 0))
      (blkOk_by (N := nAreL) (sc := defScope sAreLengths) (by decide +kernel)) (fun _ _ _ _ _ => pg_name (i := 1) scAreL.nd rfl (Or.inl rfl)) (fun _ _ _ _ _ => pts_nil) (fun _ _ _ _ _ => pe_call W.ok hr rfl W.g W.kp W.b .nil pass0 (pa_cons (pv 1) (pa_cons pe_int (pa_cons (pe_glob (v := .int 1000000) rfl hM ⟨_, rfl⟩) pa_nil))))) pa_nil))))), ?_⟩
    obtain ⟨a, ls, rfl, hk, hs, hl, hb, q⟩ := h
    refine ⟨_, rfl, _, "list", rfl, hk, fun H1 s1 => ⟨_, rfl, iteDT (.inl rfl) ?_⟩⟩
    refine ⟨_, rfl, a, rfl, ⟨_, s1.seq hs⟩, fun D hD => ?_⟩
    have hD0 := s1.free hD
    refine lc_list (K := K) (a := a) (xs := ls.map V.int) (fun i H' => Same H H' ∧ ∃ bs : List Bool, (∀ b ∈ bs, b = true) ∧ bs.length ≤ i ∧ H' D = some (.lst (bs.map V.bl))) ⟨s1.new hD, [], (fun b hb => nomatch hb), Nat.le_refl _, upd_same⟩ (fun i H' _ p => p.1.seq hs) ?_ ?_
    · rintro i x H' hi ⟨s2, bs, h1, h2, h3⟩
      obtain ⟨z, hz, rfl⟩ := int_at hi
      have hil : i < ls.length := (List.getElem?_eq_some_iff.mp hz).1
      have hzb := hb z (List.mem_of_getElem? hz)
      refine ⟨rfl, _, rfl, z, 1, 1000000, rfl, _, h3, (by rw [List.length_map]; exact sm (by omega)), s2.mut hD0, bs ++ [true], fun b hb => ?_, by rw [List.length_append, List.length_singleton]; omega, ?_⟩
      · rcases List.mem_append.mp hb with m | m
        · exact h1 b m
        · exact List.mem_singleton.mp m
      · rw [upd_same, List.map_append, decide_eq_true hzb.1, decide_eq_true hzb.2]
        rfl
    · rintro H' ⟨s2, bs, h1, h2, h3⟩
      refine ⟨D, bs, rfl, SqL.of h3, ?_⟩
      rw [all_true h1]
      exact q H' s2
/-! ### has_level -/
def spHasL (K : PySem.W.Frag) : Sp := fun vs H Q _ => ∃ (t : Addr) (ls : List Int), vs = [.ref t] ∧ SqT K H t (ls.map V.int) ∧ ls.length ≤ 8 ∧ ∀ H', Same H H' → Q (.bl (levelB ls)) H'
abbrev nHasL : List Str := ["lengths", "sums", "length", "one"]
theorem scHasL : FnScope nHasL ["lengths"] (defScope sHasLevel) := ⟨rfl, rfl, rfl, by decide +kernel, rfl, by decide +kernel, by decide +kernel⟩
theorem ok_hasL {f : Addr} {fd : FuncData} (F : Fun K "has_level" "has_level" sHasLevel f fd) (T : Bi mg) : FnOk P w K mg base CX0 2 f fd ["lengths"] (spHasL K) := by
  refine F.ok scHasL (fun vs H Q E h => ?_) (fun cdv A outer s H vs Q E hr h => ?_)
  · obtain ⟨a, ls, rfl, _⟩ := h
    rfl
  · have nd := scHasL.nd
    refine ⟨_, pss_cons (ps_set (i := 1) nd rfl (Or.inl rfl) (pe_lst (pa_cons pe_int pa_nil)))
      (pss_cons (ps_for PassesOwn.never rfl (pi_tup (pv 0)) (pg_name (i := 2) nd rfl (Or.inr rfl)) (pss_one (ps_set (i := 1) nd rfl (Or.inl rfl) (pe_op op_cat (pv 1) (pe_lc (own := [("one", 3)]) (g := gName 3) (tt := tYes) rfl nd (pi_list (pv 1))
        (blkOk_by (N := nHasL) (sc := defScope sHasLevel) (by decide +kernel)) (fun _ _ _ _ _ => pg_name (i := 3) nd rfl (Or.inl rfl)) (fun _ _ _ _ _ => pts_nil) (fun _ _ _ _ _ => pe_op op_add (pv 3) (pv 2)))))))
      (pss_one (ps_ret (pe_callB (cr_any rfl) (by rfl) T.any (by decide +kernel) (pa_cons (pe_lc (own := [("one", 3)]) (g := gName 3) (tt := tYes) rfl nd (pi_list (pv 1))
        (blkOk_by (N := nHasL) (sc := defScope sHasLevel) (by decide +kernel)) (fun _ _ _ _ _ => pg_name (i := 3) nd rfl (Or.inl rfl)) (fun _ _ _ _ _ => pts_nil) (fun _ _ _ _ _ => pe_cmpR op_eq (pe_op op_mul pe_int (pv 3)) (pe_callB (r := rSumT K) (cr_sumT (by rfl)) (by rfl) T.sum (by decide +kernel) (pa_cons (pv 0) pa_nil)) (nomark _))) pa_nil))))), ?_⟩
    obtain ⟨t, ls, rfl, hs, hl, q⟩ := h
    refine ⟨(by show 1 ≤ sizeLine; decide), fun l0 hl0 => ?_⟩
    have s0 : Same H (upd H l0 (.lst [.int 0])) := (Same.refl H).new hl0
    have pw : ∀ i, i ≤ ls.length → (sumsOf (ls.take i)).length ≤ 256 := fun i hi => by
      rw [sums_len ls i hi]
      exact Nat.pow_le_pow_right (by decide) (show i ≤ 8 by omega)
    refine ⟨_, rfl, t, rfl, ⟨_, s0.tup hs⟩, for_tup (K := K) (a := t) (xs := ls.map V.int) (fun i σ H' => ∃ (l : Addr) (z : Option V), σ = [some (.ref t), some (.ref l), z, none] ∧ Same H H' ∧ H' l = some (.lst ((sumsOf (ls.take i)).map V.int)))
      ⟨l0, none, rfl, s0, upd_same⟩ (fun i σ H' _ ⟨_, _, _, s, _⟩ => s.tup hs) ?_ ?_⟩
    · rintro i x σ H' hi ⟨l, z, rfl, s1, h1⟩
      obtain ⟨z, hz, rfl⟩ := int_at hi
      have hil : i < ls.length := (List.getElem?_eq_some_iff.mp hz).1
      have p1 := pw i (by omega)
      refine ⟨_, rfl, _, rfl, l, rfl, ⟨_, SqL.of h1⟩, fun D hD => ?_⟩
      have hlD : l ≠ D := ne_of_none h1 hD
      refine lc_list (K := K) (a := l) (xs := (sumsOf (ls.take i)).map V.int) (fun j H2 => Same H' H2 ∧ H2 D = some (.lst ((((sumsOf (ls.take i)).take j).map (· + z)).map V.int))) ⟨(Same.refl H').new hD, upd_same⟩ (fun j H2 _ p => p.1.seq (SqL.of h1)) ?_ ?_
      · rintro j y H2 hj ⟨s2, h2⟩
        obtain ⟨o, ho, rfl⟩ := int_at hj
        refine ⟨rfl, _, rfl, _, rfl, _, _, rfl, rfl, _, h2, (by rw [List.length_map, List.length_map, List.length_take]; exact sm (by omega)), s2.mut hD, ?_⟩
        rw [upd_same, ← take_snoc ho, List.map_append, List.map_append]
        rfl
      · rintro H2 ⟨s2, h2⟩
        rw [List.length_map, List.take_length] at h2
        refine ⟨l, D, _, _, rfl, rfl, s2 _ _ h1, h2, (by rw [List.length_map, List.length_map, List.length_map]; exact Nat.le_of_lt (sm (by omega))), fun p hp => ⟨p, _, rfl, (s1.trans s2).new hp, ?_⟩⟩
        rw [upd_same, sums_take hz, List.map_append]
    · rintro σ H' ⟨l, z, rfl, s1, h1⟩
      rw [List.length_map, List.take_length] at h1
      have p1 := pw ls.length (Nat.le_refl _)
      rw [List.take_length] at p1
      refine ⟨_, rfl, l, rfl, ⟨_, SqL.of h1⟩, fun D hD => ?_⟩
      refine lc_list (K := K) (a := l) (xs := (sumsOf ls).map V.int) (fun j H2 => Same H' H2 ∧ H2 D = some (.lst ((((sumsOf ls).take j).map fun o => decide (2 * o = ls.sum)).map V.bl))) ⟨(Same.refl H').new hD, upd_same⟩ (fun j H2 _ p => p.1.seq (SqL.of h1)) ?_ ?_
      · rintro j y H2 hj ⟨s2, h2⟩
        obtain ⟨o, ho, rfl⟩ := int_at hj
        refine ⟨rfl, _, rfl, _, _, rfl, rfl, .inl ⟨by decide, by decide⟩, _, rfl, t, ls, rfl, (s1.trans s2).tup hs, rfl, _, h2, (by rw [List.length_map, List.length_map, List.length_take]; exact sm (by omega)), s2.mut hD, ?_⟩
        rw [upd_same, ← take_snoc ho, List.map_append, List.map_append, dec_int]
        rfl
      · rintro H2 ⟨s2, h2⟩
        rw [List.length_map, List.take_length] at h2
        refine ⟨D, _, rfl, SqL.of h2, ?_⟩
        rw [all_any]
        exact q H2 (s1.trans s2)
/-! ### Ring.__init__ -/
def spRI (K : PySem.W.Frag) (C : Addr) : Sp := fun vs H Q _ => ∃ (r l dx : Addr) (ls : List Int), vs = [.ref r, .ref l] ∧ H r = some (.ins C dx []) ∧ Knd K H (.ref l) "list" ∧ SqL K H l (ls.map V.int) ∧ 3 ≤ ls.length ∧ ls.length ≤ 8 ∧ Bd 1000000 ls ∧
  ∀ H', RingAt K C H' r ls → (∀ b o, H b = some o → b ≠ r → H' b = some o) → Q .non H'
theorem scRI : FnScope ["self", "lengths"] ["self", "lengths"] (defScope sRingInit) := ⟨rfl, rfl, rfl, by decide +kernel, rfl, by decide +kernel, by decide +kernel⟩
theorem ok_ri {C f fA fH : Addr} {fd fdA fdH : FuncData} (F : Fun K "__init__" "Ring.__init__" sRingInit f fd) (T : Bi mg) (N : Nm mg) (R : RingC K mg C) (A' : DefAt P w K mg base CX0 3 "are_lengths" ["value"] (spAreL K) fA fdA) (L : DefAt P w K mg base CX0 2 "has_level" ["lengths"] (spHasL K) fH fdH) : FnOk P w K mg base CX0 4 f fd ["self", "lengths"] (spRI K C) := by
  refine F.ok scRI (fun vs H Q E h => ?_) (fun cdv A outer s H vs Q E hr h => ?_)
  · obtain ⟨r, l, dx, ls, rfl, _⟩ := h
    rfl
  · obtain ⟨t3, h3⟩ := N.leastB
    obtain ⟨t8, h8⟩ := N.mostB
    refine ⟨_, pss_cons (ps_if (pt_not (pt_val (pe_call A'.ok hr rfl A'.g A'.kp A'.b .nil pass0 (pa_cons (pv 1) pa_nil)))) (pss_one ps_never) pss_nil)
      (pss_cons (ps_if (pt_cmpR op_lt (pe_callB call_len_seq (by rfl) T.len PySem.boot_len (pa_cons (pv 1) pa_nil)) (pe_glob (v := .int 3) rfl h3 ⟨_, rfl⟩) (nomark _)) (pss_one ps_never) pss_nil)
      (pss_cons (ps_if (pt_cmpR op_gt (pe_callB call_len_seq (by rfl) T.len PySem.boot_len (pa_cons (pv 1) pa_nil)) (pe_glob (v := .int 8) rfl h8 ⟨_, rfl⟩) (nomark _)) (pss_one ps_never) pss_nil)
      (pss_cons (ps_fld (pv 0) (pe_callTy cr_tupF (by rfl) T.tuple (by decide +kernel) (pa_cons (pv 1) pa_nil)) rfl)
      (pss_cons (ps_fld (pv 0) (pe_callB (cr_sumT rfl) (by rfl) T.sum (by decide +kernel) (pa_cons (pe_fld (pv 0) rfl) pa_nil)) rfl)
      (pss_cons (ps_fld (pv 0) (pe_cmpR op_le (pe_op op_mul pe_int (pe_callB (cr_maxT rfl) (by rfl) T.max (by decide +kernel) (pa_cons (pe_fld (pv 0) rfl) pa_nil))) (pe_fld (pv 0) rfl) (nomark _)) rfl)
      (pss_one (ps_fld (pv 0) (pe_not (pe_call L.ok (hr.mono (by decide)) rfl L.g L.kp L.b .nil pass0 (pa_cons (pe_fld (pv 0) rfl) pa_nil))) rfl))))))), ?_⟩
    obtain ⟨r, l, dx, ls, rfl, hr0, hk, hs, l3, l8, hb, q⟩ := h
    refine ⟨_, rfl, l, ls, rfl, hk, hs, by omega, hb, fun H1 s1 => ⟨_, rfl, iteF ?_⟩⟩
    refine ⟨_, rfl, l, _, rfl, .inl (s1.seq hs), _, _, rfl, rfl, _, rfl, iteDF (by rw [List.length_map]; omega) ?_⟩
    refine ⟨_, rfl, l, _, rfl, .inl (s1.seq hs), _, _, rfl, rfl, _, rfl, iteDF (by rw [List.length_map]; omega) ?_⟩
    have hr1 := s1 _ _ hr0
    refine ⟨_, rfl, l, _, rfl, s1.seq hs, fun t o ht hd => ?_⟩
    have nrt : r ≠ t := ne_of_none hr1 ht
    have ht0 := s1.free ht
    have tup0 : ∀ u, upd (upd H1 t (.frz o (.tup (ls.map V.int)))) r u t = some (.frz o (.tup (ls.map V.int))) := fun u => by rw [upd_ne nrt.symm, upd_same]
    refine ⟨_, rfl, r, C, dx, [], rfl, (by rw [upd_ne nrt]; exact hr1), R.cl, R.nL, (by show 0 < 1000; decide), ?_⟩
    -- self.total
    refine ⟨_, rfl, r, C, dx, _, _, rfl, upd_same, R.cl, R.nL, (by rw [lookup_putF, if_pos rfl]), t, ls, rfl, .inl (.inr ⟨o, tup0 _⟩), _, rfl, r, C, dx, _, rfl, upd_same, R.cl, R.nT, (by show 1 < 1000; decide), ?_⟩
    rw [upd_upd]
    -- self.closes
    refine ⟨_, rfl, r, C, dx, _, _, rfl, upd_same, R.cl, R.nL, (by rw [lookup_putF, if_neg n1, lookup_putF, if_pos rfl]), t, ls, rfl, .inl (.inr ⟨o, tup0 _⟩), by omega, fun m hm hx => ?_⟩
    refine ⟨_, _, rfl, rfl, .inl ⟨by decide, by decide⟩, _, rfl, r, C, dx, _, _, rfl, upd_same, R.cl, R.nT, (by rw [lookup_putF, if_pos rfl]), _, _, rfl, rfl, _, rfl, r, C, dx, _, rfl, upd_same, R.cl, R.nC, ?_, ?_⟩
    · have e1 := length_putF "total" (V.int ls.sum) (putF "lengths" (V.ref t) [])
      have e2 := length_putF "lengths" (V.ref t) []
      simp only [List.length_nil] at e2
      omega
    dsimp only
    rw [upd_upd, closes_max hm hx]
    -- self.is_clear
    refine ⟨_, rfl, r, C, dx, _, _, rfl, upd_same, R.cl, R.nL, (by rw [lookup_putF, if_neg n2, lookup_putF, if_neg n1, lookup_putF, if_pos rfl]), t, ls, rfl, .inl (.inr ⟨o, tup0 _⟩), l8, fun H5 s5 => ⟨_, rfl, _, rfl, r, C, dx, _, rfl, s5 _ _ upd_same, R.cl, R.nI, ?_, ?_⟩⟩
    · have e1 := length_putF "total" (V.int ls.sum) (putF "lengths" (V.ref t) [])
      have e2 := length_putF "lengths" (V.ref t) []
      have e3 := length_putF "closes" (V.bl (closesB ls)) (putF "total" (V.int ls.sum) (putF "lengths" (V.ref t) []))
      simp only [List.length_nil] at e2
      omega
    · have tf := s5 _ _ (tup0 _)
      refine q _ ⟨dx, t, upd_same, .inl (.inr ⟨o, by rw [upd_ne nrt.symm]; exact tf⟩), o, by rw [upd_ne nrt.symm]; exact tf, hd⟩ fun b o e hbr => ?_
      rw [upd_ne hbr]
      refine s5 _ _ ?_
      rw [upd_ne hbr, upd_ne (ne_of_none (s1 _ _ e) ht)]
      exact s1 _ _ e
end
end K
namespace K
open PySem L2 Rg
open Evl (pss_cut)
theorem perm_sum {a b : List Int} (h : a.Perm b) : a.sum = b.sum := by
  induction h with
  | nil => rfl
  | cons x _ ih => rw [List.sum_cons, List.sum_cons, ih]
  | swap x y l => simp only [List.sum_cons]; omega
  | trans _ _ ih1 ih2 => exact ih1.trans ih2
theorem lsum_perm {ls a b : List Int} (h : a.Perm b) : lsum ls a = lsum ls b := perm_sum (h.map _)
section
variable {P : Program} {w : World} {K : PySem.W.Frag} {mg : Str → Option Value} {base : Heap}
/-- a value passed for a lot of a ring of many bars: what becomes of it, k of what it is if it is one -/
def LotV (K : PySem.W.Frag) (H : Hp) (E : XK) (c : Cs) (many : Int) (part : Str) (v : V) (k : List Int → Prop) : Prop :=
  (∃ kd, Knd K H v kd ∧ kd ≠ "list" ∧ kd ≠ "tuple" ∧ Errs E c.l "part" (.str part) H) ∨
  (∃ (a : Addr) (xs : List V) (kf : V → String), v = .ref a ∧ Knd K H (.ref a) "list" ∧ SqL K H a xs ∧ xs.length ≤ 1000 ∧ (∀ x ∈ xs, Knd K H x (kf x)) ∧
    (((xs.all fun x => decide (kf x = "int")) = false ∧ Errs E c.l "part" (.str part) H) ∨ ∃ ns, xs = ns.map V.int ∧ (xs.all fun x => decide (kf x = "int")) = true ∧ LotFin E c part H (res many ns) k)) ∨
  (∃ (a : Addr) (ns : List Int), v = .ref a ∧ Knd K H (.ref a) "tuple" ∧ SqT K H a (ns.map V.int) ∧ ns.length ≤ 1000 ∧ LotFin E c part H (res many ns) k)
theorem LotFin.imp {E : XK} {c : Cs} {part : Str} {H : Hp} {r : Lr} {k k' : List Int → Prop} (h : LotFin E c part H r k) (i : ∀ ns, k ns → k' ns) : LotFin E c part H r k' := by
  cases r with
  | bad => exact h
  | bar b => exact h
  | twice b => exact h
  | ok ns => exact i ns h
theorem LotV.imp {H : Hp} {E : XK} {c : Cs} {many : Int} {part : Str} {v : V} {k k' : List Int → Prop} (h : LotV K H E c many part v k) (i : ∀ ns, k ns → k' ns) : LotV K H E c many part v k' := by
  rcases h with h | ⟨a, xs, kf, e, h1, h2, h3, h4, h⟩ | ⟨a, ns, e, h1, h2, h3, h4⟩
  · exact .inl h
  · refine .inr (.inl ⟨a, xs, kf, e, h1, h2, h3, h4, ?_⟩)
    rcases h with h | ⟨ns, q1, q2, q3⟩
    · exact .inl h
    · exact .inr ⟨ns, q1, q2, q3.imp i⟩
  · exact .inr (.inr ⟨a, ns, e, h1, h2, h3, h4.imp i⟩)
def spWL (K : PySem.W.Frag) (c : Cs) : Sp := fun vs H Q E => ∃ (v : V) (many : Int) (part : Str), vs = [v, .int many, .str part] ∧ LotV K H E c many part v fun ns => ∀ (p : Addr) (ms : List Int) (H' : Hp), ms.Perm ns → Same H H' → H' p = some (.tup (ms.map V.int)) → Q (.ref p) H'
theorem ok_wl {CX : CXT} {k : Nat} {f : Addr} {fd : FuncData} {ps : List Str} {c : Cs} (F1 : FnOk P w K mg base CX k f fd ps (spWLO K c)) (F2 : FnOk P w K mg base CX k f fd ps (spWLL K c)) (F3 : FnOk P w K mg base CX k f fd ps (spWLT K c)) : FnOk P w K mg base CX k f fd ps (spWL K c) := by
  refine (fn_or F1 (fn_or F2 F3)).imp fun vs H Q E h => ?_
  obtain ⟨v, many, part, rfl, h⟩ := h
  rcases h with ⟨kd, h1, h2, h3, h4⟩ | ⟨a, xs, kf, rfl, h1, h2, h3, h4, h⟩ | ⟨a, ns, rfl, h1, h2, h3, h4⟩
  · exact .inl ⟨v, kd, many, part, rfl, h1, h2, h3, h4⟩
  · exact .inr (.inl ⟨a, xs, kf, many, part, rfl, h1, h2, h3, h4, h⟩)
  · exact .inr (.inr ⟨a, ns, many, part, rfl, h1, h2, h3, h4⟩)
/-- a ring, of whose tuple of lengths nothing is known but its items -/
def RingW (K : PySem.W.Frag) (C : Addr) (H : Hp) (r : Addr) (ls : List Int) : Prop := ∃ dx t, H r = some (.ins C dx (rf t ls)) ∧ SqT K H t (ls.map V.int)
theorem RingAt.weak {C : Addr} {H : Hp} {r : Addr} {ls : List Int} (h : RingAt K C H r ls) : RingW K C H r ls := let ⟨dx, t, h1, h2, _⟩ := h; ⟨dx, t, h1, h2⟩
/-! ### len(ring) -/
def spRLen (K : PySem.W.Frag) (C : Addr) : Sp := fun vs H Q _ => ∃ (r : Addr) (ls : List Int), vs = [.ref r] ∧ RingW K C H r ls ∧ Q (.int ls.length) H
theorem scRLen : FnScope ["self"] ["self"] (defScope sRingLen) := ⟨rfl, rfl, rfl, by decide +kernel, rfl, by decide +kernel, by decide +kernel⟩
theorem ok_rlen {C f : Addr} {fd : FuncData} (F : Fun K "__len__" "Ring.__len__" sRingLen f fd) (T : Bi mg) (R : RingC K mg C) : FnOk P w K mg base CX0 1 f fd ["self"] (spRLen K C) := by
  refine F.ok scRLen (fun vs H Q E h => ?_) (fun cdv A outer s H vs Q E hr h => ?_)
  · obtain ⟨r, ls, rfl, _⟩ := h
    rfl
  · refine ⟨_, pss_one (ps_ret (pe_callB call_len_seq (by rfl) T.len PySem.boot_len (pa_cons (pe_fld (pv 0) rfl) pa_nil))), ?_⟩
    obtain ⟨r, ls, rfl, ⟨dx, t, hr0, ht⟩, q⟩ := h
    refine ⟨_, rfl, r, C, dx, _, _, rfl, hr0, R.cl, R.nL, rf_lengths _ _, t, _, rfl, .inr ht, ?_⟩
    rw [List.length_map]
    exact q
/-! ### ring.length_of(lot), ring.sort_of(lot) -/
def spLenOf (K : PySem.W.Frag) (C : Addr) (c : Cs) : Sp := fun vs H Q E => ∃ (r : Addr) (v : V) (ls : List Int), vs = [.ref r, v] ∧ RingW K C H r ls ∧ ls.length ≤ 8 ∧ LotV K H E c ls.length "lot" v fun ns => ∀ H', Same H H' → Q (.int (lsum ls ns)) H'
abbrev nLenOf : List Str := ["self", "lot", "bars", "bar"]
theorem scLenOf : FnScope nLenOf ["self", "lot"] (defScope sRingLengthOf) := ⟨rfl, rfl, rfl, by decide +kernel, rfl, by decide +kernel, by decide +kernel⟩
theorem get_len {ls : List Int} {b : Int} (h0 : 0 ≤ b) (h1 : b < (ls.length : Int)) : atI (ls.map V.int) b = some (V.int (ls.getD b.toNat 0)) := by
  have hb : b.toNat < ls.length := by omega
  refine at_of (j := b.toNat) (by omega) ?_
  rw [int_get hb, List.getD_eq_getElem?_getD, List.getElem?_eq_getElem hb]
  rfl
theorem res_ok {many : Int} {ns ms : List Int} (h : res many ns = .ok ms) : ms = ns ∧ (∀ x ∈ ns, isBar many x = true) ∧ ft [] ns = none := by
  unfold res at h
  cases e : ns.find? (fun b => !isBar many b) with
  | some b => rw [e] at h; cases h
  | none =>
    rw [e] at h
    cases e2 : ft [] ns with
    | some b => rw [e2] at h; cases h
    | none =>
      rw [e2] at h
      cases h
      refine ⟨rfl, fun x hx => ?_, rfl⟩
      have := List.find?_eq_none.mp e x hx
      simpa using this
/-- a lot that is one, with what is known of it -/
theorem LotFin.fine {E : XK} {c : Cs} {part : Str} {H : Hp} {many : Int} {ns : List Int} {k k' : List Int → Prop} (h : LotFin E c part H (res many ns) k) (hl : ns.length ≤ 1000) (i : ∀ ms, ms.length ≤ 1000 → (∀ x ∈ ms, isBar many x = true) → k ms → k' ms) : LotFin E c part H (res many ns) k' := by
  cases e : res many ns with
  | bad => rw [e] at h; exact h
  | bar b => rw [e] at h; exact h
  | twice b => rw [e] at h; exact h
  | ok ms =>
    rw [e] at h
    obtain ⟨rfl, a, _⟩ := res_ok e
    exact i ms hl a h
theorem LotV.fine {H : Hp} {E : XK} {c : Cs} {many : Int} {part : Str} {v : V} {k k' : List Int → Prop} (h : LotV K H E c many part v k) (i : ∀ ms, ms.length ≤ 1000 → (∀ x ∈ ms, isBar many x = true) → k ms → k' ms) : LotV K H E c many part v k' := by
  rcases h with h | ⟨a, xs, kf, e, h1, h2, h3, h4, h⟩ | ⟨a, ns, e, h1, h2, h3, h4⟩
  · exact .inl h
  · refine .inr (.inl ⟨a, xs, kf, e, h1, h2, h3, h4, ?_⟩)
    rcases h with h | ⟨ns, q1, q2, q3⟩
    · exact .inl h
    · exact .inr ⟨ns, q1, q2, q3.fine (by rw [q1, List.length_map] at h3; exact h3) i⟩
  · exact .inr (.inr ⟨a, ns, e, h1, h2, h3, h4.fine h3 i⟩)
theorem ok_lenOf {C f fW : Addr} {c : Cs} {fd fdW : FuncData} (F : Fun K "length_of" "Ring.length_of" sRingLengthOf f fd) (T : Bi mg) (R : RingC K mg C) (W : DefAt P w K mg base (L2.CX P w) 4 "want_lot" ["value", "many", "part"] (spWL K c) fW fdW) : FnOk P w K mg base (L2.CX P w) 5 f fd ["self", "lot"] (spLenOf K C c) := by
  refine F.okX scLenOf (fun vs H Q E h => ?_) (fun cdv A outer s H vs Q E hr h => ?_)
  · obtain ⟨r, v, ls, rfl, _⟩ := h
    rfl
  · have nd := scLenOf.nd
    refine ⟨_, pss_cons (ps_set (i := 2) nd rfl (Or.inl rfl) (pe_call W.ok hr rfl W.g W.kp W.b .nil (passes_call (takes_of rfl rfl rfl rfl) (fun _ _ _ _ h => h)) (pa_cons (pv 1) (pa_cons (pe_callB call_len_seq (by rfl) T.len PySem.boot_len (pa_cons (pe_fld (pv 0) rfl) pa_nil)) (pa_cons pe_str pa_nil)))))
      (pss_one (ps_ret (pe_callB (cr_sum rfl) (by rfl) T.sum (by decide +kernel) (pa_cons (pe_lc (own := [("bar", 3)]) (g := gName 3) (tt := tYes) (te := tOp (rIxT K) (tFld K (tVar 0) "lengths") (tVar 3)) rfl nd (pi_tup (pv 2))
        (blkOk_by (N := nLenOf) (sc := defScope sRingLengthOf) (by decide +kernel)) (fun _ _ _ _ _ => pg_name (i := 3) nd rfl (Or.inl rfl)) (fun _ _ _ _ _ => pts_nil) (fun _ _ _ _ _ => pe_ix (r := rIxT K) ix_tup (pe_fld (pv 0) rfl) (pv 3) (fun _ _ => rfl))) pa_nil)))), ?_⟩
    obtain ⟨r, v, ls, rfl, ⟨dx, t, hr0, ht⟩, l8, q⟩ := h
    refine ⟨_, rfl, _, rfl, r, C, dx, _, _, rfl, hr0, R.cl, R.nL, rf_lengths _ _, t, _, rfl, .inr ht, v, ls.length, "lot", by rw [List.length_map]; rfl, q.fine fun ns hns al q => ?_⟩
    intro p ms H1 pm s1 hp
    have hms : ms.length ≤ 1000 := by rw [pm.length_eq]; exact hns
    refine ⟨_, rfl, p, rfl, ⟨_, .inl (.inl hp)⟩, fun D hD => ?_⟩
    have hD0 := s1.free hD
    refine lc_tup (K := K) (a := p) (xs := ms.map V.int) (fun i H' => Same H H' ∧ H' p = some (.tup (ms.map V.int)) ∧ H' D = some (.lst (((ms.take i).map fun b => ls.getD b.toNat 0).map V.int))) ⟨s1.new hD, by rw [upd_ne (ne_of_none hp hD)]; exact hp, upd_same⟩ (fun i H' _ q => .inl (.inl q.2.1)) ?_ ?_
    · rintro i x H' hi ⟨s2, h1, h2⟩
      obtain ⟨z, hz, rfl⟩ := int_at hi
      have hil : i < ms.length := (List.getElem?_eq_some_iff.mp hz).1
      have az := al z (pm.mem_iff.mp (List.mem_of_getElem? hz))
      refine ⟨rfl, _, rfl, r, C, dx, _, _, rfl, s2 _ _ hr0, R.cl, R.nL, rf_lengths _ _, _, rfl, t, _, z, _, rfl, rfl, s2.tup ht, get_len (isBar_iff.mp az).1 (isBar_iff.mp az).2, _, h2, (by rw [List.length_map, List.length_map, List.length_take]; exact sm (by omega)), s2.mut hD0, by rw [upd_ne (ne_of_none hp hD)]; exact h1, ?_⟩
      rw [upd_same, ← take_snoc hz, List.map_append, List.map_append]
      rfl
    · rintro H' ⟨s2, h1, h2⟩
      rw [List.length_map, List.take_length] at h2
      refine ⟨D, _, rfl, SqL.of h2, ?_⟩
      have q2 := q H' s2
      rw [← lsum_perm pm] at q2
      exact q2
def sbV (e : Int) : Str := if e = 0 then "level" else if e < 0 then "short" else "long"
def spSortBy : Sp := fun vs H Q _ => ∃ e : Int, vs = [.int e] ∧ Q (.str (sbV e)) H
theorem scSortBy : FnScope ["excess"] ["excess"] (defScope sSortBy) := ⟨rfl, rfl, rfl, by decide +kernel, rfl, by decide +kernel, by decide +kernel⟩
theorem ok_sortBy {f : Addr} {fd : FuncData} (F : Fun K "sort_by" "sort_by" sSortBy f fd) : FnOk P w K mg base CX0 1 f fd ["excess"] spSortBy := by
  refine F.ok scSortBy (fun vs H Q E h => ?_) (fun cdv A outer s H vs Q E hr h => ?_)
  · obtain ⟨e, rfl, _⟩ := h
    rfl
  · refine ⟨_, pss_cons (ps_if (pt_cmpR op_eq (pv 0) pe_int (nomark _)) (pss_one (ps_ret pe_str)) pss_nil)
      (pss_one (ps_ret (pe_ifExp (pt_cmpR op_lt (pv 0) pe_int (nomark _)) pe_str pe_str))), ?_⟩
    obtain ⟨e, rfl, q⟩ := h
    unfold sbV at q
    refine ⟨_, rfl, rfl, _, rfl, ?_⟩
    by_cases c : e = 0
    · rw [if_pos c] at q
      exact iteDT (congrArg V.int c) q
    · rw [if_neg c] at q
      refine iteDF (fun z => c (V.int.inj z)) ?_
      refine ⟨_, rfl, _, _, rfl, rfl, _, rfl, ?_⟩
      by_cases c2 : e < 0
      · rw [if_pos c2] at q
        exact iteDT c2 q
      · rw [if_neg c2] at q
        exact iteDF c2 q
theorem sbV_sort (ls ns : List Int) : sbV (2 * lsum ls ns - ls.sum) = sortV ls ns := by
  unfold sbV sortV
  by_cases c : 2 * lsum ls ns = ls.sum
  · rw [if_pos c, if_pos (by omega)]
  · rw [if_neg c, if_neg (by omega)]
    by_cases d : 2 * lsum ls ns < ls.sum
    · rw [if_pos d, if_pos (by omega)]
    · rw [if_neg d, if_neg (by omega)]
abbrev nSortOf : List Str := ["self", "lot"]
theorem scSortOf : FnScope nSortOf ["self", "lot"] (defScope sRingSortOf) := ⟨rfl, rfl, rfl, by decide +kernel, rfl, by decide +kernel, by decide +kernel⟩
def spSortOf (K : PySem.W.Frag) (C : Addr) (c : Cs) : Sp := fun vs H Q E => ∃ (r : Addr) (v : V) (ls : List Int), vs = [.ref r, v] ∧ RingW K C H r ls ∧ ls.length ≤ 8 ∧ LotV K H E c ls.length "lot" v fun ns => ∀ H', Same H H' → Q (.str (sortV ls ns)) H'
theorem ok_sortOf {C f fL fB : Addr} {c : Cs} {fd fdL fdB : FuncData} (F : Fun K "sort_of" "Ring.sort_of" sRingSortOf f fd) (R : RingC K mg C) (M : Meth K C "length_of" fL) (L : FnOk P w K mg base (L2.CX P w) 5 fL fdL ["self", "lot"] (spLenOf K C c)) (LB : Binds K fdL ["self", "lot"] []) (SB : DefAt P w K mg base CX0 1 "sort_by" ["excess"] spSortBy fB fdB) : FnOk P w K mg base (L2.CX P w) 6 f fd ["self", "lot"] (spSortOf K C c) := by
  refine F.okX scSortOf (fun vs H Q E h => ?_) (fun cdv A outer s H vs Q E hr h => ?_)
  · obtain ⟨r, v, ls, rfl, _⟩ := h
    rfl
  · have nd := scSortOf.nd
    refine ⟨_, pss_one (ps_ret (pe_call SB.ok (hr.mono (by decide)) rfl SB.g SB.kp SB.b .nil pass0 (pa_cons (pe_op op_sub (pe_op op_mul pe_int (pe_meth (pv 0) R.cl M L hr LB .nil (passes_call (takes_of rfl rfl rfl rfl) (fun _ _ _ _ h => h)) (pa_cons (pv 1) pa_nil))) (pe_fld (pv 0) rfl)) pa_nil))), ?_⟩
    obtain ⟨r, v, ls, rfl, ⟨dx, t, hr0, ht⟩, l8, q⟩ := h
    refine ⟨_, rfl, r, dx, _, rfl, hr0, rf_no _ _ (by decide +kernel) (by decide +kernel) (by decide +kernel) (by decide +kernel), _, rfl, r, v, ls, rfl, ⟨dx, t, hr0, ht⟩, l8, q.imp fun ns q => ?_⟩
    intro H1 s1
    have hr1 := s1 _ _ hr0
    refine ⟨_, _, rfl, rfl, .inl ⟨by decide, by decide⟩, _, rfl, r, C, dx, _, _, rfl, hr1, R.cl, R.nT, rf_total _ _, _, _, rfl, rfl, _, rfl, ?_⟩
    have q1 := q H1 s1
    rw [← sbV_sort] at q1
    exact q1
end
end K
namespace K
open PySem L2 Rg
open Evl (pss_cut)
section
variable {P : Program} {w : World} {K : PySem.W.Frag} {mg : Str → Option Value} {base : Heap}
theorem kit_self {K : PySem.W.Frag} {C : Addr} : PySem.W.kitOne K (.ref C) (.ref C) = some true := by
  unfold PySem.W.kitOne
  simp
/-- what is no ring: a value of a kind that is no Ring -/
def NoR (K : PySem.W.Frag) (C : Addr) (H : Hp) (v : V) : Prop := ∃ k : String, TyX K H v (.type k) ∧ PySem.W.kitOne K (.type k) (.ref C) = some false
theorem NoR.same {C : Addr} {H H' : Hp} {v : V} (h : NoR K C H v) (s : Same H H') : NoR K C H' v := let ⟨k, a, b⟩ := h; ⟨k, tyx_same a s, b⟩
def spWantR (K : PySem.W.Frag) (C cR : Addr) : Sp := fun vs H Q E => ∃ (v : V) (part : Str), vs = [v, .str part] ∧ ((∃ r ls, v = .ref r ∧ RingW K C H r ls ∧ Q .non H) ∨ (NoR K C H v ∧ Errs E cR "part" (.str part) H))
theorem scWantR : FnScope ["value", "part"] ["value", "part"] (defScope sWantRing) := ⟨rfl, rfl, rfl, by decide +kernel, rfl, by decide +kernel, by decide +kernel⟩
theorem ok_wantR {C cR f fI : Addr} {fd fdI : FuncData} (F : Fun K "want_ring" "want_ring" sWantRing f fd) (T : Bi mg) (R : RingC K mg C) (B : ErrAt P w K mg base "BadRing" "part" cR fI fdI) : FnOk P w K mg base (L2.CX P w) 3 f fd ["value", "part"] (spWantR K C cR) := by
  refine F.okX scWantR (fun vs H Q E h => ?_) (fun cdv A outer s H vs Q E hr h => ?_)
  · obtain ⟨v, part, rfl, _⟩ := h
    rfl
  · refine ⟨_, pss_one (ps_if (pt_not (pt_val (pe_callB call_isi (by rfl) T.isinstance (by decide +kernel) (pa_cons (pv 0) (pa_cons (pe_glob (v := .ref C) rfl R.g rfl) pa_nil)))))
      (pss_one (ps_raise rfl (takes_of rfl rfl rfl rfl) (pmk_oex B.oex B.ic B.ti B.ok hr B.b .nil pass0 rfl B.g (pa_cons (pv 1) pa_nil)))) pss_nil), ?_⟩
    obtain ⟨v, part, rfl, h⟩ := h
    rcases h with ⟨r, ls, rfl, ⟨dx, t, hr0, ht⟩, q⟩ | ⟨⟨k, ty, kit⟩, er⟩
    · refine ⟨_, rfl, .ref r, .ref C, _, _, _, rfl, .own C, .base (.ins hr0 R.cl R.ha R.hn R.ht R.hm), kit_self, ?_⟩
      exact ⟨_, rfl, iteF q⟩
    · refine ⟨_, rfl, v, .ref C, _, _, _, rfl, .own C, ty, kit, ?_⟩
      exact ⟨_, rfl, iteT ⟨_, rfl, err_made B.oex B.nf er⟩⟩
end
end K
namespace K
open PySem L2 Rg
open Evl (pss_cut)
/-! ### all lots -/
def lotsN : Nat → List (List Int)
  | 0 => [[]]
  | n + 1 => lotsN n ++ (lotsN n).map (· ++ [(n : Int)])
def barsN : Nat → List Int
  | 0 => []
  | n + 1 => barsN n ++ [(n : Int)]
theorem lotsN_succ (n : Nat) : lotsN (n + 1) = lotsN n ++ (lotsN n).map (· ++ [(n : Int)]) := rfl
theorem barsN_succ (n : Nat) : barsN (n + 1) = barsN n ++ [(n : Int)] := rfl
theorem barsN_length : ∀ n, (barsN n).length = n
  | 0 => rfl
  | n + 1 => by unfold barsN; rw [List.length_append, barsN_length n]; rfl
theorem lotsN_length : ∀ n, (lotsN n).length = 2 ^ n
  | 0 => rfl
  | n + 1 => by unfold lotsN; rw [List.length_append, List.length_map, lotsN_length n, Nat.pow_succ]; omega
theorem lotsN_len : ∀ n, ∀ l ∈ lotsN n, l.length ≤ n
  | 0, l, h => by rw [List.mem_singleton.mp h]; exact Nat.le_refl _
  | n + 1, l, h => by
    rcases List.mem_append.mp h with h | h
    · exact Nat.le_succ_of_le (lotsN_len n l h)
    · obtain ⟨a, ha, rfl⟩ := List.mem_map.mp h
      have := lotsN_len n a ha
      rw [List.length_append, List.length_singleton]
      omega
theorem lotsN_full : ∀ n, ∀ l ∈ lotsN n, l.length = n → l = barsN n
  | 0, l, h, _ => List.mem_singleton.mp h
  | n + 1, l, h, hl => by
    rcases List.mem_append.mp h with h | h
    · have := lotsN_len n l h
      omega
    · obtain ⟨a, ha, rfl⟩ := List.mem_map.mp h
      rw [List.length_append, List.length_singleton] at hl
      rw [lotsN_full n a ha (by omega)]
      rfl
theorem lotsN_in : ∀ n, ∀ l ∈ lotsN n, ∀ b ∈ l, 0 ≤ b ∧ b < n
  | 0, l, h, b, hb => by rw [List.mem_singleton.mp h] at hb; cases hb
  | n + 1, l, h, b, hb => by
    rcases List.mem_append.mp h with h | h
    · have := lotsN_in n l h b hb
      omega
    · obtain ⟨a, ha, rfl⟩ := List.mem_map.mp h
      rcases List.mem_append.mp hb with hb | hb
      · have := lotsN_in n a ha b hb
        omega
      · rw [List.mem_singleton.mp hb]
        omega
theorem lotsN_nodup : ∀ n, ∀ l ∈ lotsN n, l.Nodup
  | 0, l, h => by rw [List.mem_singleton.mp h]; exact List.nodup_nil
  | n + 1, l, h => by
    rcases List.mem_append.mp h with h | h
    · exact lotsN_nodup n l h
    · obtain ⟨a, ha, rfl⟩ := List.mem_map.mp h
      rw [List.nodup_append]
      refine ⟨lotsN_nodup n a ha, by simp, fun x hx y hy => ?_⟩
      have := lotsN_in n a ha x hx
      rw [List.mem_singleton.mp hy]
      omega
theorem lotsN_nil : ∀ n, [] ∈ lotsN n
  | 0 => List.mem_singleton.mpr rfl
  | n + 1 => List.mem_append_left _ (lotsN_nil n)
theorem barsN_mem : ∀ n, barsN n ∈ lotsN n
  | 0 => List.mem_singleton.mpr rfl
  | n + 1 => List.mem_append_right _ (List.mem_map.mpr ⟨_, barsN_mem n, rfl⟩)
/-- the sums of the lengths are those of all lots -/
theorem lots_sums {ls : List Int} : ∀ n, n ≤ ls.length → (lotsN n).map (lsum ls) = sumsOf (ls.take n)
  | 0, _ => rfl
  | n + 1, h => by
    have hz : ls[n]? = some ls[n] := List.getElem?_eq_getElem h
    have ih := lots_sums (ls := ls) n (by omega)
    rw [sums_take hz, ← ih, lotsN_succ, List.map_append, List.map_map, List.map_map]
    congr 1
    refine List.map_congr_left fun l _ => ?_
    show lsum ls (l ++ [(n : Int)]) = lsum ls l + ls[n]
    unfold lsum
    rw [List.map_append, List.sum_append, List.map_singleton, List.sum_singleton, List.getD_eq_getElem?_getD, Int.toNat_natCast, hz]
    rfl
theorem level_lots (ls : List Int) : levelB ls = (lotsN ls.length).any fun l => decide (2 * lsum ls l = ls.sum) := by
  have h := lots_sums (ls := ls) ls.length (Nat.le_refl _)
  rw [List.take_length] at h
  unfold levelB
  rw [← h, List.any_map]
  rfl
theorem sum_bars {ls : List Int} : ∀ n, n ≤ ls.length → lsum ls (barsN n) = (ls.take n).sum
  | 0, _ => rfl
  | n + 1, h => by
    have hz : ls[n]? = some ls[n] := List.getElem?_eq_getElem h
    rw [← take_snoc hz, List.sum_append, ← sum_bars n (by omega), barsN_succ]
    unfold lsum
    rw [List.map_append, List.sum_append, List.map_singleton, List.sum_singleton, List.sum_singleton, List.getD_eq_getElem?_getD, Int.toNat_natCast, hz]
    rfl
section
variable {P : Program} {w : World} {K : PySem.W.Frag} {mg : Str → Option Value} {base : Heap}
/-- lots in a heap: kf tells the bars of each -/
def LotsAt (H : Hp) (xs : List V) (kf : V → List Int) : Prop := ∀ x ∈ xs, ∃ a, x = .ref a ∧ H a = some (.tup ((kf x).map V.int))
theorem LotsAt.same {H H' : Hp} {xs : List V} {kf : V → List Int} (h : LotsAt H xs kf) (s : Same H H') : LotsAt H' xs kf := fun x hx => let ⟨a, e, q⟩ := h x hx; ⟨a, e, s _ _ q⟩
/-- refs to tuples of ints, what they hold -/
def TL (H : Hp) : List V → List (List Int) → Prop := Paired fun x ns => ∃ a, x = V.ref a ∧ H a = some (.tup (ns.map V.int))
def PL (H : Hp) : List V → List (List Int) → Prop := Paired fun x ns => ∃ t b, x = V.ref t ∧ H t = some (.tup [.int (ns.length : Nat), .ref b]) ∧ H b = some (.tup (ns.map V.int))
theorem par_imp {α β : Type} {R S : α → β → Prop} (i : ∀ a b, R a b → S a b) : ∀ {xs : List α} {ys : List β}, Paired R xs ys → Paired S xs ys
  | _, _, .nil => .nil
  | _, _, .cons h t => .cons (i _ _ h) (par_imp i t)
theorem par_app {α β : Type} {R : α → β → Prop} : ∀ {xs : List α} {ys : List β} {zs : List α} {ws : List β}, Paired R xs ys → Paired R zs ws → Paired R (xs ++ zs) (ys ++ ws)
  | _, _, _, _, .nil, q => q
  | _, _, _, _, .cons h t, q => .cons h (par_app t q)
theorem par_len {α β : Type} {R : α → β → Prop} : ∀ {xs : List α} {ys : List β}, Paired R xs ys → xs.length = ys.length
  | _, _, .nil => rfl
  | _, _, .cons _ t => congrArg (· + 1) (par_len t)
theorem par_get {α β : Type} {R : α → β → Prop} : ∀ {xs : List α} {ys : List β}, Paired R xs ys → ∀ {i : Nat} {x : α}, xs[i]? = some x → ∃ y, ys[i]? = some y ∧ R x y
  | _, _, .cons h t, 0, x, e => ⟨_, rfl, by cases e; exact h⟩
  | _, _, .cons h t, i + 1, x, e => par_get t (by simpa using e)
theorem par_mem {α β : Type} {R : α → β → Prop} : ∀ {xs : List α} {ys : List β}, Paired R xs ys → ∀ {x : α}, x ∈ xs → ∃ y ∈ ys, R x y
  | _, _, .cons h t, x, e => by
    rcases List.mem_cons.mp e with rfl | e
    · exact ⟨_, List.mem_cons_self .., h⟩
    · obtain ⟨y, hy, r⟩ := par_mem t e
      exact ⟨y, List.mem_cons_of_mem _ hy, r⟩
theorem par_mem2 {α β : Type} {R : α → β → Prop} : ∀ {xs : List α} {ys : List β}, Paired R xs ys → ∀ {y : β}, y ∈ ys → ∃ x ∈ xs, R x y
  | _, _, .cons h t, y, e => by
    rcases List.mem_cons.mp e with rfl | e
    · exact ⟨_, List.mem_cons_self .., h⟩
    · obtain ⟨x, hx, r⟩ := par_mem2 t e
      exact ⟨x, List.mem_cons_of_mem _ hx, r⟩
theorem par_map {α β : Type} {R : α → β → Prop} {f : α → β} (i : ∀ a b, R a b → f a = b) : ∀ {xs : List α} {ys : List β}, Paired R xs ys → xs.map f = ys
  | _, _, .nil => rfl
  | _, _, .cons h t => by rw [List.map_cons, i _ _ h, par_map i t]
theorem TL.same {H H' : Hp} {xs : List V} {nss : List (List Int)} (h : TL H xs nss) (s : Same H H') : TL H' xs nss := par_imp (fun _ _ ⟨a, e, q⟩ => ⟨a, e, s _ _ q⟩) h
theorem PL.same {H H' : Hp} {xs : List V} {nss : List (List Int)} (h : PL H xs nss) (s : Same H H') : PL H' xs nss := par_imp (fun _ _ ⟨t, b, e, q, r⟩ => ⟨t, b, e, s _ _ q, s _ _ r⟩) h
def vint : V → Int
  | .int z => z
  | _ => 0
theorem vints : ∀ ns : List Int, (ns.map V.int).map vint = ns
  | [] => rfl
  | n :: ns => by rw [List.map_cons, List.map_cons, vints ns]; rfl
def cont (H : Hp) (x : V) : List Int := match x with
  | .ref a => (match H a with
    | some (.tup ys) => ys.map vint
    | _ => [])
  | _ => []
theorem cont_at {H : Hp} {a : Addr} {ns : List Int} (h : H a = some (.tup (ns.map V.int))) : cont H (.ref a) = ns := by
  show (match H a with
    | some (.tup ys) => ys.map vint
    | _ => []) = ns
  rw [h]
  exact vints ns
def lotOf (H : Hp) (x : V) : V := match x with
  | .ref a => (match H a with
    | some (.tup [_, b]) => b
    | _ => .non)
  | _ => .non
theorem lotOf_at {H : Hp} {a : Addr} {x y : V} (h : H a = some (.tup [x, y])) : lotOf H (.ref a) = y := by
  show (match H a with
    | some (.tup [_, b]) => b
    | _ => .non) = y
  rw [h]
/-- what a pair is sorted by -/
def keyOf (H : Hp) (x : V) : Int × List Int := (((cont H (lotOf H x)).length : Nat), cont H (lotOf H x))
theorem keyOf_at {H : Hp} {x : V} {ns : List Int} (h : ∃ t b, x = V.ref t ∧ H t = some (.tup [.int (ns.length : Nat), .ref b]) ∧ H b = some (.tup (ns.map V.int))) : keyOf H x = (((ns.length : Nat) : Int), ns) := by
  obtain ⟨t, b, rfl, h1, h2⟩ := h
  unfold keyOf
  rw [lotOf_at h1, cont_at h2]
theorem sorted_first {ys : List V} {k : V → List Int} (h : ys.Pairwise fun u v => HT.lexLt (((k v).length : Int) :: k v) (((k u).length : Int) :: k u) = false) (h0 : ∃ y ∈ ys, k y = []) : ∀ y, ys[0]? = some y → k y = [] := by
  intro y hy
  cases ys with
  | nil => cases hy
  | cons z zs =>
    obtain rfl : z = y := Option.some.inj hy
    obtain ⟨u, hu, e⟩ := h0
    rcases List.mem_cons.mp hu with rfl | hu
    · exact e
    · have q := (List.pairwise_cons.mp h).1 u hu
      rw [e, HT.lexLt_cons] at q
      by_cases c : (([] : List Int).length : Int) = ((k z).length : Int)
      · exact List.eq_nil_of_length_eq_zero (by simp at c; omega)
      · rw [if_neg c] at q
        have := of_decide_eq_false q
        rw [List.length_nil] at this
        exact List.eq_nil_of_length_eq_zero (by omega)
theorem sorted_last {n : Nat} {ys : List V} {k : V → List Int} (h : ys.Pairwise fun u v => HT.lexLt (((k v).length : Int) :: k v) (((k u).length : Int) :: k u) = false) (hn : ∀ y ∈ ys, (k y).length ≤ n) (h0 : ∃ y ∈ ys, (k y).length = n) : ∀ y, ys[ys.length - 1]? = some y → (k y).length = n := by
  intro y hy
  obtain ⟨u, hu, e⟩ := h0
  obtain ⟨i, hi, eu⟩ := List.mem_iff_getElem.mp hu
  obtain ⟨hj, ey⟩ := List.getElem?_eq_some_iff.mp hy
  by_cases c : i = ys.length - 1
  · subst c
    rw [← ey, eu, e]
  · have q := (List.pairwise_iff_getElem.mp h) i (ys.length - 1) hi hj (by omega)
    rw [eu, ey, HT.lexLt_cons] at q
    have b := hn y (List.mem_of_getElem? hy)
    by_cases d : ((k y).length : Int) = ((k u).length : Int)
    · omega
    · rw [if_neg d] at q
      have := of_decide_eq_false q
      omega
def rLenS (K : PySem.W.Frag) : List V → Hp → VK → Prop := fun xs H Q => ∃ p ys, xs = [.ref p] ∧ (SqL K H p ys ∨ SqT K H p ys) ∧ Q (.int ys.length) H
def spLots (K : PySem.W.Frag) : Sp := fun vs H Q _ => ∃ n : Nat, vs = [.int n] ∧ 1 ≤ n ∧ n ≤ 8 ∧
  ∀ (p : Addr) (xs : List V) (kf : V → List Int) (H' : Hp), Same H H' → H' p = some (.lst xs) → LotsAt H' xs kf → (xs.map kf).Perm (lotsN n) → (xs.Pairwise fun u v => HT.lexLt (((kf v).length : Int) :: kf v) (((kf u).length : Int) :: kf u) = false) → Q (.ref p) H'
abbrev nLots : List Str := ["_law_many", "_law_found", "_law_bar", "_law_lot", "_law_size"]
theorem scLots : FnScope nLots ["_law_many"] (defScope sLwLots) := ⟨rfl, rfl, rfl, by decide +kernel, rfl, by decide +kernel, by decide +kernel⟩
theorem ok_lots {f : Addr} {fd : FuncData} (F : Fun K "_law_lots" "_law_lots" sLwLots f fd) (T : Bi mg) : FnOk P w K mg base CX0 2 f fd ["_law_many"] (spLots K) := by
  refine F.ok scLots (fun vs H Q E h => ?_) (fun cdv A outer s H vs Q E hr h => ?_)
  · obtain ⟨n, rfl, _⟩ := h
    rfl
  · have nd := scLots.nd
    refine ⟨_, pss_cons (ps_set (i := 1) nd rfl (Or.inl rfl) (pe_lst (pa_cons (pe_tup pa_nil) pa_nil)))
      (pss_cons (ps_for PassesOwn.never rfl (pi_range1 (by rfl) T.range (pa_cons (pv 0) pa_nil)) (pg_name (i := 2) nd rfl (Or.inr rfl)) (pss_one (ps_set (i := 1) nd rfl (Or.inl rfl) (pe_op op_cat (pv 1) (pe_lc (own := [("_law_lot", 3)]) (g := gName 3) (tt := tYes) (te := tOp (rCatA K) (tVar 3) (tTup (tCons (tVar 2) tNil))) rfl nd (pi_list (pv 1))
        (blkOk_by (N := nLots) (sc := defScope sLwLots) (by decide +kernel)) (fun _ _ _ _ _ => pg_name (i := 3) nd rfl (Or.inl rfl)) (fun _ _ _ _ _ => pts_nil) (fun _ _ _ _ _ => pe_op op_catA (pv 3) (pe_tup (pa_cons (pv 2) pa_nil))))))))
      (pss_one (ps_ret (pe_lc (own := [("_law_size", 4), ("_law_lot", 3)]) (g := gTup K 2 (gCons (gName 4) (gCons (gName 3) gNil))) (tt := tYes) rfl nd
        (pi_list (pe_callB (cr_sortedN hr.units) (by rfl) T.sorted (by decide +kernel) (pa_cons (pe_lc (own := [("_law_lot", 3)]) (g := gName 3) (tt := tYes) (te := tTup (tCons (tCB (rLenS K) (tCons (tVar 3) tNil)) (tCons (tVar 3) tNil))) rfl nd (pi_list (pv 1))
          (blkOk_by (N := nLots) (sc := defScope sLwLots) (by decide +kernel)) (fun _ _ _ _ _ => pg_name (i := 3) nd rfl (Or.inl rfl)) (fun _ _ _ _ _ => pts_nil) (fun _ _ _ _ _ => pe_tup (pa_cons (pe_callB (r := rLenS K) call_len_seq (by rfl) T.len PySem.boot_len (pa_cons (pv 3) pa_nil)) (pa_cons (pv 3) pa_nil)))) pa_nil)))
        (blkOk_by (N := nLots) (sc := defScope sLwLots) (by decide +kernel)) (fun _ _ _ _ _ => pg_tup rfl (pgs_cons (pg_name (i := 4) nd rfl (Or.inl rfl)) (pgs_cons (pg_name (i := 3) nd rfl (Or.inl rfl)) pgs_nil))) (fun _ _ _ _ _ => pts_nil) (fun _ _ _ _ _ => pv 3))))), ?_⟩
    obtain ⟨n, rfl, n1, n8, q⟩ := h
    refine ⟨(by show 0 ≤ sizeLine; decide), fun e0 he0 => ⟨(by show 1 ≤ sizeLine; decide), fun l0 hl0 => ?_⟩⟩
    have s0 : Same H (upd (upd H e0 (.tup [])) l0 (.lst [.ref e0])) := ((Same.refl H).new he0).new hl0
    have he1 : upd (upd H e0 (.tup [])) l0 (.lst [.ref e0]) e0 = some (.tup []) := by rw [upd_ne (ne_of_none upd_same hl0), upd_same]
    refine ⟨_, rfl, _, rfl, by omega, by omega, ?_⟩
    refine for_range (lo := 0) (n := ((n : Nat) : Int).toNat) (fun i σ H' => ∃ (l : Addr) (t : Option V) (xs : List V), σ = [some (.int n), some (.ref l), t, none, none] ∧ Same H H' ∧ H' l = some (.lst xs) ∧ TL H' xs (lotsN i))
      ⟨l0, none, [.ref e0], rfl, s0, upd_same, .cons ⟨e0, rfl, he1⟩ .nil⟩ ?_ ?_
    · rintro i σ H' hi ⟨l, t, xs, rfl, s1, h1, tl⟩
      have hi8 : i < 8 := by omega
      have hxl : xs.length = 2 ^ i := by rw [par_len tl, lotsN_length]
      have h256 : 2 ^ i ≤ 128 := Nat.pow_le_pow_right (by decide) (show i ≤ 7 by omega)
      rw [Int.zero_add]
      refine ⟨_, rfl, _, rfl, l, rfl, ⟨_, SqL.of h1⟩, fun D hD => ?_⟩
      refine lc_list (K := K) (a := l) (xs := xs) (fun j H2 => Same H' H2 ∧ ∃ ys, H2 D = some (.lst ys) ∧ TL H2 ys (((lotsN i).take j).map (· ++ [(i : Int)]))) ⟨(Same.refl H').new hD, [], upd_same, .nil⟩ (fun j H2 _ p => p.1.seq (SqL.of h1)) ?_ ?_
      · rintro j y H2 hj ⟨s2, ys, h2, yl⟩
        obtain ⟨ns, hns, a, rfl, ha⟩ := par_get tl hj
        have ha2 := s2 _ _ ha
        have hjl : j < (lotsN i).length := (List.getElem?_eq_some_iff.mp hns).1
        have hyl : ys.length < sizeLine := by
          have := lotsN_length i
          rw [par_len yl, List.length_map, List.length_take]
          exact sm (by omega)
        have fin : ∀ (c : Addr) (H3 : Hp), Same H2 H3 → H3 c = some (.tup ((ns ++ [(i : Int)]).map V.int)) → ∃ acc, H3 D = some (.lst acc) ∧ acc.length < sizeLine ∧ (Same H' (upd H3 D (.lst (acc ++ [.ref c]))) ∧ ∃ zs, upd H3 D (.lst (acc ++ [.ref c])) D = some (.lst zs) ∧ TL (upd H3 D (.lst (acc ++ [.ref c]))) zs (((lotsN i).take (j + 1)).map (· ++ [(i : Int)]))) := by
          intro c H3 s3 hc
          have sD : Same H' (upd H3 D (.lst (ys ++ [.ref c]))) := (s2.trans s3).mut hD
          have s4 : ∀ (q : Addr) (zs : List V), H3 q = some (.tup zs) → upd H3 D (.lst (ys ++ [.ref c])) q = some (.tup zs) := fun q zs hq => by
            rw [upd_ne fun e => ?_]
            · exact hq
            · rw [e, s3 _ _ h2] at hq
              cases hq
          refine ⟨ys, s3 _ _ h2, hyl, sD, _, upd_same, ?_⟩
          rw [← take_snoc hns, List.map_append]
          exact par_app (par_imp (fun _ _ ⟨q, e, hq⟩ => ⟨q, e, s4 _ _ hq⟩) (yl.same s3)) (.cons ⟨c, rfl, s4 _ _ hc⟩ .nil)
        refine ⟨rfl, _, rfl, _, rfl, (by show 1 ≤ sizeLine; decide), fun b hb => ⟨a, b, ns.map V.int, [.int i], rfl, rfl, .inl (.inl (by rw [upd_ne (ne_of_none ha2 hb)]; exact ha2)), .inl (.inl upd_same), ?_, fun e => ?_, (fun _ z => by cases z), fun _ _ p hp => ?_⟩⟩
        · have := lotsN_len i ns (List.mem_of_getElem? hns)
          rw [List.length_map, List.length_singleton]
          exact Nat.le_of_lt (sm (by omega))
        · have e' : ns = [] := by cases ns with
            | nil => rfl
            | cons _ _ => cases e
          subst e'
          exact fin b _ ((Same.refl H2).new hb) upd_same
        · refine fin p _ (((Same.refl H2).new hb).new hp) ?_
          rw [upd_same, List.map_append]
          rfl
      · rintro H2 ⟨s2, ys, h2, yl⟩
        have eh : xs.length = (lotsN i).length := par_len tl
        rw [eh, List.take_length] at yl
        refine ⟨l, D, _, _, rfl, rfl, s2 _ _ h1, h2, ?_, fun p hp => ⟨p, _, _, rfl, (s1.trans s2).new hp, upd_same, ?_⟩⟩
        · rw [par_len yl, List.length_map, ← eh]
          exact Nat.le_of_lt (sm (by omega))
        · have s3 : Same H2 (upd H2 p (.lst (xs ++ ys))) := (Same.refl H2).new hp
          rw [lotsN_succ]
          exact par_app (tl.same (s2.trans s3)) (yl.same s3)
    · rintro σ H' ⟨l, t, xs, rfl, s1, h1, tl⟩
      rw [Int.toNat_natCast] at tl
      have hxl : xs.length = 2 ^ n := by rw [par_len tl, lotsN_length]
      have h256 : 2 ^ n ≤ 256 := Nat.pow_le_pow_right (by decide) (show n ≤ 8 by omega)
      -- the pairs
      refine ⟨_, rfl, l, rfl, ⟨_, SqL.of h1⟩, fun D hD => ?_⟩
      refine lc_list (K := K) (a := l) (xs := xs) (fun j H2 => Same H' H2 ∧ ∃ ys, H2 D = some (.lst ys) ∧ PL H2 ys ((lotsN n).take j)) ⟨(Same.refl H').new hD, [], upd_same, .nil⟩ (fun j H2 _ p => p.1.seq (SqL.of h1)) ?_ ?_
      · rintro j y H2 hj ⟨s2, ys, h2, yl⟩
        obtain ⟨ns, hns, a, rfl, ha⟩ := par_get tl hj
        have ha2 := s2 _ _ ha
        refine ⟨rfl, _, rfl, a, _, rfl, .inr (.inl (.inl ha2)), _, rfl, (by show 2 ≤ sizeLine; decide), fun b hb => ⟨ys, by rw [upd_ne (ne_of_none h2 hb)]; exact h2, ?_, ((s2.new hb).mut hD), _, upd_same, ?_⟩⟩
        · have := lotsN_length n
          rw [par_len yl, List.length_take]
          exact sm (by omega)
        · have hbD : b ≠ D := (ne_of_none h2 hb).symm
          have haD : a ≠ D := fun e => by
            rw [e, h2] at ha2
            cases ha2
          have s4 : ∀ (q : Addr) (zs : List V), H2 q = some (.tup zs) → upd (upd H2 b (.tup [.int (ns.map V.int).length, .ref a])) D (.lst (ys ++ [.ref b])) q = some (.tup zs) := fun q zs hq => by
            rw [upd_ne fun e => ?_, upd_ne (ne_of_none hq hb)]
            · exact hq
            · rw [e, h2] at hq
              cases hq
          rw [← take_snoc hns]
          refine par_app (par_imp (fun _ _ ⟨t, b', e, q, r⟩ => ⟨t, b', e, s4 _ _ q, s4 _ _ r⟩) yl) (.cons ⟨b, a, rfl, ?_, s4 _ _ ha2⟩ .nil)
          rw [upd_ne hbD, upd_same, List.length_map]
      · rintro H2 ⟨s2, ys, h2, yl⟩
        have eh : xs.length = (lotsN n).length := par_len tl
        rw [eh, List.take_length] at yl
        have yk : ∀ y ∈ ys, ∃ ns ∈ lotsN n, ∃ t b, y = V.ref t ∧ H2 t = some (.tup [.int (ns.length : Nat), .ref b]) ∧ H2 b = some (.tup (ns.map V.int)) := fun y hy => par_mem yl hy
        refine ⟨D, ys, keyOf H2, rfl, SqL.of h2, fun y hy => ?_, fun zs p hz1 hz2 hp => ?_⟩
        · obtain ⟨ns, _, t, b, e, q1, q2⟩ := yk y hy
          rw [keyOf_at ⟨t, b, e, q1, q2⟩]
          exact ⟨t, b, e, q1, q2⟩
        have s3 : Same H2 (upd H2 p (.lst zs)) := (Same.refl H2).new hp
        have zl : zs.length = 2 ^ n := by rw [hz2.length_eq, par_len yl, lotsN_length]
        have zk : ∀ z ∈ zs, ∃ ns ∈ lotsN n, ∃ t b, z = V.ref t ∧ H2 t = some (.tup [.int (ns.length : Nat), .ref b]) ∧ H2 b = some (.tup (ns.map V.int)) := fun z hz => yk z (hz2.mem_iff.mp hz)
        refine ⟨p, rfl, ⟨_, SqL.of upd_same⟩, fun G hG => ?_⟩
        have hG2 := s3.free hG
        refine lc_list (K := K) (a := p) (xs := zs) (fun j H3 => Same H2 H3 ∧ H3 p = some (.lst zs) ∧ H3 G = some (.lst ((zs.take j).map (lotOf H2)))) ⟨s3.new hG, by rw [upd_ne (ne_of_none upd_same hG)]; exact upd_same, upd_same⟩ (fun j H3 _ q => SqL.of q.2.1) ?_ ?_
        · rintro j z H3 hj ⟨s5, h5, h6⟩
          obtain ⟨ns, _, t, b, rfl, q1, q2⟩ := zk z (List.mem_of_getElem? hj)
          have hjl : j < zs.length := (List.getElem?_eq_some_iff.mp hj).1
          refine ⟨t, _, rfl, .inl (.inl (s5 _ _ q1)), rfl, ⟨_, _, rfl, _, _, rfl, rfl, rfl, _, rfl, _, h6, (by rw [List.length_map, List.length_take]; exact sm (by omega)), s5.mut hG2, by rw [upd_ne (ne_of_none upd_same hG)]; exact h5, ?_⟩⟩
          rw [upd_same, ← take_snoc hj, List.map_append, List.map_singleton, lotOf_at q1]
        · rintro H3 ⟨s5, h5, h6⟩
          rw [List.take_length] at h6
          have kk : ∀ z ∈ zs, ∃ ns ∈ lotsN n, keyOf H2 z = (((ns.length : Nat) : Int), ns) ∧ cont H3 (lotOf H2 z) = ns ∧ ∃ b, lotOf H2 z = .ref b ∧ H3 b = some (.tup (ns.map V.int)) := fun z hz => by
            obtain ⟨ns, m, t, b, e, q1, q2⟩ := zk z hz
            subst e
            refine ⟨ns, m, keyOf_at ⟨t, b, rfl, q1, q2⟩, ?_, b, lotOf_at q1, s5 _ _ q2⟩
            rw [lotOf_at q1, cont_at (s5 _ _ q2)]
          have srt : zs.Pairwise fun u v => HT.lexLt (((cont H3 (lotOf H2 v)).length : Int) :: cont H3 (lotOf H2 v)) (((cont H3 (lotOf H2 u)).length : Int) :: cont H3 (lotOf H2 u)) = false := by
            refine List.Pairwise.imp_of_mem (fun {a b} ha hb r => ?_) hz1
            obtain ⟨na, _, ea, ca, _⟩ := kk a ha
            obtain ⟨nb, _, eb, cb, _⟩ := kk b hb
            dsimp only at r
            rw [ea, eb] at r
            rw [ca, cb]
            exact r
          have mp : (zs.map fun z => cont H3 (lotOf H2 z)).Perm (lotsN n) := by
            have e1 : zs.map (fun z => cont H3 (lotOf H2 z)) = zs.map fun z => (keyOf H2 z).2 := List.map_congr_left fun z hz => by
              obtain ⟨nz, _, ez, cz, _⟩ := kk z hz
              rw [ez, cz]
            have e2 : ys.map (fun z => (keyOf H2 z).2) = lotsN n := par_map (fun a b r => by rw [keyOf_at r]) yl
            rw [e1, ← e2]
            exact hz2.map _
          have zm : ∀ ns ∈ lotsN n, ∃ z ∈ zs, cont H3 (lotOf H2 z) = ns := fun ns m => by
            obtain ⟨z, hz, e⟩ := List.mem_map.mp (mp.mem_iff.mpr m)
            exact ⟨z, hz, e⟩
          refine q G _ (cont H3) H3 ((s1.trans s2).trans s5) h6 (fun x hx => ?_) (by rw [List.map_map]; exact mp) (List.pairwise_map.mpr srt)
          obtain ⟨z, hz, rfl⟩ := List.mem_map.mp hx
          obtain ⟨ns, _, _, c, b, e, h⟩ := kk z hz
          refine ⟨b, e, ?_⟩
          rw [c]
          exact h
end
end K
namespace K
open PySem L2 Rg
open Evl (pss_cut)
/-! ### a lot against all other bars -/
def Lot (n : Nat) (ns : List Int) : Prop := ns.Nodup ∧ ∀ b ∈ ns, 0 ≤ b ∧ b < (n : Int)
def hasB (ns : List Int) (j : Nat) : Bool := ns.any fun y => decide (y = (j : Int))
def oth (ls ns : List Int) (i : Nat) : List Int := ((List.range i).filter fun j => !hasB ns j).map fun j => ls.getD j 0
theorem inV_int (z : Int) : ∀ ns : List Int, inV (.int z) (ns.map V.int) = ns.any fun y => decide (y = z) := by
  intro ns
  unfold inV
  rw [List.any_map]
  rfl
theorem oth_len (ls ns : List Int) (i : Nat) : (oth ls ns i).length ≤ i := by
  unfold oth
  rw [List.length_map]
  exact Nat.le_trans (List.length_filter_le ..) (by rw [List.length_range]; exact Nat.le_refl _)
theorem oth_in {ls ns : List Int} {i : Nat} {z : Int} (hz : ls[i]? = some z) (h : hasB ns i = false) : oth ls ns (i + 1) = oth ls ns i ++ [z] := by
  unfold oth
  rw [List.range_succ, List.filter_append, List.map_append]
  simp [h, List.getD_eq_getElem?_getD, hz]
theorem oth_out {ls ns : List Int} {i : Nat} (h : hasB ns i = true) : oth ls ns (i + 1) = oth ls ns i := by
  unfold oth
  rw [List.range_succ, List.filter_append, List.map_append]
  simp [h]
theorem sum_range (ls : List Int) : ∀ n, n ≤ ls.length → ((List.range n).map fun j => ls.getD j 0).sum = (ls.take n).sum
  | 0, _ => rfl
  | n + 1, h => by
    have hz : ls[n]? = some ls[n] := List.getElem?_eq_getElem h
    rw [← take_snoc hz, List.sum_append, ← sum_range ls n (by omega), List.range_succ, List.map_append, List.sum_append]
    simp [List.getD_eq_getElem?_getD, hz]
theorem sum_split (f : Nat → Int) (p : Nat → Bool) : ∀ l : List Nat, ((l.filter fun j => !p j).map f).sum + ((l.filter p).map f).sum = (l.map f).sum
  | [] => rfl
  | x :: l => by
    have ih := sum_split f p l
    cases e : p x <;> simp [e, List.sum_cons] <;> omega
theorem hasB_iff {ns : List Int} {j : Nat} : hasB ns j = true ↔ (j : Int) ∈ ns := by
  unfold hasB
  rw [List.any_eq_true]
  constructor
  · rintro ⟨y, hy, e⟩
    rw [← of_decide_eq_true e]
    exact hy
  · intro h
    exact ⟨_, h, decide_eq_true rfl⟩
theorem nodup_cast : ∀ {l : List Nat}, l.Nodup → (l.map fun j : Nat => (j : Int)).Nodup
  | [], _ => List.nodup_nil
  | x :: l, h => by
    rw [List.nodup_cons] at h
    rw [List.map_cons, List.nodup_cons]
    refine ⟨fun m => ?_, nodup_cast h.2⟩
    obtain ⟨y, hy, e⟩ := List.mem_map.mp m
    exact h.1 (by rw [show x = y by omega]; exact hy)
theorem lot_sorted {n : Nat} {ns : List Int} (h : Lot n ns) : (((List.range n).filter (hasB ns)).map fun j : Nat => (j : Int)).Perm ns := by
    refine (List.perm_ext_iff_of_nodup (nodup_cast (List.Pairwise.filter _ List.nodup_range)) h.1).mpr fun z => ?_
    constructor
    · intro m
      obtain ⟨j, hj, rfl⟩ := List.mem_map.mp m
      exact hasB_iff.mp (List.mem_filter.mp hj).2
    · intro m
      have b := h.2 z m
      refine List.mem_map.mpr ⟨z.toNat, List.mem_filter.mpr ⟨List.mem_range.mpr (by omega), hasB_iff.mpr ?_⟩, by omega⟩
      rw [show ((z.toNat : Nat) : Int) = z by omega]
      exact m
theorem oth_sum {ls ns : List Int} (h : Lot ls.length ns) : (oth ls ns ls.length).sum + lsum ls ns = ls.sum := by
  have e1 := sum_split (fun j => ls.getD j 0) (hasB ns) (List.range ls.length)
  rw [sum_range ls _ (Nat.le_refl _), List.take_length] at e1
  rw [← e1]
  congr 1
  rw [← lsum_perm (lot_sorted h)]
  unfold lsum
  rw [List.map_map]
  rfl
theorem sort_eq {ls ns : List Int} (h : Lot ls.length ns) : sortV ls ns = (if lsum ls ns = (oth ls ns ls.length).sum then ("level" : Str) else if lsum ls ns < (oth ls ns ls.length).sum then ("short" : Str) else ("long" : Str) : Str) := by
  have e := oth_sum h
  unfold sortV
  by_cases c : 2 * lsum ls ns = ls.sum
  · rw [if_pos c, if_pos (show lsum ls ns = (oth ls ns ls.length).sum by omega)]
  · rw [if_neg c, if_neg (show ¬ lsum ls ns = (oth ls ns ls.length).sum by omega)]
    by_cases d : 2 * lsum ls ns < ls.sum
    · rw [if_pos d, if_pos (show lsum ls ns < (oth ls ns ls.length).sum by omega)]
    · rw [if_neg d, if_neg (show ¬ lsum ls ns < (oth ls ns ls.length).sum by omega)]
theorem lsum_take {ls ns : List Int} {i : Nat} {z : Int} (h : ns[i]? = some z) : (ns.take (i + 1)).map (fun b => ls.getD b.toNat 0) = (ns.take i).map (fun b => ls.getD b.toNat 0) ++ [ls.getD z.toNat 0] := by
  rw [← take_snoc h, List.map_append]
  rfl
end K
namespace K
open PySem L2 Rg
open Evl (pss_cut)
/-! ### a lot that is one -/
theorem ft_none : ∀ {ns seen : List Int}, ns.Nodup → (∀ x ∈ ns, x ∉ seen) → ft seen ns = none
  | [], _, _, _ => rfl
  | x :: ns, seen, h, hs => by
    rw [List.nodup_cons] at h
    show (if x ∈ seen then some x else ft (seen ++ [x]) ns) = none
    rw [if_neg (hs x (List.mem_cons_self ..))]
    refine ft_none h.2 fun y hy m => ?_
    rcases List.mem_append.mp m with m | m
    · exact hs y (List.mem_cons_of_mem _ hy) m
    · rw [List.mem_singleton.mp m] at hy
      exact h.1 hy
theorem res_lot {n : Nat} {ns : List Int} (h : Lot n ns) : res n ns = .ok ns := by
  rw [res_all fun x hx => isBar_iff.mpr (h.2 x hx), ft_none h.1 fun x _ m => by cases m]
theorem lot_perm {n : Nat} {ms ns : List Int} (h : Lot n ns) (p : ms.Perm ns) : Lot n ms := ⟨p.nodup_iff.mpr h.1, fun b hb => h.2 b (p.mem_iff.mp hb)⟩
theorem lot_take {n d : Nat} {ns : List Int} (h : Lot n ns) : Lot n (ns.take d) := ⟨h.1.sublist (List.take_sublist ..), fun b hb => h.2 b (List.mem_of_mem_take hb)⟩
def natB (l : List Nat) : List Int := l.map fun j : Nat => (j : Int)
theorem lot_nat {n : Nat} {p : Nat → Bool} : Lot n (natB ((List.range n).filter p)) := by
  refine ⟨nodup_cast (List.Pairwise.filter _ List.nodup_range), fun b hb => ?_⟩
  obtain ⟨j, hj, rfl⟩ := List.mem_map.mp hb
  have := List.mem_range.mp (List.mem_filter.mp hj).1
  omega
theorem lot_all {n : Nat} : Lot n (natB (List.range n)) := by
  refine ⟨nodup_cast List.nodup_range, fun b hb => ?_⟩
  obtain ⟨j, hj, rfl⟩ := List.mem_map.mp hb
  have := List.mem_range.mp hj
  omega
theorem lot_len {n : Nat} {ns : List Int} (h : Lot n ns) : ns.length ≤ n := by
  have e := lot_sorted h
  rw [e.length_eq.symm, List.length_map]
  exact Nat.le_trans (List.length_filter_le ..) (by rw [List.length_range]; exact Nat.le_refl _)
def restN (n : Nat) (ns : List Int) (i : Nat) : List Int := natB ((List.range i).filter fun j => !hasB ns j)
theorem rest_in {n : Nat} {ns : List Int} {i : Nat} (h : hasB ns i = false) : restN n ns (i + 1) = restN n ns i ++ [(i : Int)] := by
  unfold restN natB
  rw [List.range_succ, List.filter_append, List.map_append]
  simp [h]
theorem rest_out {n : Nat} {ns : List Int} {i : Nat} (h : hasB ns i = true) : restN n ns (i + 1) = restN n ns i := by
  unfold restN natB
  rw [List.range_succ, List.filter_append, List.map_append]
  simp [h]
theorem rest_len {n : Nat} {ns : List Int} {i : Nat} : (restN n ns i).length ≤ i := by
  unfold restN natB
  rw [List.length_map]
  exact Nat.le_trans (List.length_filter_le ..) (by rw [List.length_range]; exact Nat.le_refl _)
theorem rest_lot {n : Nat} {ns : List Int} : Lot n (restN n ns n) := lot_nat
theorem rest_sum {ls ns : List Int} (h : Lot ls.length ns) : lsum ls (restN ls.length ns ls.length) + lsum ls ns = ls.sum := by
  have e : lsum ls (restN ls.length ns ls.length) = (oth ls ns ls.length).sum := by
    unfold lsum restN natB oth
    rw [List.map_map]
    rfl
  rw [e]
  exact oth_sum h
theorem nat_lots (p : Nat → Bool) : ∀ n, natB ((List.range n).filter p) ∈ lotsN n
  | 0 => List.mem_singleton.mpr rfl
  | n + 1 => by
    have ih := nat_lots p n
    rw [List.range_succ, List.filter_append, lotsN_succ]
    unfold natB at ih ⊢
    rw [List.map_append]
    cases e : p n with
    | true => exact List.mem_append_right _ (List.mem_map.mpr ⟨_, ih, by simp [e]⟩)
    | false => exact List.mem_append_left _ (by simpa [e] using ih)
theorem level_of {ls ns : List Int} (h : Lot ls.length ns) (e : 2 * lsum ls ns = ls.sum) : levelB ls = true := by
  rw [level_lots, List.any_eq_true]
  exact ⟨_, nat_lots (hasB ns) ls.length, decide_eq_true (by rw [lsum_perm (show (natB _).Perm ns from lot_sorted h)]; exact e)⟩
/-- the sort of the other bars -/
def opp (z : Str) : Str := if z = "short" then "long" else if z = "long" then "short" else "level"
theorem ne_sl : ¬ (("short" : Str) = "long") := by decide +kernel
theorem ne_sv : ¬ (("short" : Str) = "level") := by decide +kernel
theorem ne_lv : ¬ (("long" : Str) = "level") := by decide +kernel
theorem sort_cases (ls ns : List Int) : (2 * lsum ls ns = ls.sum ∧ sortV ls ns = "level") ∨ (2 * lsum ls ns < ls.sum ∧ sortV ls ns = "short") ∨ (ls.sum < 2 * lsum ls ns ∧ sortV ls ns = "long") := by
  unfold sortV
  by_cases c : 2 * lsum ls ns = ls.sum
  · exact .inl ⟨c, if_pos c⟩
  · by_cases d : 2 * lsum ls ns < ls.sum
    · exact .inr (.inl ⟨d, by rw [if_neg c, if_pos d]⟩)
    · exact .inr (.inr ⟨by omega, by rw [if_neg c, if_neg d]⟩)
theorem sort_rest {ls ns ms : List Int} (h : lsum ls ms + lsum ls ns = ls.sum) : sortV ls ms = opp (sortV ls ns) := by
  unfold opp
  rcases sort_cases ls ns with ⟨a, e⟩ | ⟨a, e⟩ | ⟨a, e⟩ <;> rcases sort_cases ls ms with ⟨b, f⟩ | ⟨b, f⟩ | ⟨b, f⟩ <;> rw [e, f] <;> first | (exfalso; omega) | skip
  · rw [if_neg fun z => ne_sv z.symm, if_neg fun z => ne_lv z.symm]
  · rw [if_pos rfl]
  · rw [if_neg fun z => ne_sl z.symm, if_pos rfl]
theorem perm_ints {ys : List V} {l : List Int} (h : ys.Perm (l.map V.int)) : ∃ ms : List Int, ys = ms.map V.int ∧ ms.Perm l := by
  refine ⟨ys.map vint, ?_, ?_⟩
  · rw [List.map_map]
    refine (List.map_id ys).symm.trans (List.map_congr_left fun y hy => ?_)
    obtain ⟨i, _, rfl⟩ := List.mem_map.mp (h.mem_iff.mp hy)
    rfl
  · have := h.map vint
    rw [vints] at this
    exact this
theorem rg_nat (n : Nat) : rgV 0 (n : Int) = (natB (List.range n)).map V.int := by
  unfold rgV natB
  rw [List.map_map, show (((n : Nat) : Int) - 0).toNat = n by omega]
  refine List.map_congr_left fun j _ => ?_
  show V.int (0 + (j : Int)) = V.int (j : Int)
  rw [Int.zero_add]
section
variable {P : Program} {w : World} {K : PySem.W.Frag} {mg : Str → Option Value} {base : Heap}
theorem LotV.lst {H : Hp} {E : XK} {c : Cs} {n : Nat} {part : Str} {a : Addr} {ns : List Int} {k : List Int → Prop} (h : H a = some (.lst (ns.map V.int))) (l : Lot n ns) (hn : ns.length ≤ 8) (q : k ns) : LotV K H E c n part (.ref a) k := by
  refine .inr (.inl ⟨a, ns.map V.int, fun _ => "int", rfl, ⟨.base (.lst h), by decide⟩, SqL.of h, by rw [List.length_map]; omega, fun x hx => ?_, .inr ⟨ns, rfl, List.all_eq_true.mpr fun _ _ => rfl, ?_⟩⟩)
  · obtain ⟨i, _, rfl⟩ := List.mem_map.mp hx
    exact Knd.int
  · rw [res_lot l]
    exact q
theorem LotV.tpl {H : Hp} {E : XK} {c : Cs} {n : Nat} {part : Str} {a : Addr} {ns : List Int} {k : List Int → Prop} (h : H a = some (.tup (ns.map V.int))) (l : Lot n ns) (hn : ns.length ≤ 8) (q : k ns) : LotV K H E c n part (.ref a) k := by
  refine .inr (.inr ⟨a, ns, rfl, ⟨.base (.tup h), by decide⟩, .inl (.inl h), by omega, ?_⟩)
  rw [res_lot l]
  exact q
theorem RingAt.but {C p : Addr} {e : Addr × List Int} {n : Nat} {H H' : Hp} {r : Addr} {ls : List Int} (h : RingAt K C H r ls) (b : But p H H') (pen : PenAt K H p e n) : RingAt K C H' r ls := by
  obtain ⟨dx, t, h1, h2, o, h3, h4⟩ := h
  obtain ⟨_, _, hp, _⟩ := pen.ex
  have nr : r ≠ p := fun z => by rw [z, hp] at h1; cases h1
  have nt : t ≠ p := fun z => by rw [z, hp] at h3; cases h3
  exact ⟨dx, t, b _ _ nr h1, .inl (.inr ⟨o, b _ _ nt h3⟩), o, b _ _ nt h3, h4⟩
end
/-! ### a whole ring -/
def isLong (ls : List Int) (j : Nat) : Bool := decide (ls.sum < 2 * ls.getD j 0)
def alone (ls : List Int) (i : Nat) : List Int := natB ((List.range i).filter (isLong ls))
theorem alone_in {ls : List Int} {i : Nat} (h : isLong ls i = true) : alone ls (i + 1) = alone ls i ++ [(i : Int)] := by
  unfold alone natB
  rw [List.range_succ, List.filter_append, List.map_append]
  simp [h]
theorem alone_out {ls : List Int} {i : Nat} (h : isLong ls i = false) : alone ls (i + 1) = alone ls i := by
  unfold alone natB
  rw [List.range_succ, List.filter_append, List.map_append]
  simp [h]
theorem alone_len {ls : List Int} {i : Nat} : (alone ls i).length ≤ i := by
  unfold alone natB
  rw [List.length_map]
  exact Nat.le_trans (List.length_filter_le ..) (by rw [List.length_range]; exact Nat.le_refl _)
theorem sort_one {ls : List Int} {i : Nat} : decide (V.str (sortV ls [(i : Int)]) = V.str "long") = isLong ls i := by
  have e : lsum ls [(i : Int)] = ls.getD i 0 := by
    unfold lsum
    rw [List.map_singleton, List.sum_singleton, Int.toNat_natCast]
  unfold isLong
  rcases sort_cases ls [(i : Int)] with ⟨a, h⟩ | ⟨a, h⟩ | ⟨a, h⟩ <;> rw [h] <;> rw [e] at a
  · rw [decide_eq_false fun z => ne_lv (V.str.inj z).symm, decide_eq_false (by omega)]
  · rw [decide_eq_false fun z => ne_sl (V.str.inj z), decide_eq_false (by omega)]
  · rw [decide_eq_true rfl, decide_eq_true (by omega)]
theorem sum_pos : ∀ {l : List Int}, (∀ z ∈ l, 0 ≤ z) → 0 ≤ l.sum
  | [], _ => by simp
  | a :: l, q => by
    rw [List.sum_cons]
    have := sum_pos (l := l) fun z hz => q z (List.mem_cons_of_mem _ hz)
    have := q a (List.mem_cons_self ..)
    omega
theorem get_sum : ∀ {l : List Int} {k : Nat}, (∀ z ∈ l, 0 ≤ z) → k < l.length → l.getD k 0 ≤ l.sum
  | a :: l, 0, q, _ => by
    have := sum_pos (l := l) fun z hz => q z (List.mem_cons_of_mem _ hz)
    rw [List.sum_cons, List.getD_cons_zero]
    omega
  | a :: l, k + 1, q, h => by
    have := get_sum (l := l) (k := k) (fun z hz => q z (List.mem_cons_of_mem _ hz)) (by simpa using h)
    have := q a (List.mem_cons_self ..)
    rw [List.sum_cons, List.getD_cons_succ]
    omega
theorem sum_two : ∀ {l : List Int} {i j : Nat}, (∀ z ∈ l, 0 ≤ z) → i < j → j < l.length → l.getD i 0 + l.getD j 0 ≤ l.sum
  | a :: l, 0, j + 1, q, _, h => by
    have := get_sum (l := l) (k := j) (fun z hz => q z (List.mem_cons_of_mem _ hz)) (by simpa using h)
    rw [List.sum_cons, List.getD_cons_zero, List.getD_cons_succ]
    omega
  | a :: l, i + 1, j + 1, q, hij, h => by
    have := sum_two (l := l) (i := i) (j := j) (fun z hz => q z (List.mem_cons_of_mem _ hz)) (by omega) (by simpa using h)
    have := q a (List.mem_cons_self ..)
    rw [List.sum_cons, List.getD_cons_succ, List.getD_cons_succ]
    omega
theorem long_uniq {ls : List Int} (h0 : ∀ x ∈ ls, 0 ≤ x) {i j : Nat} (hi : i < ls.length) (hj : j < ls.length) (a : isLong ls i = true) (b : isLong ls j = true) : i = j := by
  have a' := of_decide_eq_true a
  have b' := of_decide_eq_true b
  rcases Nat.lt_trichotomy i j with h | h | h
  · have := sum_two h0 h hj
    omega
  · exact h
  · have := sum_two h0 h hi
    omega
theorem filter_uniq {p : Nat → Bool} {j : Nat} : ∀ n, j < n → p j = true → (∀ i, i < n → p i = true → i = j) → (List.range n).filter p = [j]
  | 0, h, _, _ => by omega
  | n + 1, h, hp, u => by
    rw [List.range_succ, List.filter_append]
    by_cases e : n = j
    · have h1 : (List.range n).filter p = [] := List.filter_eq_nil_iff.mpr fun i hi q => by
        have := u i (by have := List.mem_range.mp hi; omega) q
        have := List.mem_range.mp hi
        omega
      rw [h1, e]
      simp [hp]
    · have h1 := filter_uniq n (by omega) hp fun i hi q => u i (by omega) q
      have h2 : p n = false := by
        cases q : p n with
        | false => rfl
        | true => exact absurd (u n (by omega) q) e
      rw [h1]
      simp [h2]
/-- what is due of closes, of too_long and of the bars that are long alone -/
theorem alone_two {ls : List Int} (h0 : ∀ x ∈ ls, 0 ≤ x) : (closesB ls = true ∧ alone ls ls.length = []) ∨ (closesB ls = false ∧ ∃ j : Nat, j < ls.length ∧ isLong ls j = true ∧ alone ls ls.length = [(j : Int)]) := by
  cases e : closesB ls with
  | true =>
    refine .inl ⟨rfl, ?_⟩
    unfold alone
    rw [show (List.range ls.length).filter (isLong ls) = [] from List.filter_eq_nil_iff.mpr fun i hi q => ?_]
    · rfl
    · have hi' := List.mem_range.mp hi
      have c := List.all_eq_true.mp e ls[i] (List.getElem_mem hi')
      have q' := of_decide_eq_true q
      rw [List.getD_eq_getElem?_getD, List.getElem?_eq_getElem hi'] at q'
      have c' := of_decide_eq_true c
      simp only [Option.getD_some] at q'
      omega
  | false =>
    unfold closesB at e
    rw [List.all_eq_false] at e
    obtain ⟨x, hx, nx⟩ := e
    obtain ⟨j, hjl, rfl⟩ := List.mem_iff_getElem.mp hx
    have hxs : ¬ 2 * ls[j] ≤ ls.sum := fun z => nx (decide_eq_true z)
    have lj : isLong ls j = true := by
      refine decide_eq_true ?_
      rw [List.getD_eq_getElem?_getD, List.getElem?_eq_getElem hjl]
      simp only [Option.getD_some]
      omega
    refine .inr ⟨rfl, j, hjl, lj, ?_⟩
    unfold alone
    rw [filter_uniq ls.length hjl lj fun i hi q => long_uniq h0 hi hjl q lj]
    rfl
theorem alone_c {ls : List Int} (h0 : ∀ x ∈ ls, 0 ≤ x) : closesB ls = (alone ls ls.length).isEmpty ∧ (alone ls ls.length).length ≤ 1 := by
  rcases alone_two h0 with ⟨e, a⟩ | ⟨e, j, _, _, a⟩
  · rw [e, a]
    exact ⟨rfl, by decide⟩
  · rw [e, a]
    exact ⟨rfl, Nat.le_refl _⟩
theorem lotsN_lot {n : Nat} {l : List Int} (h : l ∈ lotsN n) : Lot n l := ⟨lotsN_nodup n l h, lotsN_in n l h⟩
theorem level_any {ls : List Int} {xs : List V} {kf : V → List Int} (p : (xs.map kf).Perm (lotsN ls.length)) : inV (.str "level") (xs.map fun x => V.str (sortV ls (kf x))) = levelB ls := by
  rw [level_lots]
  have e1 : (lotsN ls.length).any (fun l => decide (2 * lsum ls l = ls.sum)) = (xs.map kf).any fun l => decide (2 * lsum ls l = ls.sum) := by
    rw [Bool.eq_iff_iff, List.any_eq_true, List.any_eq_true]
    exact ⟨fun ⟨x, hx, q⟩ => ⟨x, p.mem_iff.mpr hx, q⟩, fun ⟨x, hx, q⟩ => ⟨x, p.mem_iff.mp hx, q⟩⟩
  rw [e1, List.any_map]
  unfold inV
  rw [List.any_map]
  congr 1
  funext x
  show decide (sortV ls (kf x) = "level") = decide (2 * lsum ls (kf x) = ls.sum)
  rcases sort_cases ls (kf x) with ⟨a, e⟩ | ⟨a, e⟩ | ⟨a, e⟩ <;> rw [e]
  · rw [decide_eq_true rfl, decide_eq_true a]
  · rw [decide_eq_false ne_sv, decide_eq_false (by omega)]
  · rw [decide_eq_false ne_lv, decide_eq_false (by omega)]
theorem even_of {ls : List Int} (h : levelB ls = true) : ls.sum % 2 = 0 := by
  rw [level_lots, List.any_eq_true] at h
  obtain ⟨l, _, q⟩ := h
  have := of_decide_eq_true q
  omega
theorem ne_bb {a b : Bool} (h : a = b) : (!decide (V.bl a = V.bl b)) = false := by rw [h, decide_eq_true rfl]; rfl
theorem ne_vv (v : V) : (!decide (v = v)) = false := by rw [decide_eq_true rfl]; rfl
theorem at_back {α : Type} {xs : List α} {v : α} (hl : 0 < xs.length) (h : xs[xs.length - 1]? = some v) : atI xs (-1) = some v := by
  unfold atI ixN
  rw [if_neg (by decide), if_pos (by omega), show ((-1 : Int) + (xs.length : Int)).toNat = xs.length - 1 by omega]
  exact h
theorem shaped_nil : SeqAt.shaped (.list []) = true := shaped_ints []
end K
namespace K
open PySem L2 Rg
open Evl (pss_cut)
theorem Bd.app {m : Int} {a b : List Int} (h : Bd m a) (k : Bd m b) : Bd m (a ++ b) := fun x hx => (List.mem_append.mp hx).elim (h x) (k x)
theorem Bd.take {m : Int} {a : List Int} (i : Nat) (h : Bd m a) : Bd m (a.take i) := fun x hx => h x (List.mem_of_mem_take hx)
theorem Bd.drop {m : Int} {a : List Int} (i : Nat) (h : Bd m a) : Bd m (a.drop i) := fun x hx => h x (List.mem_of_mem_drop hx)
theorem Bd.one {m x : Int} (h1 : 1 ≤ x) (h2 : x ≤ m) : Bd m [x] := fun y hy => by rw [List.mem_singleton.mp hy]; exact ⟨h1, h2⟩
theorem getD_mem {ls : List Int} {i : Nat} (h : i < ls.length) : ls.getD i 0 ∈ ls := by
  rw [List.getD_eq_getElem?_getD, List.getElem?_eq_getElem h]
  exact List.getElem_mem h
theorem Bd.get {m : Int} {ls : List Int} (h : Bd m ls) {i : Nat} (hi : i < ls.length) : 1 ≤ ls.getD i 0 ∧ ls.getD i 0 ≤ m := h _ (getD_mem hi)
theorem cut_from (xs : List V) {z : Int} {k : Nat} (hz : z = (k : Int)) : cutV xs (some z) none = xs.drop k := by
  subst hz
  unfold cutV
  rw [HT.sIx_nat, HT.sIx_none]
  by_cases h : k ≤ xs.length
  · rw [Nat.min_eq_left h, List.take_of_length_le (by rw [List.length_drop]; omega)]
  · rw [Nat.min_eq_right (by omega), List.drop_eq_nil_of_le (Nat.le_refl _), List.drop_eq_nil_of_le (show xs.length ≤ k by omega), List.take_nil]
theorem getL {ls : List Int} {z : Int} {i : Nat} (hz : z = (i : Int)) (h1 : i < ls.length) : atI (ls.map V.int) z = some (V.int (ls.getD i 0)) := by
  subst hz
  have h : (ls.map V.int)[i]? = some (V.int (ls.getD i 0)) := by rw [int_get h1, List.getD_eq_getElem?_getD, List.getElem?_eq_getElem h1]; rfl
  exact atI_nat h
theorem natB_len (n : Nat) : (natB (List.range n)).length = n := by unfold natB; rw [List.length_map, List.length_range]
theorem natB_sorted (n : Nat) : (natB (List.range n)).Pairwise (· ≤ ·) := by
  unfold natB
  rw [List.pairwise_map]
  exact List.pairwise_lt_range.imp fun h => by omega
theorem sorted_eq {a b : List Int} (p : a.Perm b) (ha : a.Pairwise (· ≤ ·)) (hb : b.Pairwise (· ≤ ·)) : a = b := List.Perm.eq_of_pairwise (fun x y _ _ h1 h2 => Int.le_antisymm h1 h2) ha hb p
theorem natB_mem {n : Nat} {x : Int} (h : x ∈ natB (List.range n)) : 0 ≤ x ∧ x < n := by
  obtain ⟨j, hj, rfl⟩ := List.mem_map.mp h
  have := List.mem_range.mp hj
  omega
def ordL (ls ns : List Int) : List Int := ns.map fun b => ls.getD b.toNat 0
theorem ordL_take {ls ns : List Int} {i : Nat} {z : Int} (h : ns[i]? = some z) : ordL ls (ns.take (i + 1)) = ordL ls (ns.take i) ++ [ls.getD z.toNat 0] := by
  unfold ordL
  rw [← take_snoc h, List.map_append]
  rfl
theorem ordL_len (ls ns : List Int) : (ordL ls ns).length = ns.length := List.length_map ..
theorem ordL_bd {ls ns : List Int} {m : Int} (b : Bd m ls) (p : ns.Perm (natB (List.range ls.length))) : Bd m (ordL ls ns) := fun x hx => by
  obtain ⟨z, hz, rfl⟩ := List.mem_map.mp hx
  have := natB_mem (p.mem_iff.mp hz)
  exact b.get (by omega)
theorem get_z {ls : List Int} {z : Int} (h0 : 0 ≤ z) (h1 : z < ls.length) : atI (ls.map V.int) z = some (V.int (ls.getD z.toNat 0)) := getL (i := z.toNat) (by omega) (by omega)
theorem eqvA_pd (a b : List Int) : PyData.eqv (.list (a.map PyData.int)) (.list (b.map PyData.int)) = decide (a = b) := by
  simp [PyData.eqv, Rg.eqvA_ints8]
section
variable {P : Program} {w : World} {K : PySem.W.Frag} {mg : Str → Option Value} {base : Heap}
theorem RingW.same {C : Addr} {H H' : Hp} {r : Addr} {ls : List Int} (h : RingW K C H r ls) (s : Same H H') : RingW K C H' r ls := by
  obtain ⟨dx, t, h1, h2⟩ := h
  exact ⟨dx, t, s _ _ h1, s.tup h2⟩
/-- a new ring is told, all that was tracked stands -/
def NewA (K : PySem.W.Frag) (C : Addr) (ls : List Int) (H : Hp) (Q : VK) : Prop := ∀ r H', RingAt K C H' r ls → Same H H' → H r = none → Q (.ref r) H'
theorem NewA.later {C : Addr} {ls : List Int} {H H1 : Hp} {Q : VK} (h : NewA K C ls H Q) (s : Same H H1) : NewA K C ls H1 Q := fun r H' a b c => h r H' a (s.trans b) (s.free c)
/-! ### want_bar, want_number of what is one -/
def spBarV : Sp := fun vs H Q _ => ∃ (v many : Int), vs = [.int v, .int many] ∧ 0 ≤ v ∧ v < many ∧ Q .non H
theorem ok_barV {f fW : Addr} {fd fdW : FuncData} (F : Fun K "want_bar" "want_bar" sWantBar f fd) (W : DefAt P w K mg base CX0 2 "is_within" ["value", "least", "most"] spWithin fW fdW) : FnOk P w K mg base CX0 3 f fd ["value", "many"] spBarV := by
  refine F.ok scWantBar (fun vs H Q E h => ?_) (fun cdv A outer s H vs Q E hr h => ?_)
  · obtain ⟨v, many, rfl, _⟩ := h
    rfl
  · refine ⟨_, pss_one (ps_if (pt_not (pt_val (pe_call W.ok hr rfl W.g W.kp W.b .nil pass0 (pa_cons (pv 0) (pa_cons pe_int (pa_cons (pe_op op_sub (pv 1) pe_int) pa_nil)))))) (pss_one ps_never) pss_nil), ?_⟩
    obtain ⟨v, many, rfl, h0, h1, q⟩ := h
    refine ⟨_, rfl, _, rfl, _, _, rfl, rfl, v, 0, many - 1, rfl, _, rfl, ?_⟩
    refine iteBF ?_ q
    simp only [decide_eq_true h0, decide_eq_true (show v ≤ many - 1 by omega)]
    rfl
def spNumV : Sp := fun vs H Q _ => ∃ (v lo hi : Int) (part : Str), vs = [.int v, .int lo, .int hi, .str part] ∧ lo ≤ v ∧ v ≤ hi ∧ Q .non H
theorem scWantNum : FnScope ["value", "least", "most", "part"] ["value", "least", "most", "part"] (defScope sWantNumber) := ⟨rfl, rfl, rfl, by decide +kernel, rfl, by decide +kernel, by decide +kernel⟩
theorem ok_numV {f fW : Addr} {fd fdW : FuncData} (F : Fun K "want_number" "want_number" sWantNumber f fd) (W : DefAt P w K mg base CX0 2 "is_within" ["value", "least", "most"] spWithin fW fdW) : FnOk P w K mg base CX0 3 f fd ["value", "least", "most", "part"] spNumV := by
  refine F.ok scWantNum (fun vs H Q E h => ?_) (fun cdv A outer s H vs Q E hr h => ?_)
  · obtain ⟨v, lo, hi, part, rfl, _⟩ := h
    rfl
  · refine ⟨_, pss_one (ps_if (pt_not (pt_val (pe_call W.ok hr rfl W.g W.kp W.b .nil pass0 (pa_cons (pv 0) (pa_cons (pv 1) (pa_cons (pv 2) pa_nil)))))) (pss_one ps_never) pss_nil), ?_⟩
    obtain ⟨v, lo, hi, part, rfl, h0, h1, q⟩ := h
    refine ⟨_, rfl, _, rfl, _, rfl, v, lo, hi, rfl, _, rfl, ?_⟩
    refine iteBF ?_ q
    simp only [decide_eq_true h0, decide_eq_true h1]
    rfl
/-! ### is_within of anything -/
/-- what is_within tells of a value of the kind k -/
def winB (k : String) (lo hi : Int) (v : V) : Bool := decide (k = "int") && match v with
  | .int i => decide (lo ≤ i) && decide (i ≤ hi)
  | _ => false
def spWithinO (K : PySem.W.Frag) : Sp := fun vs H Q _ => ∃ (v : V) (k : String) (lo hi : Int), vs = [v, .int lo, .int hi] ∧ Knd K H v k ∧ k ≠ "int" ∧ Q (.bl false) H
theorem ok_withinO {f fI : Addr} {fd fdI : FuncData} (F : Fun K "is_within" "is_within" sIsWithin f fd) (G : DefAt P w K mg base CX0 1 "is_integer" ["value"] (spIsInt K) fI fdI) : FnOk P w K mg base CX0 2 f fd ["value", "least", "most"] (spWithinO K) := by
  refine F.ok scWithin (fun vs H Q E h => ?_) (fun cdv A outer s H vs Q E hr h => ?_)
  · obtain ⟨v, k, lo, hi, rfl, _⟩ := h
    rfl
  · refine ⟨_, pss_cons (ps_if (pt_not (pt_val (pe_call G.ok hr rfl G.g G.kp G.b .nil pass0 (pa_cons (pv 0) pa_nil)))) (pss_one (ps_ret pe_bl)) pss_nil) (pss_one ps_never), ?_⟩
    obtain ⟨v, k, lo, hi, rfl, hk, nk, q⟩ := h
    refine ⟨_, rfl, v, k, rfl, hk, _, rfl, ?_⟩
    rw [decide_eq_false nk]
    exact iteT q
/-- a value, of a kind, that is an int just if the kind says so -/
def KndI (K : PySem.W.Frag) (H : Hp) (v : V) (k : String) : Prop := Knd K H v k ∧ (k = "int" → ∃ i, v = .int i)
def spWithinG (K : PySem.W.Frag) : Sp := fun vs H Q _ => ∃ (v : V) (k : String) (lo hi : Int), vs = [v, .int lo, .int hi] ∧ KndI K H v k ∧ Q (.bl (winB k lo hi v)) H
theorem ok_withinG {f fI : Addr} {fd fdI : FuncData} (F : Fun K "is_within" "is_within" sIsWithin f fd) (G : DefAt P w K mg base CX0 1 "is_integer" ["value"] (spIsInt K) fI fdI) : FnOk P w K mg base CX0 2 f fd ["value", "least", "most"] (spWithinG K) := by
  refine (fn_or (ok_within F G) (ok_withinO F G)).imp fun vs H Q E h => ?_
  obtain ⟨v, k, lo, hi, rfl, ⟨hk, hi'⟩, q⟩ := h
  by_cases c : k = "int"
  · obtain ⟨i, rfl⟩ := hi' c
    refine .inl ⟨i, lo, hi, rfl, ?_⟩
    unfold winB at q
    rw [decide_eq_true c, Bool.true_and] at q
    exact q
  · refine .inr ⟨v, k, lo, hi, rfl, hk, c, ?_⟩
    unfold winB at q
    rw [decide_eq_false c, Bool.false_and] at q
    exact q
/-! ### want_bar, want_number of anything -/
def spBarG (K : PySem.W.Frag) (C : Addr) : Sp := fun vs H Q E => ∃ (v : V) (k : String) (many : Int), vs = [v, .int many] ∧ KndI K H v k ∧ ((winB k 0 (many - 1) v = true ∧ Q .non H) ∨ (winB k 0 (many - 1) v = false ∧ Errs E C "value" v H))
theorem ok_barG {f fW C fI : Addr} {fd fdW fdI : FuncData} (F : Fun K "want_bar" "want_bar" sWantBar f fd) (W : DefAt P w K mg base CX0 2 "is_within" ["value", "least", "most"] (spWithinG K) fW fdW) (B : ErrAt P w K mg base "NoBar" "value" C fI fdI) :
    FnOk P w K mg base (L2.CX P w) 3 f fd ["value", "many"] (spBarG K C) := by
  refine F.okX scWantBar (fun vs H Q E h => ?_) (fun cdv A outer s H vs Q E hr h => ?_)
  · obtain ⟨v, k, many, rfl, _⟩ := h
    rfl
  · refine ⟨_, pss_one (ps_if (pt_not (pt_val (pe_call W.ok hr rfl W.g W.kp W.b .nil pass0 (pa_cons (pv 0) (pa_cons pe_int (pa_cons (pe_op op_sub (pv 1) pe_int) pa_nil))))))
      (pss_one (ps_raise rfl (takes_of rfl rfl rfl rfl) (pmk_oex B.oex B.ic B.ti B.ok hr B.b .nil pass0 rfl B.g (pa_cons (pv 0) pa_nil)))) pss_nil), ?_⟩
    obtain ⟨v, k, many, rfl, hk, h⟩ := h
    refine ⟨_, rfl, _, rfl, _, _, rfl, rfl, v, k, 0, many - 1, rfl, hk, _, rfl, ?_⟩
    rcases h with ⟨e, q⟩ | ⟨e, q⟩
    · rw [e]; exact iteF q
    · rw [e]; exact iteT ⟨_, rfl, err_made B.oex B.nf q⟩
theorem madeL2 {C l : Addr} {E : XK} {H : Hp} {ls : List Int} {R : Addr → VK} (hs : H l = some (.lst (ls.map V.int))) (l3 : 3 ≤ ls.length) (l8 : ls.length ≤ 8) (bd : Bd 1000000 ls) (h : ∀ r H', RingAt K C H' r ls → Same H H' → H r = none → R r .non H') :
    ∀ x dx, H x = none → H dx = none → dx ≠ x → spRI K C (.ref x :: ([.ref l] ++ [])) (upd (upd H dx (.own x)) x (.ins C dx [])) (R x) E := by
  intro x dx hx hdx _
  have s0 : Same H (upd (upd H dx (.own x)) x (.ins C dx [])) := fun b o q => by
    rw [upd_ne (ne_of_none q hx), upd_ne (ne_of_none q hdx)]
    exact q
  exact ⟨x, l, dx, ls, rfl, upd_same, ⟨.base (.lst (s0 _ _ hs)), by decide⟩, SqL.of (s0 _ _ hs), l3, l8, bd, fun H' ring kp => h x H' ring (fun b o e => kp b o (s0 b o e) (ne_of_none e hx)) hx⟩
/-- the making of a Ring of a right list -/
structure RingP (P : Program) (w : World) (K : PySem.W.Frag) (mg : Str → Option Value) (base : Heap) (C fI : Addr) (fdI : FuncData) : Prop where
  made : Mk K C fI
  ok : FnOk P w K mg base CX0 4 fI fdI ["self", "lengths"] (spRI K C)
  b : Binds K fdI ["self", "lengths"] []
theorem sl_to {a : Addr} {ls : List Int} {i : Nat} {H : Hp} {Q : VK} (hs : SqT K H a (ls.map V.int)) (hi : i < ls.length) (k : ∀ t, H t = none → Q (.ref t) (upd H t (.tup ((ls.take i).map V.int)))) : rSlA K (.ref a) none (some (i : Int)) H Q := by
  refine ⟨a, _, rfl, hs, fun ⟨_, e2⟩ => ?_, fun _ p hp => ?_⟩
  · rw [HT.sIx_nat, List.length_map] at e2
    omega
  · rw [cutV_to, ← List.map_take]
    exact k p hp
theorem sl_from {a : Addr} {ls : List Int} {z : Int} {i : Nat} {H : Hp} {Q : VK} (hs : SqT K H a (ls.map V.int)) (hz : z = ((i + 1 : Nat) : Int)) (h0 : 0 < ls.length) (k : ∀ t, H t = none → Q (.ref t) (upd H t (.tup ((ls.drop (i + 1)).map V.int)))) : rSlA K (.ref a) (some z) none H Q := by
  refine ⟨a, _, rfl, hs, fun ⟨e1, _⟩ => ?_, fun _ p hp => ?_⟩
  · subst hz
    rw [HT.sIx_nat, List.length_map] at e1
    omega
  · rw [cut_from _ hz, ← List.map_drop]
    exact k p hp
theorem catI {a b : Addr} {xs ys : List Int} {H : Hp} {Q : VK} (ha : H a = some (.tup (xs.map V.int))) (hb : H b = some (.tup (ys.map V.int))) (hl : xs.length + ys.length ≤ 1000) (k : ∀ t H', H' t = some (.tup ((xs ++ ys).map V.int)) → Same H H' → Q (.ref t) H') : rCatA K (.ref a) (.ref b) H Q := by
  refine ⟨a, b, _, _, rfl, rfl, .inl (.inl ha), .inl (.inl hb), by rw [List.length_map, List.length_map]; exact Nat.le_of_lt (sm (by omega)), fun e => k b H ?_ (Same.refl H), fun _ e => k a H ?_ (Same.refl H), fun _ _ p hp => k p _ ?_ ((Same.refl H).new hp)⟩
  · rw [List.map_eq_nil_iff.mp e]; exact hb
  · rw [List.map_eq_nil_iff.mp e, List.append_nil]; exact ha
  · rw [upd_same, List.map_append]
end
end K
namespace K
open PySem L2 Rg LamX
open Evl (pss_cut)
/-! ### tables -/
abbrev qLaw : Str := "_law_refused_right.<locals>.<lambda>"
abbrev qIO : Str := "in_order.<locals>.<lambda>"
abbrev T2 (P1 P2 : Addr) : List (Addr × Str) := [(P1, qLaw), (P2, qIO)]
/-- a def whose code object stands at c -/
structure FunC (K : PySem.W.Frag) (x qual : Str) (st : Stmt) (f : Addr) (fd : FuncData) (c : Addr) : Prop where
  ex : ∃ (oc : Value) (od : Option Addr) (kV doc pm : Value) (an : Option Addr) (ct : Value) (osl : Array (Option Value)),
    fd = PySem.W.fnOf x qual (defArgs st) (defBody st) (defScope st) .none kV doc pm an (.ref c) ct ∧ K.lookup f = some ⟨oc, od, .func fd, osl⟩ ∧ PySem.W.codeIn K (.ref c) qual = true
theorem FunC.ok {P : Program} {w : World} {K : PySem.W.Frag} {mg : Str → Option Value} {base : Heap} {x qual : Str} {st : Stmt} {f c : Addr} {fd : FuncData} {N ps : List Str} {k : Nat} {sp : Sp} (F : FunC K x qual st f fd c) (S : FnScope N ps (defScope st)) (len : ∀ vs H Q E, sp vs H Q E → vs.length = ps.length)
    (hbody : ∀ (A : Around) (outer : List Env) (s : Shared) (H : Hp) (vs : List V) (Q : VK) (E : XK), Room k (A.deeper (PyProof.Rows.envOfC qual (defScope st) s.heap.objs.size f (.ref c))) → sp vs H Q E →
      ∃ t, PSs (cxOf CX0 P w K mg base N qual (defScope st) f (.ref c) A outer s H E).nox (defBody st) t ∧ t { nx := fun _ H' => Q .non H', rt := Q } (L2.start N vs) H) : FnOk P w K mg base CX0 (k + 1) f fd ps sp := by
  obtain ⟨oc, od, kV, doc, pm, an, ct, osl, rfl, lk, hcd⟩ := F.ex
  exact fn_of lk hcd S len fun A outer s H vs Q E hr hsp => by
    obtain ⟨t, h, q⟩ := hbody A outer s H vs Q E hr hsp
    exact ⟨t, h.nox, q⟩
/-- a promise that no error is told in -/
theorem fn_calm {P : Program} {w : World} {K : PySem.W.Frag} {mg : Str → Option Value} {base : Heap} {k : Nat} {f : Addr} {fd : FuncData} {ps : List Str} {sp : Sp} (F : FnOk P w K mg base (L2.CX P w) k f fd ps sp) : FnOk P w K mg base CX0 k f fd ps (fun vs H Q _ => sp vs H Q fun _ _ _ => False) :=
  ⟨fun vs H Q E h => F.len _ _ _ _ h, fun A outer s H args us vs Q E hr e0 hb hv h => codeAny_mono (F.run A outer s H args us vs Q (fun _ _ _ => False) hr e0 hb hv h) fun r s' hq => by
    cases r with
    | ok fl => cases fl <;> exact hq
    | error e =>
      obtain ⟨_, _, _, _, _, _, _, _, _, _, _, _, z⟩ := hq
      exact z⟩
section
variable {P : Program} {w : World} {K : PySem.W.Frag} {mg : Str → Option Value} {base : Heap}
/-! ### in_order -/
def spInOrd (K : PySem.W.Frag) (T : List (Addr × Str)) : Sp := fun vs H Q _ => ∃ (a : Addr) (xs : List V) (k : V → List Int), vs = [.ref a] ∧ SqL K H a xs ∧ (∀ x ∈ xs, ∃ t, x = V.ref t ∧ H t = some (.tup ((k x).map V.int))) ∧ Tabs T H ∧
  ∀ H' p ys, ExtN H H' → Tabs T H' → ys.Perm xs → (ys.Pairwise fun u v => lotLe (k u) (k v) = true) → H' p = some (.tup ys) → Q (.ref p) H'
theorem scInOrd : FnScope ["lots"] ["lots"] (defScope sInOrder) := ⟨rfl, rfl, rfl, by decide +kernel, rfl, by decide +kernel, by decide +kernel⟩
theorem ok_inOrd {cd P1 P2 f : Addr} {fd : FuncData} (F : FunC K "in_order" "in_order" sInOrder f fd cd) (T : Bi mg) (TB : TabB base mg cd P2) (hmT : (P2, qIO) ∈ T2 P1 P2) (hu : ∀ p ∈ T2 P1 P2, p.1 = P2 → p.2 = qIO) : FnOk P w K mg base CX0 2 f fd ["lots"] (spInOrd K (T2 P1 P2)) := by
  refine F.ok scInOrd (fun vs H Q E h => ?_) (fun A outer s H vs Q E hr h => ?_)
  · obtain ⟨a, xs, k, rfl, _⟩ := h
    rfl
  · refine ⟨_, pss_one (ps_ret (pe_callTy call_tuple_of (by rfl) T.tuple (by decide +kernel) (pa_cons (pe_sortLots hr.depth hr.units (by rfl) T.sorted T.len (pv 0) TB rfl hmT hu rfl rfl rfl rfl (by decide +kernel) rfl rfl rfl (fun _ _ _ _ _ => rfl)) pa_nil))), ?_⟩
    obtain ⟨a, xs, k, rfl, hs, hx, hT, q⟩ := h
    refine ⟨_, rfl, a, xs, k, rfl, hs, hx, hT, fun H2 p ys eN tb pm pw np => ⟨p, ys, rfl, .inl ⟨SqL.of upd_same, fun t ht => ?_⟩⟩⟩
    have s1 : Same H2 (upd (upd H2 p (.lst ys)) t (.tup ys)) := ((Same.refl H2).new np).new ht
    exact q _ t ys (eN.trans (ExtN.of s1)) (tb.ext s1) pm pw upd_same
/-! ### lots_of -/
def spLotsOf (K : PySem.W.Frag) (T : List (Addr × Str)) : Sp := fun vs H Q _ => ∃ n : Nat, vs = [.int n] ∧ 1 ≤ n ∧ n ≤ 8 ∧ Tabs T H ∧
  ∀ (p : Addr) (xs : List V) (kf : V → List Int) (H' : Hp), ExtN H H' → Tabs T H' → H' p = some (.tup xs) → LotsAt H' xs kf → (xs.map kf).Perm (lotsN n) → (xs.Pairwise fun u v => lotLe (kf u) (kf v) = true) → Q (.ref p) H'
abbrev nLotsOf : List Str := ["many", "lots", "bar", "lot"]
theorem scLotsOf : FnScope nLotsOf ["many"] (defScope sLotsOf) := ⟨rfl, rfl, rfl, by decide +kernel, rfl, by decide +kernel, by decide +kernel⟩
theorem ok_lotsOf {P1 P2 f fN fI : Addr} {fd fdN fdI : FuncData} (F : Fun K "lots_of" "lots_of" sLotsOf f fd) (T : Bi mg) (N : Nm mg) (NV : DefAt P w K mg base CX0 3 "want_number" ["value", "least", "most", "part"] spNumV fN fdN) (IO : DefAt P w K mg base CX0 2 "in_order" ["lots"] (spInOrd K (T2 P1 P2)) fI fdI) : FnOk P w K mg base CX0 4 f fd ["many"] (spLotsOf K (T2 P1 P2)) := by
  refine F.ok scLotsOf (fun vs H Q E h => ?_) (fun cdv A outer s H vs Q E hr h => ?_)
  · obtain ⟨n, rfl, _⟩ := h
    rfl
  · have nd := scLotsOf.nd
    obtain ⟨t8, h8⟩ := N.mostB
    refine ⟨_, pss_cons (ps_expr (pe_call NV.ok hr rfl NV.g NV.kp NV.b .nil pass0 (pa_cons (pv 0) (pa_cons pe_int (pa_cons (pe_glob (v := .int 8) rfl h8 ⟨_, rfl⟩) (pa_cons pe_str pa_nil))))))
      (pss_cons (ps_set (i := 1) nd rfl (Or.inl rfl) (pe_lst (pa_cons (pe_tup pa_nil) pa_nil)))
      (pss_cons (ps_for PassesOwn.never rfl (pi_range1 (by rfl) T.range (pa_cons (pv 0) pa_nil)) (pg_name (i := 2) nd rfl (Or.inr rfl)) (pss_one (ps_set (i := 1) nd rfl (Or.inl rfl) (pe_op op_cat (pv 1) (pe_lc (own := [("lot", 3)]) (g := gName 3) (tt := tYes) (te := tOp (rCatA K) (tVar 3) (tTup (tCons (tVar 2) tNil))) rfl nd (pi_list (pv 1))
        (blkOk_by (N := nLotsOf) (sc := defScope sLotsOf) (by decide +kernel)) (fun _ _ _ _ _ => pg_name (i := 3) nd rfl (Or.inl rfl)) (fun _ _ _ _ _ => pts_nil) (fun _ _ _ _ _ => pe_op op_catA (pv 3) (pe_tup (pa_cons (pv 2) pa_nil))))))))
      (pss_one (ps_ret (pe_call IO.ok (hr.mono (by decide)) rfl IO.g IO.kp IO.b .nil pass0 (pa_cons (pv 1) pa_nil)))))), ?_⟩
    obtain ⟨n, rfl, n1, n8, tab, q⟩ := h
    refine ⟨_, rfl, n, 1, 8, "many", rfl, by omega, by omega, ?_⟩
    refine ⟨(by show 0 ≤ sizeLine; decide), fun e0 he0 => ⟨(by show 1 ≤ sizeLine; decide), fun l0 hl0 => ?_⟩⟩
    have s0 : Same H (upd (upd H e0 (.tup [])) l0 (.lst [.ref e0])) := ((Same.refl H).new he0).new hl0
    have he1 : upd (upd H e0 (.tup [])) l0 (.lst [.ref e0]) e0 = some (.tup []) := by rw [upd_ne (ne_of_none upd_same hl0), upd_same]
    refine ⟨_, rfl, _, rfl, by omega, by omega, ?_⟩
    refine for_range (lo := 0) (n := ((n : Nat) : Int).toNat) (fun i σ H' => ∃ (l : Addr) (t : Option V) (xs : List V), σ = [some (.int n), some (.ref l), t, none] ∧ Same H H' ∧ H' l = some (.lst xs) ∧ TL H' xs (lotsN i))
      ⟨l0, none, [.ref e0], rfl, s0, upd_same, .cons ⟨e0, rfl, he1⟩ .nil⟩ ?_ ?_
    · rintro i σ H' hi ⟨l, t, xs, rfl, s1, h1, tl⟩
      have hi8 : i < 8 := by omega
      have hxl : xs.length = 2 ^ i := by rw [par_len tl, lotsN_length]
      have h256 : 2 ^ i ≤ 128 := Nat.pow_le_pow_right (by decide) (show i ≤ 7 by omega)
      rw [Int.zero_add]
      refine ⟨_, rfl, _, rfl, l, rfl, ⟨_, SqL.of h1⟩, fun D hD => ?_⟩
      refine lc_list (K := K) (a := l) (xs := xs) (fun j H2 => Same H' H2 ∧ ∃ ys, H2 D = some (.lst ys) ∧ TL H2 ys (((lotsN i).take j).map (· ++ [(i : Int)]))) ⟨(Same.refl H').new hD, [], upd_same, .nil⟩ (fun j H2 _ p => p.1.seq (SqL.of h1)) ?_ ?_
      · rintro j y H2 hj ⟨s2, ys, h2, yl⟩
        obtain ⟨ns, hns, a, rfl, ha⟩ := par_get tl hj
        have ha2 := s2 _ _ ha
        have hjl : j < (lotsN i).length := (List.getElem?_eq_some_iff.mp hns).1
        have hyl : ys.length < sizeLine := by
          have := lotsN_length i
          rw [par_len yl, List.length_map, List.length_take]
          exact sm (by omega)
        have fin : ∀ (c : Addr) (H3 : Hp), Same H2 H3 → H3 c = some (.tup ((ns ++ [(i : Int)]).map V.int)) → ∃ acc, H3 D = some (.lst acc) ∧ acc.length < sizeLine ∧ (Same H' (upd H3 D (.lst (acc ++ [.ref c]))) ∧ ∃ zs, upd H3 D (.lst (acc ++ [.ref c])) D = some (.lst zs) ∧ TL (upd H3 D (.lst (acc ++ [.ref c]))) zs (((lotsN i).take (j + 1)).map (· ++ [(i : Int)]))) := by
          intro c H3 s3 hc
          have s4 : ∀ (q : Addr) (us : List V), H3 q = some (.tup us) → upd H3 D (.lst (ys ++ [.ref c])) q = some (.tup us) := fun q us hq => by
            rw [upd_ne fun e => ?_]
            · exact hq
            · rw [e, s3 _ _ h2] at hq
              cases hq
          refine ⟨ys, s3 _ _ h2, hyl, (s2.trans s3).mut hD, _, upd_same, ?_⟩
          rw [← take_snoc hns, List.map_append]
          exact par_app (par_imp (fun _ _ ⟨q, e, hq⟩ => ⟨q, e, s4 _ _ hq⟩) (yl.same s3)) (.cons ⟨c, rfl, s4 _ _ hc⟩ .nil)
        refine ⟨rfl, _, rfl, _, rfl, (by show 1 ≤ sizeLine; decide), fun b hb => ⟨a, b, ns.map V.int, [.int i], rfl, rfl, .inl (.inl (by rw [upd_ne (ne_of_none ha2 hb)]; exact ha2)), .inl (.inl upd_same), ?_, fun e => ?_, (fun _ z => by cases z), fun _ _ p hp => ?_⟩⟩
        · have := lotsN_len i ns (List.mem_of_getElem? hns)
          rw [List.length_map, List.length_singleton]
          exact Nat.le_of_lt (sm (by omega))
        · have e' : ns = [] := by cases ns with
            | nil => rfl
            | cons _ _ => cases e
          subst e'
          exact fin b _ ((Same.refl H2).new hb) upd_same
        · refine fin p _ (((Same.refl H2).new hb).new hp) ?_
          rw [upd_same, List.map_append]
          rfl
      · rintro H2 ⟨s2, ys, h2, yl⟩
        have eh : xs.length = (lotsN i).length := par_len tl
        rw [eh, List.take_length] at yl
        refine ⟨l, D, _, _, rfl, rfl, s2 _ _ h1, h2, ?_, fun p hp => ⟨p, _, _, rfl, (s1.trans s2).new hp, upd_same, ?_⟩⟩
        · rw [par_len yl, List.length_map, ← eh]
          exact Nat.le_of_lt (sm (by omega))
        · have s3 : Same H2 (upd H2 p (.lst (xs ++ ys))) := (Same.refl H2).new hp
          rw [lotsN_succ]
          exact par_app (tl.same (s2.trans s3)) (yl.same s3)
    · rintro σ H' ⟨l, t, xs, rfl, s1, h1, tl⟩
      rw [Int.toNat_natCast] at tl
      refine ⟨_, rfl, l, xs, cont H', rfl, SqL.of h1, fun x hx => ?_, tab.ext s1, fun H2 p ys eN tb pm pw hp => ?_⟩
      · obtain ⟨ns, _, a, rfl, ha⟩ := par_mem tl hx
        exact ⟨a, rfl, by rw [cont_at ha]; exact ha⟩
      · have e2 : xs.map (cont H') = lotsN n := par_map (fun a b ⟨t, e, h⟩ => by rw [e, cont_at h]) tl
        refine q p ys (cont H') H2 ((ExtN.of s1).trans eN) tb hp (fun x hx => ?_) (by rw [← e2]; exact pm.map _) pw
        obtain ⟨ns, _, a, rfl, ha⟩ := par_mem tl (pm.mem_iff.mp hx)
        exact ⟨a, rfl, by rw [cont_at ha]; exact eN _ _ ha (fun _ z => nomatch z)⟩
/-! ### lots_less -/
def lessN (ns : List Int) (i : Nat) : List (List Int) := (List.range i).map fun j => ns.take j ++ ns.drop (j + 1)
theorem lessN_succ (ns : List Int) (i : Nat) : lessN ns (i + 1) = lessN ns i ++ [ns.take i ++ ns.drop (i + 1)] := by
  unfold lessN
  rw [List.range_succ, List.map_append]
  rfl
theorem lessN_len (ns : List Int) (i : Nat) : (lessN ns i).length = i := by unfold lessN; rw [List.length_map, List.length_range]
end
end K
namespace K
open PySem L2 Rg LamX
/-! ### one order of all lots -/
theorem dec_str (a b : Str) : decide (V.str a = V.str b) = decide (a = b) := by
  by_cases e : a = b
  · rw [e]; simp
  · rw [decide_eq_false e, decide_eq_false fun z => e (V.str.inj z)]
def lotK (l : List Int) : List Int := (l.length : Int) :: l
def LLe (u v : List Int) : Prop := HT.lexLt (lotK v) (lotK u) = false
theorem lex_nil2 : HT.lexLt [] [] = false := rfl
theorem lex_nc (y : Int) (ys : List Int) : HT.lexLt [] (y :: ys) = true := rfl
theorem lexLt_anti : ∀ a b : List Int, HT.lexLt a b = false → HT.lexLt b a = false → a = b
  | [], [], _, _ => rfl
  | [], _ :: _, h, _ => by rw [lex_nc] at h; cases h
  | _ :: _, [], _, h => by rw [lex_nc] at h; cases h
  | x :: a, y :: b, h, g => by
    rw [HT.lexLt_cons] at h g
    by_cases e : x = y
    · subst e
      rw [if_pos rfl] at h g
      rw [lexLt_anti a b h g]
    · rw [if_neg e] at h
      rw [if_neg fun z => e z.symm] at g
      have := of_decide_eq_false h
      have := of_decide_eq_false g
      omega
theorem LLe.anti {u v : List Int} (h : LLe u v) (g : LLe v u) : u = v := by
  have := lexLt_anti _ _ g h
  unfold lotK at this
  exact (List.cons.inj this).2
theorem ints_lt : ∀ a b : List Int, PyProof.Rows.lexLt PyProof.Rows.itemOrd (PySem.W.keyToksAll (a.map PyData.int)) (PySem.W.keyToksAll (b.map PyData.int)) = HT.lexLt a b
  | [], [] => by rw [lex_nil2]; exact PyProof.Rows.lex_irrefl _
  | [], y :: b => by
    rw [lex_nc, List.map_nil, List.map_cons, PySem.W.keyToksAll, PySem.W.keyToksAll, PyProof.Rows.lex_diff (by simp)]
    decide +kernel
  | x :: a, [] => by
    rw [HT.lexLt_cons_nil, List.map_nil, List.map_cons, PySem.W.keyToksAll, PySem.W.keyToksAll, PyProof.Rows.lex_diff (by simp)]
    decide +kernel
  | x :: a, y :: b => by
    rw [List.map_cons, List.map_cons, PySem.W.dataLt_cons (by simp [PySem.W.alike]), HT.lexLt_cons, PySem.W.dataLt_int, ints_lt a b]
    by_cases e : x = y
    · rw [if_pos e, if_pos (by simp [PyData.eqv, e])]
    · rw [if_neg e, if_neg (by simp [PyData.eqv, e])]
theorem lot_lt (a b : List Int) : PySem.W.dataLt (lotKey a) (lotKey b) = HT.lexLt (lotK a) (lotK b) := by
  unfold lotKey lotK
  rw [PySem.W.dataLt_pair (by simp [PySem.W.alike]) (by simp [PySem.W.alike, PySem.W.alike_ints]), HT.lexLt_cons, PySem.W.dataLt_int, PySem.W.dataLt_tuple, ints_lt]
  by_cases e : (a.length : Int) = (b.length : Int)
  · rw [if_pos (by simp only [PyData.eqv]; exact beq_iff_eq.mpr e), if_pos e]
    by_cases c : a = b
    · subst c
      rw [if_pos (by simp [PyData.eqv, Rg.eqvA_ints8])]
      rw [← ints_lt]
      exact (PyProof.Rows.lex_irrefl _).symm
    · rw [if_neg (by simp [PyData.eqv, Rg.eqvA_ints8, c])]
  · rw [if_neg (by simp only [PyData.eqv]; exact fun z => e (eq_of_beq z)), if_neg e]
theorem lotLe_iff {u v : List Int} : lotLe u v = true ↔ LLe u v := by
  unfold lotLe LLe
  rw [lot_lt]
  cases HT.lexLt (lotK v) (lotK u) <;> simp
theorem uniq_of {α : Type} {R : α → α → Prop} (anti : ∀ a b, R a b → R b a → a = b) : ∀ {xs ys : List α}, xs.Perm ys → xs.Pairwise R → ys.Pairwise R → xs = ys
  | [], ys, p, _, _ => (List.nil_perm.mp p).symm
  | x :: xs, [], p, _, _ => by cases p.length_eq
  | x :: xs, y :: ys, p, hx, hy => by
    rw [List.pairwise_cons] at hx hy
    have e : x = y := by
      have m1 : y ∈ x :: xs := p.mem_iff.mpr (List.mem_cons_self ..)
      have m2 : x ∈ y :: ys := p.mem_iff.mp (List.mem_cons_self ..)
      rcases List.mem_cons.mp m1 with z | z
      · exact z.symm
      · rcases List.mem_cons.mp m2 with z' | z'
        · exact z'
        · exact anti _ _ (hx.1 _ z) (hy.1 _ z')
    subst e
    rw [uniq_of anti p.cons_inv hx.2 hy.2]
/-- all lots, in order -/
structure AllL (n : Nat) (L : List (List Int)) : Prop where
  pm : L.Perm (lotsN n)
  od : L.Pairwise LLe
theorem AllL.eq {n : Nat} {L M : List (List Int)} (a : AllL n L) (b : AllL n M) : L = M := uniq_of (fun _ _ => LLe.anti) (a.pm.trans b.pm.symm) a.od b.od
theorem AllL.filter {n : Nat} {L M : List (List Int)} (a : AllL n L) {p : List Int → Bool} (pm : M.Perm ((lotsN n).filter p)) (od : M.Pairwise LLe) : M = L.filter p := uniq_of (fun _ _ => LLe.anti) (pm.trans (a.pm.filter _).symm) od (a.od.filter _)
theorem AllL.len {n : Nat} {L : List (List Int)} (a : AllL n L) : L.length = 2 ^ n := by rw [a.pm.length_eq, lotsN_length]
/-! ### unlike lots -/
def unl (ls ms l : List Int) : Bool := !decide (sortV ls l = sortV ms l)
def shortB (ls l : List Int) : Bool := decide (sortV ls l = "short")
theorem unl_sym (ls ms l : List Int) : unl ls ms l = unl ms ls l := by
  unfold unl
  congr 1
  by_cases e : sortV ls l = sortV ms l
  · rw [decide_eq_true e, decide_eq_true e.symm]
  · rw [decide_eq_false e, decide_eq_false fun z => e z.symm]
theorem rest_short {ls l : List Int} (h : Lot ls.length l) : (sortV ls (restN ls.length l ls.length) = "short" ↔ sortV ls l = "long") := by
  rw [sort_rest (rest_sum h)]
  unfold opp
  rcases sort_cases ls l with ⟨_, e⟩ | ⟨_, e⟩ | ⟨_, e⟩ <;> rw [e]
  · simp only [if_neg (show ¬ (("level" : Str) = "short") from fun z => ne_sv z.symm), if_neg (show ¬ (("level" : Str) = "long") from fun z => ne_lv z.symm)]
    exact ⟨fun z => absurd z.symm ne_sv, fun z => absurd z.symm ne_lv⟩
  · simp only [if_pos]
    exact ⟨fun z => absurd z.symm ne_sl, fun z => absurd z ne_sl⟩
  · simp only [if_neg (show ¬ (("long" : Str) = "short") from fun z => ne_sl z.symm), if_pos]
theorem same_sorts {ls ms : List Int} (e : ls.length = ms.length) (h : ∀ l ∈ lotsN ls.length, shortB ls l = shortB ms l) : ∀ l ∈ lotsN ls.length, sortV ls l = sortV ms l := fun l hl => by
  have lot := lotsN_lot hl
  have lot2 : Lot ms.length l := by rw [← e]; exact lot
  have s1 : sortV ls l = "short" ↔ sortV ms l = "short" := by
    have := h l hl
    unfold shortB at this
    rw [decide_eq_decide] at this
    exact this
  have s2 : sortV ls l = "long" ↔ sortV ms l = "long" := by
    rw [← rest_short lot, ← rest_short lot2]
    have := h _ (nat_lots (fun j => !hasB l j) ls.length)
    unfold shortB at this
    rw [decide_eq_decide] at this
    rw [← e]
    exact this
  rcases sort_cases ls l with ⟨_, a⟩ | ⟨_, a⟩ | ⟨_, a⟩
  · rcases sort_cases ms l with ⟨_, b⟩ | ⟨_, b⟩ | ⟨_, b⟩
    · rw [a, b]
    · exact absurd (a.symm.trans (s1.mpr b)).symm ne_sv
    · exact absurd (a.symm.trans (s2.mpr b)).symm ne_lv
  · rw [a, s1.mp a]
  · rw [a, s2.mp a]
theorem filter_same {p q : List Int → Bool} {L : List (List Int)} (h : L.filter p = L.filter q) : ∀ l ∈ L, p l = q l := fun l hl => by
  cases c : p l with
  | true =>
    have m : l ∈ L.filter p := List.mem_filter.mpr ⟨hl, c⟩
    rw [h] at m
    exact (List.mem_filter.mp m).2.symm
  | false =>
    cases d : q l with
    | false => rfl
    | true =>
      have m : l ∈ L.filter q := List.mem_filter.mpr ⟨hl, d⟩
      rw [← h] at m
      rw [(List.mem_filter.mp m).2] at c
      cases c
/-- the books are the same just if no lot is unlike -/
theorem books {ls ms : List Int} {L : List (List Int)} (e : ls.length = ms.length) (a : AllL ls.length L) : decide (L.filter (shortB ls) = L.filter (shortB ms)) = (L.filter (unl ls ms)).isEmpty := by
  by_cases c : L.filter (shortB ls) = L.filter (shortB ms)
  · rw [decide_eq_true c]
    have h := same_sorts e fun l hl => filter_same c l (a.pm.mem_iff.mpr hl)
    have z : L.filter (unl ls ms) = [] := List.filter_eq_nil_iff.mpr fun l hl => by
      unfold unl
      rw [decide_eq_true (h l (a.pm.mem_iff.mp hl))]
      decide
    rw [z]
    rfl
  · rw [decide_eq_false c]
    cases d : L.filter (unl ls ms) with
    | cons _ _ => rfl
    | nil =>
      exfalso
      refine c (List.filter_congr fun l hl => ?_)
      have := List.filter_eq_nil_iff.mp d l hl
      unfold unl at this
      have e2 : sortV ls l = sortV ms l := by
        by_cases z : sortV ls l = sortV ms l
        · exact z
        · rw [decide_eq_false z] at this
          exact absurd rfl this
      unfold shortB
      rw [e2]
end K
namespace K
open PySem L2 Rg LamX
open Evl (pss_cut)
/-! ### lists of tuples of numbers, as data -/
theorem tl_dp {K : PySem.W.Frag} {H : Hp} : ∀ {xs : List V} {nss : List (List Int)}, TL H xs nss → DpAll K H xs (nss.map fun ns => PyData.tuple (ns.map PyData.int))
  | _, _, .nil => .nil
  | _, _, .cons ⟨a, e, h⟩ t => by
    subst e
    exact .cons (.tup (.inl (.inl h)) (dp_ints _)) (tl_dp t)
theorem tl_lay : ∀ nss : List (List Int), PyData.canLayAll0 (nss.map fun ns => PyData.tuple (ns.map PyData.int)) = true
  | [] => by simp [PyData.canLayAll0]
  | ns :: nss => by simp [PyData.canLayAll0, PyData.canLay0, lay_ints ns, tl_lay nss]
theorem tl_deep : ∀ nss : List (List Int), PyData.depthAll (nss.map fun ns => PyData.tuple (ns.map PyData.int)) ≤ 1
  | [] => by simp [PyData.depthAll]
  | ns :: nss => by
    have := tl_deep nss
    simp [PyData.depthAll, PyData.depth, deep_ints ns]
    omega
theorem tl_shaped (nss : List (List Int)) : SeqAt.shaped (.list (nss.map fun ns => PyData.tuple (ns.map PyData.int))) = true := by
  have := tl_deep nss
  simp [SeqAt.shaped, PyData.canLay0, PyData.depth, tl_lay nss]
  omega
theorem eqv_tup (a b : List Int) : PyData.eqv (.tuple (a.map PyData.int)) (.tuple (b.map PyData.int)) = decide (a = b) := by
  simp [PyData.eqv, Rg.eqvA_ints8]
theorem sh_tup (l : List Int) : SeqAt.shaped (.tuple (l.map PyData.int)) = true := by
  simp [SeqAt.shaped, PyData.canLay0, PyData.depth, lay_ints l, deep_ints l]
theorem TL.ext {H H' : Hp} {xs : List V} {nss : List (List Int)} (h : TL H xs nss) (e : ExtN H H') : TL H' xs nss := par_imp (fun _ _ ⟨a, q, z⟩ => ⟨a, q, e _ _ z (fun _ z => nomatch z)⟩) h
theorem TL.mut {H : Hp} {D : Addr} {us ws : List V} {xs : List V} {nss : List (List Int)} (h : TL H xs nss) (hD : H D = some (.lst us)) : TL (upd H D (.lst ws)) xs nss := par_imp (fun _ _ ⟨a, q, z⟩ => ⟨a, q, by
  rw [upd_ne fun e => ?_]
  · exact z
  · rw [e, hD] at z
    cases z⟩) h
theorem tl_at {H : Hp} {xs : List V} {nss : List (List Int)} (h : TL H xs nss) {i : Nat} {ns : List Int} (e : nss[i]? = some ns) : ∃ a, xs[i]? = some (.ref a) ∧ H a = some (.tup (ns.map V.int)) := by
  have hi : i < xs.length := by rw [par_len h]; exact (List.getElem?_eq_some_iff.mp e).1
  obtain ⟨y, h1, a, h2, h3⟩ := par_get h (List.getElem?_eq_getElem hi)
  rw [e] at h1
  cases h1
  exact ⟨a, by rw [List.getElem?_eq_getElem hi, h2], h3⟩

theorem tl_nil (nss : List (List Int)) : PyData.eqv (.list (nss.map fun ns => PyData.tuple (ns.map PyData.int))) (.list []) = nss.isEmpty := by
  cases nss <;> simp [PyData.eqv, PyData.eqvAll] <;> rfl
theorem tl_eqA : ∀ nss mss : List (List Int), PyData.eqvAll (nss.map fun ns => PyData.tuple (ns.map PyData.int)) (mss.map fun ns => PyData.tuple (ns.map PyData.int)) = decide (nss = mss)
  | [], [] => by simp [PyData.eqvAll]
  | [], _ :: _ => by simp [PyData.eqvAll]
  | _ :: _, [] => by simp [PyData.eqvAll]
  | ns :: nss, ms :: mss => by
    have e := eqv_tup ns ms
    rw [List.map_cons, List.map_cons, PyData.eqvAll, e, tl_eqA nss mss]
    by_cases c : ns = ms <;> by_cases d : nss = mss <;> simp [c, d]
theorem tl_eqT (nss mss : List (List Int)) : PyData.eqv (.tuple (nss.map fun ns => PyData.tuple (ns.map PyData.int))) (.tuple (mss.map fun ns => PyData.tuple (ns.map PyData.int))) = decide (nss = mss) := by
  rw [← tl_eqA]
  simp [PyData.eqv]
theorem tl_shapedT (nss : List (List Int)) : SeqAt.shaped (.tuple (nss.map fun ns => PyData.tuple (ns.map PyData.int))) = true := by
  have := tl_deep nss
  simp [SeqAt.shaped, PyData.canLay0, PyData.depth, tl_lay nss]
  omega

theorem tl_any (L : List (List Int)) (m : List Int) : ((L.map fun ns => PyData.tuple (ns.map PyData.int)).any fun z => PyData.eqv z (.tuple (m.map PyData.int))) = decide (m ∈ L) := by
  rw [List.any_map]
  by_cases h : m ∈ L
  · rw [decide_eq_true h, List.any_eq_true]
    exact ⟨m, h, by rw [Function.comp_apply, eqv_tup]; exact decide_eq_true rfl⟩
  · rw [decide_eq_false h, List.any_eq_false]
    intro x hx
    rw [Function.comp_apply, eqv_tup]
    intro z
    rw [of_decide_eq_true z] at hx
    exact h hx
theorem less_lot {n : Nat} {ns : List Int} (h : Lot n ns) {i : Nat} {m : List Int} (hm : m ∈ lessN ns i) : Lot n m ∧ m.length ≤ ns.length := by
  obtain ⟨j, _, rfl⟩ := List.mem_map.mp hm
  have sub : (ns.take j ++ ns.drop (j + 1)).Sublist ns := by
    have e : ns.take j ++ ns.drop j = ns := List.take_append_drop j ns
    have d : (ns.drop (j + 1)).Sublist (ns.drop j) := by
      rw [← List.drop_drop]
      exact List.drop_sublist ..
    have z := List.Sublist.append (List.Sublist.refl (ns.take j)) d
    rw [e] at z
    exact z
  exact ⟨⟨h.1.sublist sub, fun b hb => h.2 b (sub.subset hb)⟩, sub.length_le⟩
def longB (ls l : List Int) : Bool := decide (sortV ls l = "long")
def levB (ls l : List Int) : Bool := decide (sortV ls l = "level")
/-- those within which no other one lies, by one bar less -/
def leastF (G : List (List Int)) : List (List Int) := G.filter fun l => !((lessN l l.length).any fun m => decide (m ∈ G))
/-- those that are not another one less a bar -/
def greatF (G : List (List Int)) : List (List Int) := G.filter fun l => !decide (l ∈ G.flatMap fun s => lessN s s.length)
theorem lots_tl {H : Hp} {kf : V → List Int} : ∀ {xs : List V}, LotsAt H xs kf → TL H xs (xs.map kf)
  | [], _ => .nil
  | x :: xs, h => .cons (h x (List.mem_cons_self ..)) (lots_tl fun y hy => h y (List.mem_cons_of_mem _ hy))
theorem AllL.of_lots {n : Nat} {xs : List V} {kf : V → List Int} (pm : (xs.map kf).Perm (lotsN n)) (pw : xs.Pairwise fun u v => lotLe (kf u) (kf v) = true) : AllL n (xs.map kf) := ⟨pm, List.pairwise_map.mpr (pw.imp fun h => lotLe_iff.mp h)⟩
section
variable {P : Program} {w : World} {K : PySem.W.Frag} {mg : Str → Option Value} {base : Heap}
theorem RingW.ext {C : Addr} {H H' : Hp} {r : Addr} {ls : List Int} (h : RingW K C H r ls) (s : ExtN H H') : RingW K C H' r ls := by
  obtain ⟨dx, t, h1, h2⟩ := h
  refine ⟨dx, t, s _ _ h1 (fun _ z => nomatch z), ?_⟩
  rcases h2 with (h2 | ⟨o, h2⟩) | h2
  · exact .inl (.inl (s _ _ h2 (fun _ z => nomatch z)))
  · exact .inl (.inr ⟨o, s _ _ h2 (fun _ z => nomatch z)⟩)
  · exact .inr h2
structure MethV (P : Program) (w : World) (K : PySem.W.Frag) (mg : Str → Option Value) (base : Heap) (C : Addr) (x : Str) (ps : List Str) (sp : Sp) (f : Addr) (fd : FuncData) : Prop where
  m : Meth K C x f
  ok : FnOk P w K mg base CX0 6 f fd ps sp
  b : Binds K fd ps []
def spSortV (K : PySem.W.Frag) (C : Addr) : Sp := fun vs H Q _ => ∃ (r a : Addr) (ls ns : List Int), vs = [.ref r, .ref a] ∧ RingW K C H r ls ∧ ls.length ≤ 8 ∧ H a = some (.tup (ns.map V.int)) ∧ Lot ls.length ns ∧ ns.length ≤ 8 ∧ ∀ H', Same H H' → Q (.str (sortV ls ns)) H'
theorem ok_sortVal {C f : Addr} {c : Cs} {fd : FuncData} (F : FnOk P w K mg base (L2.CX P w) 6 f fd ["self", "lot"] (spSortOf K C c)) : FnOk P w K mg base CX0 6 f fd ["self", "lot"] (spSortV K C) :=
  (fn_calm F).imp fun vs H Q E ⟨r, a, ls, ns, hv, ring, l8, ha, lot, n8, q⟩ => ⟨r, .ref a, ls, hv, ring, l8, LotV.tpl ha lot n8 q⟩
/-! ### lots_by_sort -/
def spBy (K : PySem.W.Frag) (C : Addr) (T : List (Addr × Str)) : Sp := fun vs H Q _ => ∃ (r : Addr) (ls : List Int) (z : Str), vs = [.ref r, .str z] ∧ RingW K C H r ls ∧ 3 ≤ ls.length ∧ ls.length ≤ 8 ∧ Tabs T H ∧
  ∀ (p : Addr) (xs : List V) (kf : V → List Int) (H' : Hp), ExtN H H' → Tabs T H' → H' p = some (.tup xs) → LotsAt H' xs kf → (xs.map kf).Perm ((lotsN ls.length).filter fun l => decide (sortV ls l = z)) → (xs.Pairwise fun u v => lotLe (kf u) (kf v) = true) → Q (.ref p) H'
abbrev nBy : List Str := ["ring", "sort", "lot"]
theorem scBy : FnScope nBy ["ring", "sort"] (defScope sLotsBySort) := ⟨rfl, rfl, rfl, by decide +kernel, rfl, by decide +kernel, by decide +kernel⟩
theorem ok_by {C f fA fS fN : Addr} {fd fdA fdS fdN : FuncData} {P1 P2 : Addr} (F : Fun K "lots_by_sort" "lots_by_sort" sLotsBySort f fd) (T : Bi mg) (R : RingC K mg C) (LO : DefAt P w K mg base CX0 4 "lots_of" ["many"] (spLotsOf K (T2 P1 P2)) fA fdA)
    (M : MethV P w K mg base C "sort_of" ["self", "lot"] (spSortV K C) fS fdS) (NM : Meth K C "__len__" fN) (NL : FnOk P w K mg base CX0 1 fN fdN ["self"] (spRLen K C)) (NB : Binds K fdN ["self"] []) : FnOk P w K mg base CX0 7 f fd ["ring", "sort"] (spBy K C (T2 P1 P2)) := by
  refine F.ok scBy (fun vs H Q E h => ?_) (fun cdv A outer s H vs Q E hr h => ?_)
  · obtain ⟨r, ls, z, rfl, _⟩ := h
    rfl
  · have nd := scBy.nd
    refine ⟨_, pss_one (ps_ret (pe_callTy call_tuple_of (by rfl) T.tuple (by decide +kernel) (pa_cons (pe_lc (own := [("lot", 2)]) (g := gName 2) (te := tVar 2) rfl nd (pi_tup (pe_call LO.ok (hr.mono (by decide)) rfl LO.g LO.kp LO.b .nil pass0 (pa_cons (pe_callB (call_lenO NL (hr.mono (by decide)) NB) (by rfl) T.len PySem.boot_len (pa_cons (pv 0) pa_nil)) pa_nil)))
        (blkOk_by (N := nBy) (sc := defScope sLotsBySort) (by decide +kernel)) (fun _ _ _ _ _ => pg_name (i := 2) nd rfl (Or.inl rfl)) (fun _ _ _ _ _ => pts_one (pt_cmpR op_eq (pe_meth (pv 0) R.cl M.m M.ok hr M.b .nil pass0 (pa_cons (pv 2) pa_nil)) (pv 1) (nomark _))) (fun _ _ _ _ _ => pv 2)) pa_nil))), ?_⟩
    obtain ⟨r, ls, z, rfl, ring, l3, l8, tab, q⟩ := h
    obtain ⟨dx, t, hr0, ht⟩ := id ring
    have noS : (rf t ls).lookup ("sort_of" : Str) = none := rf_no _ _ (by decide +kernel) (by decide +kernel) (by decide +kernel) (by decide +kernel)
    refine ⟨_, rfl, r, C, dx, _, rfl, hr0, NM.at_, NM.fn, r, ls, rfl, ring, _, rfl, by omega, by omega, ?_⟩
    refine ⟨ls.length, rfl, by omega, l8, tab, fun p xs kf H1 e1 tab1 hp la pm pw => ⟨p, rfl, ⟨_, .inl (.inl hp)⟩, fun D hD => ?_⟩⟩
    have ring1 := ring.ext e1
    have hr1 := e1 _ _ hr0 (fun _ z => nomatch z)
    have xl : xs.length ≤ 256 := by
      have e := pm.length_eq
      rw [List.length_map, lotsN_length] at e
      rw [e]
      exact Nat.pow_le_pow_right (by decide) (show ls.length ≤ 8 from l8)
    refine lc_tup (K := K) (a := p) (xs := xs) (fun i H' => Same H1 H' ∧ H' D = some (.lst ((xs.take i).filter fun x => decide (sortV ls (kf x) = z)))) ⟨(Same.refl H1).new hD, upd_same⟩ (fun i H' _ q => .inl (.inl (q.1 _ _ hp))) ?_ ?_
    · rintro i x H' hi ⟨s2, h2⟩
      have hx := List.mem_of_getElem? hi
      have hil : i < xs.length := (List.getElem?_eq_some_iff.mp hi).1
      obtain ⟨a, rfl, ha⟩ := la x hx
      have lot := lotsN_lot (pm.mem_iff.mp (List.mem_map.mpr ⟨_, hx, rfl⟩))
      refine ⟨rfl, _, rfl, r, dx, _, rfl, s2 _ _ hr1, noS, _, rfl, r, a, ls, kf (.ref a), rfl, ring1.same s2, l8, s2 _ _ ha, lot, Nat.le_trans (lot_len lot) l8, fun H6 s6 => ⟨_, rfl, rfl, _, rfl, ?_⟩⟩
      rw [dec_str, ← take_snoc hi, List.filter_append]
      have h6 := s6 _ _ h2
      cases e : decide (sortV ls (kf (.ref a)) = z) with
      | true =>
        refine iteT ⟨_, rfl, _, h6, ?_, (s2.trans s6).mut hD, ?_⟩
        · have := List.length_filter_le (fun x => decide (sortV ls (kf x) = z)) (xs.take i)
          rw [List.length_take] at this
          exact sm (by omega)
        · rw [upd_same]
          simp [List.filter, e]
      | false =>
        refine iteF ⟨s2.trans s6, ?_⟩
        rw [h6]
        simp [List.filter, e]
    · rintro H2 ⟨s2, h2⟩
      rw [List.take_length] at h2
      refine ⟨D, _, rfl, .inl ⟨SqL.of h2, fun t2 ht2 => ?_⟩⟩
      have s3 : Same H1 (upd H2 t2 (.tup (xs.filter fun x => decide (sortV ls (kf x) = z)))) := s2.trans ((Same.refl H2).new ht2)
      refine q t2 _ kf _ (e1.trans (ExtN.of s3)) (tab1.ext s3) upd_same (fun x hx => ?_) ?_ (List.Pairwise.filter _ pw)
      · obtain ⟨a, e, ha⟩ := la x (List.mem_filter.mp hx).1
        exact ⟨a, e, s3 _ _ ha⟩
      · rw [show (fun x => decide (sortV ls (kf x) = z)) = (fun l => decide (sortV ls l = z)) ∘ kf from rfl, ← List.filter_map]
        exact pm.filter _
/-! ### the lots that are told of a ring -/
def spTold (K : PySem.W.Frag) (C cR : Addr) (T : List (Addr × Str)) (f : List Int → List (List Int) → List (List Int)) : Sp := fun vs H Q E => ∃ v : V, vs = [v] ∧ ((∃ (r : Addr) (ls : List Int), v = .ref r ∧ RingW K C H r ls ∧ 3 ≤ ls.length ∧ ls.length ≤ 8 ∧ Tabs T H ∧
  ∀ (p : Addr) (xs : List V) (nss : List (List Int)) (H' : Hp), ExtN H H' → Tabs T H' → H' p = some (.tup xs) → TL H' xs nss → (∀ L, AllL ls.length L → nss = f ls L) → Q (.ref p) H') ∨ (NoR K C H v ∧ Errs E cR "part" (.str "ring") H))
theorem scLevel : FnScope ["ring"] ["ring"] (defScope sLevelLots) := ⟨rfl, rfl, rfl, by decide +kernel, rfl, by decide +kernel, by decide +kernel⟩
theorem ok_level {C cR f fW fB : Addr} {fd fdW fdB : FuncData} {P1 P2 : Addr} (F : Fun K "level_lots" "level_lots" sLevelLots f fd) (W : DefAt P w K mg base (L2.CX P w) 3 "want_ring" ["value", "part"] (spWantR K C cR) fW fdW) (BY : DefAt P w K mg base CX0 7 "lots_by_sort" ["ring", "sort"] (spBy K C (T2 P1 P2)) fB fdB) : FnOk P w K mg base (L2.CX P w) 8 f fd ["ring"] (spTold K C cR (T2 P1 P2) fun ls L => L.filter (levB ls)) := by
  refine F.okX scLevel (fun vs H Q E h => ?_) (fun cdv A outer s H vs Q E hr h => ?_)
  · obtain ⟨v, rfl, _⟩ := h
    rfl
  · refine ⟨_, pss_cons (ps_expr (pe_call W.ok (hr.mono (by decide)) rfl W.g W.kp W.b .nil (passes_call (takes_of rfl rfl rfl rfl) (fun _ _ _ _ h => h)) (pa_cons (pv 0) (pa_cons pe_str pa_nil))))
      (pss_one (ps_ret (pe_call BY.ok hr rfl BY.g BY.kp BY.b .nil pass0 (pa_cons (pv 0) (pa_cons pe_str pa_nil))))), ?_⟩
    obtain ⟨v, rfl, ⟨r, ls, rfl, ring, l3, l8, tab, q⟩ | ⟨no, er⟩⟩ := h
    · refine ⟨_, rfl, _, "ring", rfl, .inl ⟨r, ls, rfl, ring, _, rfl, r, ls, "level", rfl, ring, l3, l8, tab, fun p xs kf H' e t hp la pm pw => ?_⟩⟩
      exact q p xs (xs.map kf) H' e t hp (lots_tl la) fun L aL => aL.filter pm (List.pairwise_map.mpr (pw.imp fun h => lotLe_iff.mp h))
    · exact ⟨_, rfl, _, "ring", rfl, .inr ⟨no, er⟩⟩
theorem walk_any {J : It} {n : Nat} {G : Hp → Prop} {Y : Nat → Hp → V → Hp → Prop} (w : Walk J n G Y) {T : V → Hp → (Hp → Prop) → Prop} {H0 : Hp} {Qd : Hp → Prop} (Pv : Nat → Hp → Prop) (h0 : Pv 0 H0) (hG : ∀ i H, i ≤ n → Pv i H → G H)
    (hs : ∀ i x H H', i < n → Pv i H → Y i H x H' → T x H' (Pv (i + 1))) (hd : ∀ H, Pv n H → Qd H) :
    ∃ W : Nat → Nat → Hp → Prop, (∃ m, W 0 m H0) ∧ ∀ i m H, W i m H →
      (J.stop i H ∧ Qd H) ∨ (J.go i H ∧ ∃ Nx : Hp → Prop, (∀ H', Nx H' → ∃ m', m' < m ∧ W (i + 1) m' H') ∧ ∀ x H', J.yld i H x H' → T x H' Nx) := by
  refine ⟨fun i m H => m = n - i ∧ i ≤ n ∧ Pv i H, ⟨n, by simp, Nat.zero_le _, h0⟩, ?_⟩
  rintro i m H ⟨rfl, hi, p⟩
  have q := hG i H hi p
  by_cases hlt : i < n
  · exact .inr ⟨w.goes i H hlt q, Pv (i + 1), fun H' p' => ⟨n - (i + 1), by omega, rfl, hlt, p'⟩, fun x H' y => hs i x H H' hlt p (w.yields i H x H' hlt q y)⟩
  · have e : i = n := by omega
    subst e
    exact .inl ⟨w.stops H q, hd H p⟩
end
end K
namespace K
open PySem L2 Rg LamX
open Evl (pss_cut)
theorem ix_or {X : Cx} {r1 r2 : R2} (h1 : IxR X r1) (h2 : IxR X r2) : IxR X (fun x y H Q => r1 x y H Q ∨ r2 x y H Q) := fun value slice pins s σ H x y v u Q I rx ry h => h.elim (h1 value slice pins s σ H x y v u Q I rx ry) (h2 value slice pins s σ H x y v u Q I rx ry)
/-- a list or a tuple of the heap -/
def SqB (H : Hp) (l : Addr) (xs : List V) : Prop := H l = some (.lst xs) ∨ H l = some (.tup xs)
theorem SqB.same {H H' : Hp} {l : Addr} {xs : List V} (h : SqB H l xs) (s : Same H H') : SqB H' l xs := h.imp (s _ _) (s _ _)
theorem SqB.ext {H H' : Hp} {l : Addr} {xs : List V} (h : SqB H l xs) (s : ExtN H H') : SqB H' l xs := h.imp (fun z => s _ _ z (fun _ q => nomatch q)) (fun z => s _ _ z (fun _ q => nomatch q))
section
variable {K : PySem.W.Frag}
theorem SqB.ix {H : Hp} {l : Addr} {xs : List V} {i : Int} {v : V} {Q : VK} (h : SqB H l xs) (e : atI xs i = some v) (q : Q v H) : rIxL K (.ref l) (.int i) H Q ∨ rIxT K (.ref l) (.int i) H Q := by
  rcases h with h | h
  · exact .inl ⟨l, xs, i, v, rfl, rfl, SqL.of h, e, q⟩
  · exact .inr ⟨l, xs, i, v, rfl, rfl, .inl (.inl h), e, q⟩
end
/-- what bars are beyond all others -/
def gapE (ls ns : List Int) : Int := 2 * lsum ls ns - ls.sum
section
variable {P : Program} {w : World} {K : PySem.W.Frag} {mg : Str → Option Value} {base : Heap}
/-! ### excess_of -/
def spEx (K : PySem.W.Frag) : Sp := fun vs H Q _ => ∃ (l m : Addr) (ls ns : List Int), vs = [.ref l, .ref m] ∧ SqB H l (ls.map V.int) ∧ H m = some (.tup (ns.map V.int)) ∧ ls.length ≤ 8 ∧ ns.length ≤ 8 ∧ Lot ls.length ns ∧ ∀ H', Same H H' → Q (.int (gapE ls ns)) H'
abbrev nEx : List Str := ["lengths", "lot", "bar"]
theorem scEx : FnScope nEx ["lengths", "lot"] (defScope sExcessOf) := ⟨rfl, rfl, rfl, by decide +kernel, rfl, by decide +kernel, by decide +kernel⟩
theorem ok_ex {f : Addr} {fd : FuncData} (F : Fun K "excess_of" "excess_of" sExcessOf f fd) (T : Bi mg) : FnOk P w K mg base CX0 2 f fd ["lengths", "lot"] (spEx K) := by
  refine F.ok scEx (fun vs H Q E h => ?_) (fun cdv A outer s H vs Q E hr h => ?_)
  · obtain ⟨l, m, ls, ns, rfl, _⟩ := h
    rfl
  · have nd := scEx.nd
    refine ⟨_, pss_one (ps_ret (pe_op op_sub (pe_op op_mul pe_int (pe_callB (cr_sum rfl) (by rfl) T.sum (by decide +kernel) (pa_cons (pe_lc (own := [("bar", 2)]) (g := gName 2) (tt := tYes) (te := tOp (fun x y H Q => rIxL K x y H Q ∨ rIxT K x y H Q) (tVar 0) (tVar 2)) rfl nd (pi_tup (pv 1)) (blkOk_by (N := nEx) (sc := defScope sExcessOf) (by decide +kernel)) (fun _ _ _ _ _ => pg_name (i := 2) nd rfl (Or.inl rfl)) (fun _ _ _ _ _ => pts_nil)
        (fun _ _ _ _ _ => pe_ix (r := fun x y H Q => rIxL K x y H Q ∨ rIxT K x y H Q) (ix_or ix_list ix_tup) (pv 0) (pv 2) (fun _ _ => rfl))) pa_nil))) (pe_callB (call_or (cr_sum rfl) (cr_sumT rfl)) (by rfl) T.sum (by decide +kernel) (pa_cons (pv 0) pa_nil)))), ?_⟩
    obtain ⟨l, m, ls, ns, rfl, hl, hm, l8, n8, lot, q⟩ := h
    refine ⟨_, rfl, m, rfl, ⟨_, .inl (.inl hm)⟩, fun D hD => ?_⟩
    refine lc_tup (K := K) (a := m) (xs := ns.map V.int) (fun i H' => Same H H' ∧ H' D = some (.lst (((ns.take i).map fun b => ls.getD b.toNat 0).map V.int))) ⟨(Same.refl H).new hD, upd_same⟩ (fun i H' _ q => .inl (.inl (q.1 _ _ hm))) ?_ ?_
    · rintro i x H' hi ⟨s2, h2⟩
      obtain ⟨z, hz, rfl⟩ := int_at hi
      have zl := lot.2 z (List.mem_of_getElem? hz)
      have hil : i < ns.length := (List.getElem?_eq_some_iff.mp hz).1
      refine ⟨rfl, _, rfl, _, rfl, (hl.same s2).ix (get_z zl.1 zl.2) ⟨_, h2, ?_, s2.mut hD, ?_⟩⟩
      · rw [List.length_map, List.length_map, List.length_take]
        exact sm (by omega)
      · rw [upd_same, lsum_take hz, List.map_append]
        rfl
    · rintro H' ⟨s2, h2⟩
      rw [List.length_map, List.take_length] at h2
      have s3 := hl.same s2
      refine ⟨D, _, rfl, SqL.of h2, _, _, rfl, rfl, .inl ⟨by decide, by decide⟩, _, rfl, ?_⟩
      have fin : Q (.int (gapE ls ns)) H' := q H' s2
      rcases s3 with z | z
      · exact .inl ⟨l, ls, rfl, SqL.of z, _, _, rfl, rfl, fin⟩
      · exact .inr ⟨l, ls, rfl, .inl (.inl z), _, _, rfl, rfl, fin⟩
end
end K
namespace K
open PySem L2 Rg LamX
open Evl (pss_cut)
/-! ### the walls of told lengths -/
structure IsW (ls W : List Int) : Prop where
  od : W.Pairwise (· < ·)
  mem : ∀ x, x ∈ W ↔ 0 < x ∧ ∃ m ∈ lotsN ls.length, gapE ls m = x
theorem asc_uniq : ∀ {a b : List Int}, a.Pairwise (· < ·) → b.Pairwise (· < ·) → (∀ x, x ∈ a ↔ x ∈ b) → a = b
  | [], [], _, _, _ => rfl
  | [], y :: b, _, _, h => by have := (h y).mpr (List.mem_cons_self ..); cases this
  | x :: a, [], _, _, h => by have := (h x).mp (List.mem_cons_self ..); cases this
  | x :: a, y :: b, ha, hb, h => by
    obtain ⟨hx, ha'⟩ := List.pairwise_cons.mp ha
    obtain ⟨hy, hb'⟩ := List.pairwise_cons.mp hb
    have e : x = y := by
      rcases List.mem_cons.mp ((h x).mp (List.mem_cons_self ..)) with e | m
      · exact e
      · rcases List.mem_cons.mp ((h y).mpr (List.mem_cons_self ..)) with e | m2
        · exact e.symm
        · have := hy x m
          have := hx y m2
          omega
    subst e
    congr 1
    refine asc_uniq ha' hb' fun z => ⟨fun m => ?_, fun m => ?_⟩
    · rcases List.mem_cons.mp ((h z).mp (List.mem_cons_of_mem _ m)) with e | m2
      · have := hx z m
        omega
      · exact m2
    · rcases List.mem_cons.mp ((h z).mpr (List.mem_cons_of_mem _ m)) with e | m2
      · have := hy z m
        omega
      · exact m2
theorem IsW.uniq {ls W Z : List Int} (a : IsW ls W) (b : IsW ls Z) : W = Z := asc_uniq a.od b.od fun x => (a.mem x).trans (b.mem x).symm
theorem putK_keys (kvs : List (Key × V)) (k : Key) (v : V) : (k ∈ kvs.map (·.1) → (putK kvs k v).map (·.1) = kvs.map (·.1)) ∧ (k ∉ kvs.map (·.1) → (putK kvs k v).map (·.1) = kvs.map (·.1) ++ [k]) := by
  have e : ((kvs.any fun kv => decide (kv.1 = k)) = true) ↔ k ∈ kvs.map (·.1) := by
    rw [List.any_eq_true, List.mem_map]
    exact ⟨fun ⟨p, hp, q⟩ => ⟨p, hp, of_decide_eq_true q⟩, fun ⟨p, hp, q⟩ => ⟨p, hp, decide_eq_true q⟩⟩
  unfold putK
  refine ⟨fun c => ?_, fun c => ?_⟩
  · rw [if_pos (e.mpr c), List.map_map]
    refine List.map_congr_left fun p _ => ?_
    show (if p.1 = k then (p.1, v) else p).1 = p.1
    split <;> rfl
  · rw [if_neg fun z => c (e.mp z), List.map_append]
    rfl
/-- the keys so far: numbers, each once -/
structure Kys (kvs : List (Key × V)) (G L : List Int) : Prop where
  k : kvs.map (·.1) = G.map Sum.inl
  nd : G.Nodup
  mem : ∀ x, x ∈ G ↔ x ∈ L
theorem Kys.put {kvs : List (Key × V)} {G L : List Int} (h : Kys kvs G L) (x : Int) (v : V) : ∃ G', Kys (putK kvs (Sum.inl x) v) G' (L ++ [x]) ∧ G'.length ≤ G.length + 1 := by
  have e := putK_keys kvs (Sum.inl x) v
  rw [h.k] at e
  by_cases c : x ∈ G
  · have e := e.1 (List.mem_map.mpr ⟨x, c, rfl⟩)
    refine ⟨G, ⟨e, h.nd, fun y => ?_⟩, Nat.le_succ _⟩
    rw [List.mem_append, List.mem_singleton, h.mem]
    exact ⟨.inl, fun q => q.elim id fun q => by rw [q]; exact (h.mem x).mp c⟩
  · have e := e.2 fun z => by
      obtain ⟨y, hy, q⟩ := List.mem_map.mp z
      cases q
      exact c hy
    refine ⟨G ++ [x], ⟨by rw [e, List.map_append]; rfl, ?_, fun y => ?_⟩, by rw [List.length_append]; exact Nat.le_refl _⟩
    · rw [List.nodup_append]
      refine ⟨h.nd, by simp, fun a ha b hb q => ?_⟩
      rw [List.mem_singleton.mp hb] at q
      exact c (q ▸ ha)
    · rw [List.mem_append, List.mem_append, h.mem]
theorem Kys.at {kvs : List (Key × V)} {G L : List Int} (h : Kys kvs G L) {i : Nat} {k : Key} {v : V} (e : kvs[i]? = some (k, v)) : ∃ x, G[i]? = some x ∧ k = Sum.inl x := by
  have e1 : (kvs.map (·.1))[i]? = some k := by rw [List.getElem?_map, e]; rfl
  rw [h.k, List.getElem?_map] at e1
  cases g : G[i]? with
  | none => rw [g] at e1; cases e1
  | some x => rw [g] at e1; exact ⟨x, rfl, (Option.some.inj e1).symm⟩
theorem Kys.len {kvs : List (Key × V)} {G L : List Int} (h : Kys kvs G L) : kvs.length = G.length := by
  have := congrArg List.length h.k
  simpa using this
section
variable {P : Program} {w : World} {K : PySem.W.Frag} {mg : Str → Option Value} {base : Heap}
theorem SqB.sq {H : Hp} {l : Addr} {xs : List V} (h : SqB H l xs) : SqL K H l xs ∨ SqT K H l xs := h.elim (fun z => .inl (SqL.of z)) fun z => .inr (.inl (.inl z))
def spWO (K : PySem.W.Frag) (T : List (Addr × Str)) : Sp := fun vs H Q _ => ∃ (l : Addr) (ls : List Int), vs = [.ref l] ∧ SqB H l (ls.map V.int) ∧ 1 ≤ ls.length ∧ ls.length ≤ 7 ∧ Tabs T H ∧
  ∀ (p : Addr) (W : List Int) (H' : Hp), ExtN H H' → Tabs T H' → H' p = some (.tup (W.map V.int)) → IsW ls W → Q (.ref p) H'
abbrev nWO : List Str := ["lengths", "found", "lot", "wall"]
theorem scWO : FnScope nWO ["lengths"] (defScope sWallsOf) := ⟨rfl, rfl, rfl, by decide +kernel, rfl, by decide +kernel, by decide +kernel⟩
theorem ok_wo {f fL fE : Addr} {fd fdL fdE : FuncData} {P1 P2 : Addr} (F : Fun K "walls_of" "walls_of" sWallsOf f fd) (T : Bi mg) (LO : DefAt P w K mg base CX0 4 "lots_of" ["many"] (spLotsOf K (T2 P1 P2)) fL fdL) (EX : DefAt P w K mg base CX0 2 "excess_of" ["lengths", "lot"] (spEx K) fE fdE) : FnOk P w K mg base CX0 5 f fd ["lengths"] (spWO K (T2 P1 P2)) := by
  refine F.ok scWO (fun vs H Q E h => ?_) (fun cdv A outer s H vs Q E hr h => ?_)
  · obtain ⟨l, ls, rfl, _⟩ := h
    rfl
  · have nd := scWO.nd
    refine ⟨_, pss_cons (ps_setDc (ix := 1) (own := [("lot", 2)]) (g := gName 2) (tt := tYes) (tk := tCall (spEx K) [] E0 (tCons (tVar 0) (tCons (tVar 2) tNil))) (tv := tC (.bl true)) rfl nd rfl rfl (sw_dc rfl rfl rfl (by decide +kernel)) (pi_tup (pe_call LO.ok hr rfl LO.g LO.kp LO.b .nil pass0 (pa_cons (pe_callB call_len_seq (by rfl) T.len PySem.boot_len (pa_cons (pv 0) pa_nil)) pa_nil)))
        (blkOk_by (N := nWO) (sc := defScope sWallsOf) (by decide +kernel)) (fun _ _ _ _ _ => pg_name (i := 2) nd rfl (Or.inl rfl)) (fun _ _ _ _ _ => pts_nil) (fun _ _ _ _ _ => pe_call EX.ok (hr.mono (by decide)) rfl EX.g EX.kp EX.b .nil pass0 (pa_cons (pv 0) (pa_cons (pv 2) pa_nil))) (fun _ _ _ _ _ => pe_bl))
      (pss_one (ps_ret (pe_callTy call_tuple_of (by rfl) T.tuple (by decide +kernel) (pa_cons (pe_callB cr_sortedI (by rfl) T.sorted (by decide +kernel) (pa_cons (pe_lock (pe_lc (own := [("wall", 3)]) (g := gName 3) (tt := tTest (tOp (rI0 fun i j => .bl (decide (j < i))) (tVar 3) (tC (.int 0)))) (te := tVar 3) rfl nd (pi_keys (pv 1)) (blkOk_by (N := nWO) (sc := defScope sWallsOf) (by decide +kernel)) (fun _ _ _ _ _ => pg_name (i := 3) nd rfl (Or.inl rfl)) (fun _ _ _ _ _ => pts_one (pt_cmpR op_gt (pv 3) pe_int (nomark _))) (fun _ _ _ _ _ => pv 3))) pa_nil)) pa_nil)))), ?_⟩
    obtain ⟨l, ls, rfl, hl, l1, l7, tab, q⟩ := h
    refine ⟨_, rfl, l, _, rfl, hl.sq, ?_⟩
    rw [List.length_map]
    refine ⟨ls.length, rfl, l1, by omega, tab, fun p xs kf H1 e1 tab1 hp la pm _ => ⟨p, rfl, ⟨_, .inl (.inl hp)⟩, fun D hD => ?_⟩⟩
    have hl1 := hl.ext e1
    have xl : xs.length ≤ 128 := by
      have e := pm.length_eq
      rw [List.length_map, lotsN_length] at e
      rw [e]
      exact Nat.pow_le_pow_right (by decide) (show ls.length ≤ 7 from l7)
    have lots : ∀ x ∈ xs, kf x ∈ lotsN ls.length := fun x hx => pm.mem_iff.mp (List.mem_map.mpr ⟨_, hx, rfl⟩)
    refine dc_tup (K := K) (a := p) (xs := xs) (fun i H' => Same H1 H' ∧ ∃ kvs G, kvs.length ≤ i ∧ H' D = some (.dK kvs) ∧ Kys kvs G ((xs.take i).map fun x => gapE ls (kf x))) ⟨(Same.refl H1).new hD, [], [], Nat.le_refl _, upd_same, ⟨rfl, List.nodup_nil, fun _ => Iff.rfl⟩⟩ (fun i H' _ q => .inl (.inl (q.1 _ _ hp))) ?_ ?_
    · rintro i x H' hi ⟨s2, kvs, G, kl, h2, ky⟩
      have hx := List.mem_of_getElem? hi
      have hil : i < xs.length := (List.getElem?_eq_some_iff.mp hi).1
      obtain ⟨a, rfl, ha⟩ := la x hx
      have lot := lotsN_lot (lots _ hx)
      refine ⟨rfl, _, rfl, _, rfl, l, a, ls, kf (.ref a), rfl, hl1.same s2, s2 _ _ ha, by omega, Nat.le_trans (lot_len lot) (by omega), lot, fun H6 s6 => ⟨kvs, Sum.inl (gapE ls (kf (.ref a))), rfl, s6 _ _ h2, sm (by omega), (s2.trans s6).mut hD, ?_⟩⟩
      obtain ⟨G', ky', gl⟩ := ky.put (gapE ls (kf (.ref a))) (.bl true)
      refine ⟨_, G', ?_, upd_same, ?_⟩
      · have := ky.len
        have := ky'.len
        omega
      · rw [← take_snoc hi, List.map_append]
        exact ky'
    rintro H2 ⟨s2, kvs, G, kl, h2, ky⟩
    rw [List.take_length] at ky
    have G128 : G.length ≤ 128 := by
      have := ky.len
      omega
    refine ⟨D, _, h2, trivial, fun od => ?_⟩
    refine ⟨_, rfl, D, od, rfl, .inl ⟨kvs, upd_same, fun L hL => ?_⟩⟩
    have nLD : L ≠ D := fun z => by rw [z, upd_same] at hL; cases hL
    have hL2 : H2 L = none := by rw [upd_ne nLD] at hL; exact hL
    have b0 : But D H2 (upd H2 D (.frz od (.dK kvs))) := (But.refl D H2).at
    refine lc_it walk_keys (fun i H' => H' D = some (.frz od (.dK kvs)) ∧ But D H2 H' ∧ H' L = some (.lst (((G.take i).filter fun z => decide (0 < z)).map V.int))) ⟨by rw [upd_ne nLD.symm, upd_same], b0.mut hL2, upd_same⟩ (fun i H' _ q => q.1) ?_ ?_
    · rintro i x H3 H4 hi ⟨g1, g2, g3⟩ ⟨rfl, k, v, hk, rfl⟩
      obtain ⟨z, hz, rfl⟩ := ky.at hk
      have hil : i < G.length := (List.getElem?_eq_some_iff.mp hz).1
      refine ⟨rfl, _, rfl, z, 0, rfl, rfl, _, rfl, ?_⟩
      by_cases c : 0 < z
      · refine iteDT c ⟨_, rfl, _, g3, ?_, by rw [upd_ne nLD.symm]; exact g1, g2.mut hL2, ?_⟩
        · rw [List.length_map]
          have := List.length_filter_le (fun z => decide (0 < z)) (G.take i)
          rw [List.length_take] at this
          exact sm (by omega)
        · rw [upd_same, ← take_snoc hz, List.filter_append, List.map_append]
          simp [List.filter, c]
          rfl
      · refine iteDF c ⟨g1, g2, ?_⟩
        rw [g3, ← take_snoc hz, List.filter_append]
        simp [List.filter, c]
    rintro H3 ⟨g1, g2, g3⟩
    rw [ky.len, List.take_length] at g3
    refine ⟨g1, L, G.filter fun z => decide (0 < z), rfl, SqL.of (by rw [upd_ne nLD]; exact g3), fun W q0 pmW odW hq0 => ⟨q0, _, rfl, .inl ⟨SqL.of upd_same, fun t ht => ?_⟩⟩⟩
    have x3 : ∀ b o, H2 b = some o → b ≠ D → upd (upd (upd H3 D (.dK kvs)) q0 (.lst (W.map V.int))) t (.tup (W.map V.int)) b = some o := fun b o e n => by
      have e3 : upd H3 D (.dK kvs) b = some o := by rw [upd_ne n]; exact g2 _ _ n e
      rw [upd_ne (ne_of_none ((Same.refl _).new hq0 _ _ e3) ht), upd_ne (ne_of_none e3 hq0)]
      exact e3
    have s3 : Same H1 (upd (upd (upd H3 D (.dK kvs)) q0 (.lst (W.map V.int))) t (.tup (W.map V.int))) := fun b o e => x3 b o (s2 _ _ e) (ne_of_none e hD)
    refine q t W _ (e1.trans (ExtN.of s3)) (tab1.ext s3) upd_same ⟨?_, fun x => ?_⟩
    · have nd2 : W.Nodup := pmW.nodup_iff.mpr (ky.nd.filter _)
      exact (List.pairwise_and_iff.mpr ⟨odW, nd2⟩).imp fun ⟨a, b⟩ => by omega
    · rw [pmW.mem_iff, List.mem_filter, ky.mem, List.mem_map, decide_eq_true_eq]
      constructor
      · rintro ⟨⟨x0, hx0, rfl⟩, h0⟩
        exact ⟨h0, _, lots _ hx0, rfl⟩
      · rintro ⟨h0, m, hm, rfl⟩
        obtain ⟨x0, hx0, e0⟩ := List.mem_map.mp (pm.mem_iff.mpr hm)
        exact ⟨⟨x0, hx0, by rw [e0]⟩, h0⟩
end
end K
namespace K
open PySem L2 Rg LamX
open Evl (pss_cut)
theorem pi_or {X : Cx} {tg e : Expr} {w1 w2 : TI} (h1 : PI X tg e w1) (h2 : PI X tg e w2) : PI X tg e (fun σ H R => w1 σ H R ∨ w2 σ H R) := ⟨fun pins s σ H R I h => h.elim (h1.run pins s σ H R I) (h2.run pins s σ H R I)⟩
/-! ### told lengths: right ones, wrong ones -/
structure Nm2 (mg : Str → Option Value) : Prop where
  least : ∃ t, mg "LEAST_TOLD" = some (.int 2 t)
  most : ∃ t, mg "MOST_TOLD" = some (.int 7 t)
def winsB (kf : V → String) (xs : List V) : Bool := xs.all fun x => winB (kf x) 1 1000000 x
def SqK (K : PySem.W.Frag) (H : Hp) (k : String) (a : Addr) (xs : List V) : Prop := (k = "list" ∧ SqL K H a xs) ∨ (k = "tuple" ∧ SqT K H a xs)
section
variable {P : Program} {w : World} {K : PySem.W.Frag} {mg : Str → Option Value} {base : Heap}
theorem SqK.same {H H' : Hp} {k : String} {a : Addr} {xs : List V} (h : SqK K H k a xs) (s : Same H H') : SqK K H' k a xs := h.imp (fun q => ⟨q.1, s.seq q.2⟩) fun q => ⟨q.1, s.tup q.2⟩
theorem KndI.same {H H' : Hp} {v : V} {k : String} (h : KndI K H v k) (s : Same H H') : KndI K H' v k := ⟨h.1.same s, h.2⟩
theorem SqK.kind {H : Hp} {k : String} {a : Addr} {xs : List V} (h : SqK K H k a xs) : k = "list" ∨ k = "tuple" := h.imp And.left And.left
theorem SqK.seq {H : Hp} {k : String} {a : Addr} {xs : List V} (h : SqK K H k a xs) : SqL K H a xs ∨ SqT K H a xs := h.imp And.right And.right
def spAreG (K : PySem.W.Frag) : Sp := fun vs H Q _ => ∃ (v : V) (k : String) (a : Addr) (xs : List V) (kf : V → String), vs = [v] ∧ Knd K H v k ∧ v = .ref a ∧ SqK K H k a xs ∧ xs.length ≤ 1000 ∧ (∀ x ∈ xs, KndI K H x (kf x)) ∧ ∀ H', Same H H' → Q (.bl (winsB kf xs)) H'
theorem ok_areG {f fW fL : Addr} {fd fdW fdL : FuncData} (F : Fun K "are_lengths" "are_lengths" sAreLengths f fd) (T : Bi mg) (N : Nm mg) (W : DefAt P w K mg base CX0 2 "is_within" ["value", "least", "most"] (spWithinG K) fW fdW) (L : DefAt P w K mg base CX0 1 "is_list" ["value"] (spIsList K) fL fdL) : FnOk P w K mg base CX0 3 f fd ["value"] (spAreG K) := by
  refine F.ok scAreL (fun vs H Q E h => ?_) (fun cdv A outer s H vs Q E hr h => ?_)
  · obtain ⟨v, k, a, xs, kf, rfl, _⟩ := h
    rfl
  · obtain ⟨tM, hM⟩ := N.mostL
    refine ⟨_, pss_one (ps_ret (pe_and (pe_call L.ok (hr.mono (by decide)) rfl L.g L.kp L.b .nil pass0 (pa_cons (pv 0) pa_nil)) (pe_one (pe_callB (cr_all rfl) (by rfl) T.all (by decide +kernel) (pa_cons (pe_lc (own := [("one", 1)]) (g := gName 1) (tt := tYes) rfl scAreL.nd (pi_or (pi_list (pv 0)) (pi_tup (pv 0)))
      (blkOk_by (N := nAreL) (sc := defScope sAreLengths) (by decide +kernel)) (fun _ _ _ _ _ => pg_name (i := 1) scAreL.nd rfl (Or.inl rfl)) (fun _ _ _ _ _ => pts_nil) (fun _ _ _ _ _ => pe_call W.ok hr rfl W.g W.kp W.b .nil pass0 (pa_cons (pv 1) (pa_cons pe_int (pa_cons (pe_glob (v := .int 1000000) rfl hM ⟨_, rfl⟩) pa_nil))))) pa_nil))))), ?_⟩
    obtain ⟨v, k, a, xs, kf, rfl, hk, rfl, sq, hl, hx, q⟩ := h
    refine ⟨_, rfl, _, k, rfl, hk, fun H1 s1 => ⟨_, rfl, iteDT sq.kind ?_⟩⟩
    have turn : ∀ (D : Addr) (i : Nat) (x : V) (H' : Hp), H1 D = none → xs[i]? = some x → (Same H1 H' ∧ H' D = some (.lst ((xs.take i).map fun x => V.bl (winB (kf x) 1 1000000 x)))) → KndI K H' x (kf x) ∧ (∀ (acc : List V), H' D = some (.lst acc) → acc.length < sizeLine) ∧
        (Same H1 (upd H' D (.lst (((xs.take i).map fun x => V.bl (winB (kf x) 1 1000000 x)) ++ [.bl (winB (kf x) 1 1000000 x)]))) ∧ upd H' D (.lst (((xs.take i).map fun x => V.bl (winB (kf x) 1 1000000 x)) ++ [.bl (winB (kf x) 1 1000000 x)])) D = some (.lst ((xs.take (i + 1)).map fun x => V.bl (winB (kf x) 1 1000000 x)))) := by
      intro D i x H' hD hi h
      refine ⟨(hx x (List.mem_of_getElem? hi)).same (s1.trans h.1), fun acc e => ?_, h.1.mut hD, ?_⟩
      · rw [h.2] at e
        have e2 : ((xs.take i).map fun x => V.bl (winB (kf x) 1 1000000 x)) = acc := by cases e; rfl
        rw [← e2, List.length_map, List.length_take]
        exact sm (by omega)
      · rw [upd_same, ← take_snoc hi, List.map_append]
        rfl
    have fin : ∀ (D : Addr) (H' : Hp), (Same H1 H' ∧ H' D = some (.lst ((xs.take xs.length).map fun x => V.bl (winB (kf x) 1 1000000 x)))) → rAll K [.ref D] H' Q := by
      rintro D H' ⟨s2, h2⟩
      rw [List.take_length] at h2
      refine ⟨D, xs.map fun x => winB (kf x) 1 1000000 x, rfl, SqL.of (by rw [List.map_map]; exact h2), ?_⟩
      rw [all_map_bl]
      exact q H' (s1.trans s2)
    rcases sq.seq with hs | hs
    · refine .inl ⟨_, rfl, a, rfl, ⟨_, s1.seq hs⟩, fun D hD => ?_⟩
      refine lc_list (K := K) (a := a) (xs := xs) (fun i H' => Same H1 H' ∧ H' D = some (.lst ((xs.take i).map fun x => V.bl (winB (kf x) 1 1000000 x)))) ⟨(Same.refl H1).new hD, upd_same⟩ (fun i H' _ p => p.1.seq (s1.seq hs)) (fun i x H' hi h => ?_) (fun H' h => fin D H' h)
      obtain ⟨t1, t2, t3⟩ := turn D i x H' hD hi h
      exact ⟨rfl, _, rfl, x, kf x, 1, 1000000, rfl, t1, _, h.2, t2 _ h.2, t3⟩
    · refine .inr ⟨_, rfl, a, rfl, ⟨_, s1.tup hs⟩, fun D hD => ?_⟩
      refine lc_tup (K := K) (a := a) (xs := xs) (fun i H' => Same H1 H' ∧ H' D = some (.lst ((xs.take i).map fun x => V.bl (winB (kf x) 1 1000000 x)))) ⟨(Same.refl H1).new hD, upd_same⟩ (fun i H' _ p => p.1.tup (s1.tup hs)) (fun i x H' hi h => ?_) (fun H' h => fin D H' h)
      obtain ⟨t1, t2, t3⟩ := turn D i x H' hD hi h
      exact ⟨rfl, _, rfl, x, kf x, 1, 1000000, rfl, t1, _, h.2, t2 _ h.2, t3⟩
/-! ### is_list, of what is none of a kind -/
def KitNo (K : PySem.W.Frag) (H : Hp) (v : V) : Prop := ∃ t : Value, TyX K H v t ∧ PySem.W.kitOne K t (.type "list") = some false ∧ PySem.W.kitOne K t (.type "tuple") = some false
theorem KitNo.same {H H' : Hp} {v : V} (h : KitNo K H v) (s : Same H H') : KitNo K H' v := let ⟨t, a, b⟩ := h; ⟨t, tyx_same a s, b⟩
def spIsListN (K : PySem.W.Frag) : Sp := fun vs H Q _ => ∃ v : V, vs = [v] ∧ KitNo K H v ∧ ∀ H', Same H H' → Q (.bl false) H'
theorem ok_isListN {f : Addr} {fd : FuncData} (F : Fun K "is_list" "is_list" sIsList f fd) (T : Bi mg) : FnOk P w K mg base CX0 1 f fd ["value"] (spIsListN K) := by
  refine F.ok scIsList (fun vs H Q E h => ?_) (fun cdv A outer s H vs Q E hr h => ?_)
  · obtain ⟨v, rfl, _⟩ := h
    rfl
  · refine ⟨_, pss_one (ps_ret (pe_callB call_isiT (by rfl) T.isinstance (by decide +kernel) (pa_cons (pv 0) (pa_cons (pe_tup (pa_cons (pe_bltn (v := .ty "list") (u := .type "list") (by rfl) T.list (by decide +kernel) rfl) (pa_cons (pe_bltn (v := .ty "tuple") (u := .type "tuple") (by rfl) T.tuple (by decide +kernel) rfl) pa_nil))) pa_nil)))), ?_⟩
    obtain ⟨v, rfl, ⟨t, ty, k1, k2⟩, q⟩ := h
    refine ⟨_, rfl, (by show 2 ≤ sizeLine; decide), fun p hp => ?_⟩
    have s1 : Same H (upd H p (.tup [.ty "list", .ty "tuple"])) := (Same.refl H).new hp
    exact ⟨v, p, [.ty "list", .ty "tuple"], _, _, false, rfl, upd_same, .cons (.ty _) (.cons (.ty _) .nil), tyx_same ty s1, kitAny_cons k1 (fun _ => kitAny_cons k2 (fun _ => kitAny_nil) fun e => Bool.noConfusion e) (fun e => Bool.noConfusion e), q _ s1⟩
def spIsListA (K : PySem.W.Frag) : Sp := fun vs H Q E => spIsList K vs H Q E ∨ spIsListN K vs H Q E
/-! ### want_told -/
def toldB (kf : V → String) (xs : List V) : Bool := (decide (2 ≤ xs.length) && decide (xs.length ≤ 7)) && winsB kf xs
def GoodT (H : Hp) (v : V) (ls : List Int) : Prop := ∃ a, v = .ref a ∧ SqB H a (ls.map V.int) ∧ 2 ≤ ls.length ∧ ls.length ≤ 7 ∧ Bd 1000000 ls
def BadT (K : PySem.W.Frag) (H : Hp) (v : V) : Prop := KitNo K H v ∨ ∃ k, Knd K H v k ∧ ((k ≠ "list" ∧ k ≠ "tuple") ∨ ∃ a xs kf, v = .ref a ∧ SqK K H k a xs ∧ xs.length ≤ 1000 ∧ (∀ x ∈ xs, KndI K H x (kf x)) ∧ toldB kf xs = false)
theorem GoodT.same {H H' : Hp} {v : V} {ls : List Int} (h : GoodT H v ls) (s : Same H H') : GoodT H' v ls := let ⟨a, e, q, r⟩ := h; ⟨a, e, q.same s, r⟩
theorem GoodT.ext {H H' : Hp} {v : V} {ls : List Int} (h : GoodT H v ls) (s : ExtN H H') : GoodT H' v ls := let ⟨a, e, q, r⟩ := h; ⟨a, e, q.ext s, r⟩
theorem good_wins {ls : List Int} (b : Bd 1000000 ls) : winsB (fun _ => "int") (ls.map V.int) = true := by
  unfold winsB
  rw [List.all_eq_true]
  intro x hx
  obtain ⟨z, hz, rfl⟩ := List.mem_map.mp hx
  have := b z hz
  simp [winB, this.1, this.2]
def spWT (K : PySem.W.Frag) (cR : Addr) : Sp := fun vs H Q E => ∃ v : V, vs = [v] ∧ ((∃ ls, GoodT H v ls ∧ ∀ H', Same H H' → Q .non H') ∨ (BadT K H v ∧ Errs E cR "part" (.str "lengths") H))
theorem scWT : FnScope ["lengths"] ["lengths"] (defScope sWantTold) := ⟨rfl, rfl, rfl, by decide +kernel, rfl, by decide +kernel, by decide +kernel⟩
theorem ok_wt {cR f fA fL fI : Addr} {fd fdA fdL fdI : FuncData} (F : Fun K "want_told" "want_told" sWantTold f fd) (T : Bi mg) (N2 : Nm2 mg) (A' : DefAt P w K mg base CX0 3 "are_lengths" ["value"] (spAreG K) fA fdA) (L : DefAt P w K mg base CX0 1 "is_list" ["value"] (spIsListA K) fL fdL)
    (B : ErrAt P w K mg base "BadRing" "part" cR fI fdI) : FnOk P w K mg base (L2.CX P w) 4 f fd ["lengths"] (spWT K cR) := by
  refine F.okX scWT (fun vs H Q E h => ?_) (fun cdv A outer s H vs Q E hr h => ?_)
  · obtain ⟨v, rfl, _⟩ := h
    rfl
  · obtain ⟨t2, h2⟩ := N2.least
    obtain ⟨t7, h7⟩ := N2.most
    have hr2 : Room 2 (A.deeper (PyProof.Rows.envOfC "want_told" (defScope sWantTold) s.heap.objs.size f cdv)) := hr.mono (by decide)
    refine ⟨_, pss_cons (ps_if (PW.pt (pw_or (pt_not (pt_val (pe_call L.ok (hr.mono (by decide)) rfl L.g L.kp L.b .nil pass0 (pa_cons (pv 0) pa_nil)))) (pw_or1 (pt_not (pt_chain op_le op_le (pe_glob (v := .int 2) rfl h2 ⟨_, rfl⟩) (pe_callB call_len_seq (by rfl) T.len PySem.boot_len (pa_cons (pv 0) pa_nil)) (pe_glob (v := .int 7) rfl h7 ⟨_, rfl⟩))))))
        (pss_one (ps_raise rfl (takes_of rfl rfl rfl rfl) (pmk_oex B.oex B.ic B.ti B.ok hr2 B.b .nil pass0 rfl B.g (pa_cons pe_str pa_nil)))) pss_nil)
      (pss_one (ps_if (pt_not (pt_val (pe_call A'.ok hr rfl A'.g A'.kp A'.b .nil pass0 (pa_cons (pv 0) pa_nil))))
        (pss_one (ps_raise rfl (takes_of rfl rfl rfl rfl) (pmk_oex B.oex B.ic B.ti B.ok hr2 B.b .nil pass0 rfl B.g (pa_cons pe_str pa_nil)))) pss_nil)), ?_⟩
    obtain ⟨v, rfl, ⟨ls, ⟨a, rfl, sq, l2, l7, bd⟩, q⟩ | ⟨no | ⟨k, hk, h⟩, er⟩⟩ := h
    · have hk : ∃ k, Knd K H (.ref a) k ∧ SqK K H k a (ls.map V.int) := by
        rcases sq with z | z
        · exact ⟨"list", ⟨.base (.lst z), by decide⟩, .inl ⟨rfl, SqL.of z⟩⟩
        · exact ⟨"tuple", ⟨.base (.tup z), by decide⟩, .inr ⟨rfl, .inl (.inl z)⟩⟩
      obtain ⟨k, hk, sk⟩ := hk
      refine ⟨_, rfl, .inl ⟨_, k, rfl, hk, fun H1 s1 => ⟨_, rfl, ?_⟩⟩⟩
      rw [decide_eq_true sk.kind]
      refine iteF ⟨_, rfl, a, _, rfl, (sk.same s1).seq, _, _, rfl, rfl, _, rfl, iteDT (by rw [List.length_map]; omega) ⟨_, _, rfl, rfl, _, rfl, ?_⟩⟩
      rw [List.length_map, decide_eq_true (show (ls.length : Int) ≤ 7 by omega)]
      refine iteF ?_
      refine ⟨_, rfl, _, k, a, _, fun _ => "int", rfl, hk.same s1, rfl, sk.same s1, by rw [List.length_map]; omega, fun x hx => ?_, fun H2 s2 => ⟨_, rfl, ?_⟩⟩
      · obtain ⟨z, _, rfl⟩ := List.mem_map.mp hx
        exact ⟨Knd.int, fun _ => ⟨z, rfl⟩⟩
      · rw [good_wins bd]
        exact iteF (q H2 (s1.trans s2))
    · exact ⟨_, rfl, .inr ⟨_, rfl, no, fun H1 s1 => ⟨_, rfl, iteT (iteT (err_made B.oex B.nf (er.later s1)))⟩⟩⟩
    · refine ⟨_, rfl, .inl ⟨_, k, rfl, hk, fun H1 s1 => ⟨_, rfl, ?_⟩⟩⟩
      rcases h with ⟨k1, k2⟩ | ⟨a, xs, kf, rfl, sk, xl, hx, bad⟩
      · rw [decide_eq_false fun z => z.elim k1 k2]
        exact iteT (iteT (err_made B.oex B.nf (er.later s1)))
      · rw [decide_eq_true sk.kind]
        refine iteF ⟨_, rfl, a, _, rfl, (sk.same s1).seq, _, _, rfl, rfl, _, rfl, ?_⟩
        unfold toldB at bad
        refine ite2 (fun c => ?_) (fun c => ?_)
        · have c' : (2 : Int) ≤ xs.length := of_decide_eq_true c
          refine ⟨_, _, rfl, rfl, _, rfl, ?_⟩
          by_cases d : xs.length ≤ 7
          · rw [decide_eq_true (show (xs.length : Int) ≤ 7 by omega)]
            rw [decide_eq_true (show 2 ≤ xs.length by omega), decide_eq_true d, Bool.and_self, Bool.true_and] at bad
            refine iteF ⟨_, rfl, _, k, a, _, kf, rfl, hk.same s1, rfl, sk.same s1, xl, fun x m => (hx x m).same s1, fun H2 s2 => ⟨_, rfl, ?_⟩⟩
            rw [bad]
            exact iteT (err_made B.oex B.nf (er.later (s1.trans s2)))
          · rw [decide_eq_false (show ¬ (xs.length : Int) ≤ 7 by omega)]
            exact iteT (err_made B.oex B.nf (er.later s1))
        · exact ⟨_, rfl, iteT (err_made B.oex B.nf (er.later s1))⟩
end
end K
namespace K
open PySem L2 Rg LamX
open Evl (pss_cut)
def dbl (ls : List Int) (x : Int) : List Int := ls.map (fun z => 2 * z) ++ [x]
theorem dbl_len (ls : List Int) (x : Int) : (dbl ls x).length = ls.length + 1 := by
  unfold dbl
  rw [List.length_append, List.length_map]
  rfl
section
variable {P : Program} {w : World} {K : PySem.W.Frag} {mg : Str → Option Value} {base : Heap}
theorem catV {a b : Addr} {xs ys : List V} {H : Hp} {Q : VK} (ha : H a = some (.tup xs)) (hb : H b = some (.tup ys)) (hl : xs.length + ys.length ≤ 1000) (k : ∀ t H', H' t = some (.tup (xs ++ ys)) → Same H H' → Q (.ref t) H') : rCatA K (.ref a) (.ref b) H Q := by
  refine ⟨a, b, _, _, rfl, rfl, .inl (.inl ha), .inl (.inl hb), Nat.le_of_lt (sm (by omega)), fun e => k b H ?_ (Same.refl H), fun _ e => k a H ?_ (Same.refl H), fun _ _ p hp => k p _ upd_same ((Same.refl H).new hp)⟩
  · rw [e]; exact hb
  · rw [e, List.append_nil]; exact ha
/-- an error that may come later, with more of the tables -/
def ErrsX (E : XK) (C : Addr) (f : Str) (v : V) (T : List (Addr × Str)) (H : Hp) : Prop := ∀ J, ExtN H J → Tabs T J → Errs E C f v J
theorem ErrsX.here {E : XK} {C : Addr} {f : Str} {v : V} {T : List (Addr × Str)} {H : Hp} (h : ErrsX E C f v T H) (t : Tabs T H) : Errs E C f v H := h H (ExtN.of (Same.refl H)) t
theorem ErrsX.ext {E : XK} {C : Addr} {f : Str} {v : V} {T : List (Addr × Str)} {H H' : Hp} (h : ErrsX E C f v T H) (s : ExtN H H') : ErrsX E C f v T H' := fun J x t => h J (s.trans x) t
def NotWall (K : PySem.W.Frag) (H : Hp) (wv : V) (ls : List Int) : Prop := (∃ k, Knd K H wv k ∧ k ≠ "int") ∨ ∃ x, wv = .int x ∧ ¬ (0 < x ∧ ∃ m ∈ lotsN ls.length, gapE ls m = x)
theorem NotWall.same {H H' : Hp} {wv : V} {ls : List Int} (h : NotWall K H wv ls) (s : Same H H') : NotWall K H' wv ls := h.imp (fun ⟨k, a, b⟩ => ⟨k, a.same s, b⟩) id
/-! ### walls -/
def spWs (K : PySem.W.Frag) (cR : Addr) (T : List (Addr × Str)) : Sp := fun vs H Q E => ∃ v : V, vs = [v] ∧ Tabs T H ∧ ((∃ ls : List Int, GoodT H v ls ∧ ∀ (p : Addr) (W : List Int) (H' : Hp), ExtN H H' → Tabs T H' → H' p = some (.tup (W.map V.int)) → IsW ls W → Q (.ref p) H') ∨ (BadT K H v ∧ Errs E cR "part" (.str "lengths") H))
theorem scWs : FnScope ["lengths"] ["lengths"] (defScope sWalls) := ⟨rfl, rfl, rfl, by decide +kernel, rfl, by decide +kernel, by decide +kernel⟩
theorem ok_ws {cR f fT fO : Addr} {fd fdT fdO : FuncData} {T : List (Addr × Str)} (F : Fun K "walls" "walls" sWalls f fd) (WT : DefAt P w K mg base (L2.CX P w) 4 "want_told" ["lengths"] (spWT K cR) fT fdT) (WO : DefAt P w K mg base CX0 5 "walls_of" ["lengths"] (spWO K T) fO fdO) : FnOk P w K mg base (L2.CX P w) 6 f fd ["lengths"] (spWs K cR T) := by
  refine F.okX scWs (fun vs H Q E h => ?_) (fun cdv A outer s H vs Q E hr h => ?_)
  · obtain ⟨v, rfl, _⟩ := h
    rfl
  · refine ⟨_, pss_cons (ps_expr (pe_call WT.ok (hr.mono (by decide)) rfl WT.g WT.kp WT.b .nil (passes_call (takes_of rfl rfl rfl rfl) (fun _ _ _ _ h => h)) (pa_cons (pv 0) pa_nil))) (pss_one (ps_ret (pe_call WO.ok hr rfl WO.g WO.kp WO.b .nil pass0 (pa_cons (pv 0) pa_nil)))), ?_⟩
    obtain ⟨v, rfl, tab, ⟨ls, good, q⟩ | ⟨bad, er⟩⟩ := h
    · refine ⟨_, rfl, v, rfl, .inl ⟨ls, good, fun H1 s1 => ?_⟩⟩
      obtain ⟨a, rfl, sq, l2, l7, bd⟩ := good
      exact ⟨_, rfl, a, ls, rfl, sq.same s1, by omega, l7, tab.ext s1, fun p W H' e t hp iw => q p W H' ((ExtN.of s1).trans e) t hp iw⟩
    · exact ⟨_, rfl, v, rfl, .inr ⟨bad, er⟩⟩
/-! ### want_last -/
def spLast (K : PySem.W.Frag) (cR cN : Addr) (T : List (Addr × Str)) : Sp := fun vs H Q E => ∃ v wv : V, vs = [v, wv] ∧ Tabs T H ∧ ((∃ (ls : List Int) (x : Int), wv = .int x ∧ GoodT H v ls ∧ (0 < x ∧ ∃ m ∈ lotsN ls.length, gapE ls m = x) ∧ ∀ H', ExtN H H' → Tabs T H' → Q .non H') ∨
  (BadT K H v ∧ Errs E cR "part" (.str "lengths") H) ∨ (∃ ls : List Int, GoodT H v ls ∧ NotWall K H wv ls ∧ ErrsX E cN "part" (.str "wall") T H))
theorem scLast : FnScope ["lengths", "wall"] ["lengths", "wall"] (defScope sWantLast) := ⟨rfl, rfl, rfl, by decide +kernel, rfl, by decide +kernel, by decide +kernel⟩
theorem ok_last {cR cN f fT fO fI fE : Addr} {fd fdT fdO fdI fdE : FuncData} {T : List (Addr × Str)} (F : Fun K "want_last" "want_last" sWantLast f fd) (WT : DefAt P w K mg base (L2.CX P w) 4 "want_told" ["lengths"] (spWT K cR) fT fdT) (WO : DefAt P w K mg base CX0 5 "walls_of" ["lengths"] (spWO K T) fO fdO) (G : DefAt P w K mg base CX0 1 "is_integer" ["value"] (spIsInt K) fI fdI)
    (B : ErrAt P w K mg base "BadNumber" "part" cN fE fdE) : FnOk P w K mg base (L2.CX P w) 6 f fd ["lengths", "wall"] (spLast K cR cN T) := by
  refine F.okX scLast (fun vs H Q E h => ?_) (fun cdv A outer s H vs Q E hr h => ?_)
  · obtain ⟨v, wv, rfl, _⟩ := h
    rfl
  · have hr2 : Room 2 (A.deeper (PyProof.Rows.envOfC "want_last" (defScope sWantLast) s.heap.objs.size f cdv)) := hr.mono (by decide)
    refine ⟨_, pss_cons (ps_expr (pe_call WT.ok (hr.mono (by decide)) rfl WT.g WT.kp WT.b .nil (passes_call (takes_of rfl rfl rfl rfl) (fun _ _ _ _ h => h)) (pa_cons (pv 0) pa_nil)))
      (pss_one (ps_if (PW.pt (pw_or (pt_not (pt_val (pe_call G.ok (hr.mono (by decide)) rfl G.g G.kp G.b .nil pass0 (pa_cons (pv 1) pa_nil)))) (pw_or1 (pt_cmpR op_notIn_seq (pv 1) (pe_call WO.ok hr rfl WO.g WO.kp WO.b .nil pass0 (pa_cons (pv 0) pa_nil)) (by rfl)))))
        (pss_one (ps_raise rfl (takes_of rfl rfl rfl rfl) (pmk_oex B.oex B.ic B.ti B.ok hr2 B.b .nil pass0 rfl B.g (pa_cons pe_str pa_nil)))) pss_nil)), ?_⟩
    obtain ⟨v, wv, rfl, tab, ⟨ls, x, rfl, good, hx, q⟩ | ⟨bad, er⟩ | ⟨ls, good, nw, er⟩⟩ := h
    · refine ⟨_, rfl, v, rfl, .inl ⟨ls, good, fun H1 s1 => ?_⟩⟩
      obtain ⟨a, rfl, sq, l2, l7, bd⟩ := good
      refine ⟨_, rfl, V.int x, "int", rfl, Knd.int, _, rfl, iteF ?_⟩
      refine ⟨_, rfl, _, rfl, a, ls, rfl, sq.same s1, by omega, l7, tab.ext s1, fun p W H' e t hp iw => ?_⟩
      refine ⟨p, _, rfl, .inr (.inl (.inl hp)), rfl, flat_ints _, _, rfl, ?_⟩
      show (if (!inV (.int x) (W.map V.int)) = true then _ else _)
      have m : inV (.int x) (W.map V.int) = true := by
        rw [inV_int, List.any_eq_true]
        exact ⟨x, (iw.mem x).mpr hx, decide_eq_true rfl⟩
      rw [m]
      exact iteF (q H' ((ExtN.of s1).trans e) t)
    · exact ⟨_, rfl, v, rfl, .inr ⟨bad, er⟩⟩
    · refine ⟨_, rfl, v, rfl, .inl ⟨ls, good, fun H1 s1 => ?_⟩⟩
      obtain ⟨a, rfl, sq, l2, l7, bd⟩ := good
      rcases nw with ⟨k, hk, nk⟩ | ⟨x, rfl, nx⟩
      · refine ⟨_, rfl, wv, k, rfl, hk.same s1, _, rfl, ?_⟩
        rw [decide_eq_false nk]
        exact iteT (iteT (err_made B.oex B.nf (er H1 (ExtN.of s1) (tab.ext s1))))
      · refine ⟨_, rfl, V.int x, "int", rfl, Knd.int, _, rfl, iteF ?_⟩
        refine ⟨_, rfl, _, rfl, a, ls, rfl, sq.same s1, by omega, l7, tab.ext s1, fun p W H' e t hp iw => ?_⟩
        refine ⟨p, _, rfl, .inr (.inl (.inl hp)), rfl, flat_ints _, _, rfl, ?_⟩
        show (if (!inV (.int x) (W.map V.int)) = true then _ else _)
        have m : inV (.int x) (W.map V.int) = false := by
          rw [inV_int, List.any_eq_false]
          intro y hy e
          have e' := of_decide_eq_true e
          exact nx ((iw.mem x).mp (by rw [← e']; exact hy))
        rw [m]
        exact iteT (err_made B.oex B.nf (er H' ((ExtN.of s1).trans e) t))
/-! ### wall_lots -/
def spWlo (K : PySem.W.Frag) (cR cN : Addr) (T : List (Addr × Str)) : Sp := fun vs H Q E => ∃ v wv : V, vs = [v, wv] ∧ Tabs T H ∧ ((∃ (ls : List Int) (x : Int), wv = .int x ∧ GoodT H v ls ∧ (0 < x ∧ ∃ m ∈ lotsN ls.length, gapE ls m = x) ∧
  ∀ (p : Addr) (xs : List V) (nss : List (List Int)) (H' : Hp), ExtN H H' → Tabs T H' → H' p = some (.tup xs) → TL H' xs nss → (∃ L, AllL ls.length L ∧ nss = (L.filter fun l => decide (gapE ls l = -x)).map (· ++ [(ls.length : Int)])) → Q (.ref p) H') ∨
  (BadT K H v ∧ Errs E cR "part" (.str "lengths") H) ∨ (∃ ls : List Int, GoodT H v ls ∧ NotWall K H wv ls ∧ ErrsX E cN "part" (.str "wall") T H))
abbrev nWLo : List Str := ["lengths", "wall", "lots", "lot"]
theorem scWLo : FnScope nWLo ["lengths", "wall"] (defScope sWallLots) := ⟨rfl, rfl, rfl, by decide +kernel, rfl, by decide +kernel, by decide +kernel⟩
theorem ok_wlo {cR cN f fT fL fE : Addr} {fd fdT fdL fdE : FuncData} {TT : List (Addr × Str)} (F : Fun K "wall_lots" "wall_lots" sWallLots f fd) (T : Bi mg) (WL : DefAt P w K mg base (L2.CX P w) 6 "want_last" ["lengths", "wall"] (spLast K cR cN TT) fT fdT) (LO : DefAt P w K mg base CX0 4 "lots_of" ["many"] (spLotsOf K TT) fL fdL) (EX : DefAt P w K mg base CX0 2 "excess_of" ["lengths", "lot"] (spEx K) fE fdE) : FnOk P w K mg base (L2.CX P w) 7 f fd ["lengths", "wall"] (spWlo K cR cN TT) := by
  refine F.okX scWLo (fun vs H Q E h => ?_) (fun cdv A outer s H vs Q E hr h => ?_)
  · obtain ⟨v, wv, rfl, _⟩ := h
    rfl
  · have nd := scWLo.nd
    refine ⟨_, pss_cons (ps_expr (pe_call WL.ok hr rfl WL.g WL.kp WL.b .nil (passes_call (takes_of rfl rfl rfl rfl) (fun _ _ _ _ h => h)) (pa_cons (pv 0) (pa_cons (pv 1) pa_nil))))
      (pss_cons (ps_setLc (i := 2) (own := [("lot", 3)]) (g := gName 3) (te := tVar 3) rfl nd rfl rfl (sw_true rfl rfl rfl (by decide +kernel)) (pi_tup (pe_call LO.ok (hr.mono (by decide)) rfl LO.g LO.kp LO.b .nil pass0 (pa_cons (pe_callB call_len_seq (by rfl) T.len PySem.boot_len (pa_cons (pv 0) pa_nil)) pa_nil)))
        (blkOk_by (N := nWLo) (sc := defScope sWallLots) (by decide +kernel)) (fun _ _ _ _ _ => pg_name (i := 3) nd rfl (Or.inl rfl)) (fun _ _ _ _ _ => pts_one (pt_cmpR op_eq (pe_call EX.ok (hr.mono (by decide)) rfl EX.g EX.kp EX.b .nil pass0 (pa_cons (pv 0) (pa_cons (pv 3) pa_nil))) (pe_un un_neg (pv 1)) (nomark _))) (fun _ _ _ _ _ => pv 3))
      (pss_one (ps_ret (pe_callTy call_tuple_of (by rfl) T.tuple (by decide +kernel) (pa_cons (pe_lc (own := [("lot", 3)]) (g := gName 3) (tt := tYes) (te := tOp (rCatA K) (tVar 3) (tTup (tCons (tCB (rLenS K) (tCons (tVar 0) tNil)) tNil))) rfl nd (pi_list (pv 2))
        (blkOk_by (N := nWLo) (sc := defScope sWallLots) (by decide +kernel)) (fun _ _ _ _ _ => pg_name (i := 3) nd rfl (Or.inl rfl)) (fun _ _ _ _ _ => pts_nil) (fun _ _ _ _ _ => pe_op op_catA (pv 3) (pe_tup (pa_cons (pe_callB (r := rLenS K) call_len_seq (by rfl) T.len PySem.boot_len (pa_cons (pv 0) pa_nil)) pa_nil)))) pa_nil))))), ?_⟩
    obtain ⟨v, wv, rfl, tab, ⟨ls, x, rfl, good, hx, q⟩ | ⟨bad, er⟩ | ⟨ls, good, nw, er⟩⟩ := h
    rotate_left
    · exact ⟨_, rfl, _, rfl, v, wv, rfl, tab, .inr (.inl ⟨bad, er⟩)⟩
    · exact ⟨_, rfl, _, rfl, v, wv, rfl, tab, .inr (.inr ⟨ls, good, nw, er⟩)⟩
    refine ⟨_, rfl, _, rfl, v, _, rfl, tab, .inl ⟨ls, x, rfl, good, hx, fun H1 e1 tab1 => ?_⟩⟩
    obtain ⟨a, rfl, sq, l2, l7, bd⟩ := good
    have sq1 := sq.ext e1
    refine ⟨_, rfl, a, _, rfl, sq1.sq, ?_⟩
    rw [List.length_map]
    refine ⟨ls.length, rfl, by omega, by omega, tab1, fun p xs kf H2 e2 tab2 hp la pm pw => ⟨p, rfl, ⟨_, .inl (.inl hp)⟩, fun D hD => ?_⟩⟩
    have sq2 := sq1.ext e2
    have lots : ∀ y ∈ xs, kf y ∈ lotsN ls.length := fun y hy => pm.mem_iff.mp (List.mem_map.mpr ⟨_, hy, rfl⟩)
    have xl : xs.length ≤ 128 := by
      have e := pm.length_eq
      rw [List.length_map, lotsN_length] at e
      rw [e]
      exact Nat.pow_le_pow_right (by decide) (show ls.length ≤ 7 from l7)
    refine lc_tup (K := K) (a := p) (xs := xs) (fun i H' => Same H2 H' ∧ H' D = some (.lst ((xs.take i).filter fun y => decide (gapE ls (kf y) = -x)))) ⟨(Same.refl H2).new hD, upd_same⟩ (fun i H' _ q => .inl (.inl (q.1 _ _ hp))) ?_ ?_
    · rintro i y H' hi ⟨s3, h3⟩
      have hy := List.mem_of_getElem? hi
      have hil : i < xs.length := (List.getElem?_eq_some_iff.mp hi).1
      obtain ⟨b, rfl, hb⟩ := la y hy
      have lot := lotsN_lot (lots _ hy)
      refine ⟨rfl, _, rfl, _, rfl, a, b, ls, kf (.ref b), rfl, sq2.same s3, s3 _ _ hb, by omega, Nat.le_trans (lot_len lot) (by omega), lot, fun H6 s6 => ⟨_, rfl, x, rfl, rfl, _, rfl, ?_⟩⟩
      have s36 := s3.trans s6
      have h6 := s6 _ _ h3
      rw [dec_int, ← take_snoc hi, List.filter_append]
      cases e : decide (gapE ls (kf (.ref b)) = -x) with
      | true =>
        refine iteT ⟨_, rfl, _, h6, ?_, s36.mut hD, ?_⟩
        · have := List.length_filter_le (fun y => decide (gapE ls (kf y) = -x)) (xs.take i)
          rw [List.length_take] at this
          exact sm (by omega)
        · rw [upd_same]
          simp [List.filter, e]
      | false =>
        refine iteF ⟨s36, ?_⟩
        rw [h6]
        simp [List.filter, e]
    rintro H3 ⟨s3, h3⟩
    rw [List.take_length] at h3
    obtain ⟨ys, hys⟩ : ∃ ys, ys = xs.filter fun y => decide (gapE ls (kf y) = -x) := ⟨_, rfl⟩
    rw [← hys] at h3
    have yl : ys.length ≤ 128 := by rw [hys]; exact Nat.le_trans (List.length_filter_le ..) xl
    have ysub : ∀ y ∈ ys, y ∈ xs := fun y hy => by rw [hys] at hy; exact (List.mem_filter.mp hy).1
    refine ⟨_, rfl, D, rfl, ⟨_, SqL.of h3⟩, fun D2 hD2 => ?_⟩
    have sq3 := sq2.same s3
    refine lc_list (K := K) (a := D) (xs := ys) (fun i H' => Same H3 H' ∧ ∃ zs, H' D2 = some (.lst zs) ∧ TL H' zs (((ys.take i).map kf).map (· ++ [(ls.length : Int)]))) ⟨(Same.refl H3).new hD2, [], upd_same, .nil⟩ (fun i H' _ q => q.1.seq (SqL.of h3)) ?_ ?_
    · rintro i y H' hi ⟨s4, zs, h4, tl⟩
      have hy := List.mem_of_getElem? hi
      have hil : i < ys.length := (List.getElem?_eq_some_iff.mp hi).1
      obtain ⟨b, rfl, hb⟩ := la y (ysub y hy)
      have lot := lotsN_lot (lots _ (ysub _ hy))
      have hb4 := s4 _ _ (s3 _ _ hb)
      refine ⟨rfl, _, rfl, _, rfl, a, _, rfl, (sq3.same s4).sq, (by show 1 ≤ sizeLine; decide), fun c hc => ?_⟩
      have n1 : Same H' (upd H' c (.tup [.int ((ls.map V.int).length : Nat)])) := (Same.refl H').new hc
      refine catV (n1 _ _ hb4) upd_same (by rw [List.length_map]; have := lot_len lot; show (kf (V.ref b)).length + 1 ≤ 1000; omega) fun t H5 ht s5 => ?_
      have s45 := n1.trans s5
      have h5 := s45 _ _ h4
      have zl : zs.length = i := by rw [par_len tl, List.length_map, List.length_map, List.length_take]; omega
      refine ⟨zs, h5, sm (by omega), (s4.trans s45).mut hD2, _, upd_same, ?_⟩
      rw [← take_snoc hi, List.map_append, List.map_append]
      have ht' : H5 t = some (.tup ((kf (.ref b) ++ [(ls.length : Int)]).map V.int)) := by
        rw [ht, List.map_append, List.length_map]
        rfl
      refine par_app ((tl.same s45).mut h5) (.cons ⟨t, rfl, ?_⟩ .nil)
      rw [upd_ne fun e => by rw [e, h5] at ht'; cases ht']
      exact ht'
    rintro H4 ⟨s4, zs, h4, tl⟩
    rw [List.take_length] at tl
    refine ⟨D2, _, rfl, .inl ⟨SqL.of h4, fun t ht => ?_⟩⟩
    have s5 : Same H2 (upd H4 t (.tup zs)) := (s3.trans s4).new (by
      cases e : H4 t with
      | none => rfl
      | some o => rw [ht] at e; cases e)
    refine q t zs _ _ ((e1.trans e2).trans (ExtN.of s5)) (tab2.ext s5) upd_same (tl.same ((Same.refl H4).new ht)) ⟨xs.map kf, AllL.of_lots pm pw, ?_⟩
    rw [hys, show (fun y => decide (gapE ls (kf y) = -x)) = (fun l => decide (gapE ls l = -x)) ∘ kf from rfl, ← List.filter_map]
end
end K
namespace K
open PySem L2 Rg LamX
open Evl (pss_cut)
theorem tabS_but {h : Addr} {xs : List V} {H H' : Hp} {P : Addr} {q : Str} (t : TabS H P q) (b : But h H H') (hh : H h = some (.lst xs)) : TabS H' P q := by
  obtain ⟨ps, h1, h2, h3⟩ := t
  refine ⟨ps, b _ _ (fun e => ?_) h1, h2, fun pos cv hc => ?_⟩
  · rw [e, hh] at h1
    cases h1
  · obtain ⟨c, e1, e2⟩ := h3 pos cv hc
    refine ⟨c, e1, b _ _ (fun e => ?_) e2⟩
    rw [e, hh] at e2
    cases e2
theorem tabs_but {h : Addr} {xs : List V} {H H' : Hp} {T : List (Addr × Str)} (t : Tabs T H) (b : But h H H') (hh : H h = some (.lst xs)) : Tabs T H' := fun p hp => tabS_but (t p hp) b hh
theorem Same.ext {H H' : Hp} (s : Same H H') : ExtN H H' := ExtN.of s
theorem PenAt.ext {K : PySem.W.Frag} {H H' : Hp} {p : Addr} {e : Addr × List Int} {n : Nat} (h : PenAt K H p e n) (s : ExtN H H') : PenAt K H' p e n := by
  obtain ⟨a, r, h1, h5, h6, h7⟩ := h.ex
  refine ⟨⟨a, r, s _ _ h1 (fun _ z => nomatch z), h5, h6, h7⟩, ?_, h.np, h.ln⟩
  rcases h.sq with (z | ⟨o, z⟩) | z
  · exact .inl (.inl (s _ _ z (fun _ z => nomatch z)))
  · exact .inl (.inr ⟨o, s _ _ z (fun _ z => nomatch z)⟩)
  · exact .inr z
end K
namespace K
open PySem L2 Rg LamX
/-! ### how far a lot is beyond all others, one bar more -/
def cx (c : Int) (ls : List Int) (x : Int) : List Int := ls.map (fun z => c * z) ++ [x]
theorem cx_two (ls : List Int) (x : Int) : cx 2 ls x = dbl ls x := rfl
theorem cx_one (ls : List Int) (x : Int) : cx 1 ls x = ls ++ [x] := by
  unfold cx
  congr 1
  exact (List.map_congr_left fun z _ => Int.one_mul z).trans (List.map_id _)
theorem cx_len (c : Int) (ls : List Int) (x : Int) : (cx c ls x).length = ls.length + 1 := by unfold cx; simp
theorem mul_sum (c : Int) : ∀ l : List Int, (l.map fun z => c * z).sum = c * l.sum
  | [] => by simp
  | a :: l => by rw [List.map_cons, List.sum_cons, List.sum_cons, mul_sum c l, Int.mul_add]
theorem cx_sum (c : Int) (ls : List Int) (x : Int) : (cx c ls x).sum = c * ls.sum + x := by
  unfold cx
  rw [List.sum_append, mul_sum, List.sum_singleton]
theorem cx_getD {c : Int} {ls : List Int} {x : Int} {j : Nat} (h : j < ls.length) : (cx c ls x).getD j 0 = c * ls.getD j 0 := by
  unfold cx
  rw [List.getD_eq_getElem?_getD, List.getElem?_append_left (by rw [List.length_map]; exact h), List.getElem?_map, List.getD_eq_getElem?_getD, List.getElem?_eq_getElem h]
  rfl
theorem cx_getL {c : Int} {ls : List Int} {x : Int} : (cx c ls x).getD ls.length 0 = x := by
  unfold cx
  rw [List.getD_eq_getElem?_getD, List.getElem?_append_right (by rw [List.length_map]; exact Nat.le_refl _), List.length_map, Nat.sub_self]
  rfl
theorem cx_lsum {c : Int} {ls : List Int} {x : Int} {l : List Int} (h : ∀ b ∈ l, 0 ≤ b ∧ b < (ls.length : Int)) : lsum (cx c ls x) l = c * lsum ls l := by
  unfold lsum
  rw [← mul_sum, List.map_map]
  congr 1
  refine List.map_congr_left fun b hb => ?_
  have := h b hb
  exact cx_getD (by omega)
theorem lsum_app (ls a b : List Int) : lsum ls (a ++ b) = lsum ls a + lsum ls b := by unfold lsum; rw [List.map_append, List.sum_append]
theorem cx_lsumL {c : Int} {ls : List Int} {x : Int} {l : List Int} (h : ∀ b ∈ l, 0 ≤ b ∧ b < (ls.length : Int)) : lsum (cx c ls x) (l ++ [(ls.length : Int)]) = c * lsum ls l + x := by
  rw [lsum_app, cx_lsum h]
  congr 1
  unfold lsum
  rw [List.map_singleton, List.sum_singleton, Int.toNat_natCast, cx_getL]
theorem two_c (c s t : Int) : 2 * (c * s) - c * t = c * (2 * s - t) := by
  rw [Int.mul_sub, Int.mul_left_comm 2 c s]
theorem gap_out {c : Int} {ls : List Int} {x : Int} {l : List Int} (h : l ∈ lotsN ls.length) : gapE (cx c ls x) l = c * gapE ls l - x := by
  unfold gapE
  rw [cx_lsum (lotsN_in _ l h), cx_sum, ← two_c]
  omega
theorem gap_in {c : Int} {ls : List Int} {x : Int} {l : List Int} (h : l ∈ lotsN ls.length) : gapE (cx c ls x) (l ++ [(ls.length : Int)]) = c * gapE ls l + x := by
  unfold gapE
  rw [cx_lsumL (lotsN_in _ l h), cx_sum, ← two_c]
  omega
theorem short_gap (ls l : List Int) : shortB ls l = decide (gapE ls l < 0) := by
  unfold shortB gapE
  rcases sort_cases ls l with ⟨a, e⟩ | ⟨a, e⟩ | ⟨a, e⟩ <;> rw [e]
  · rw [decide_eq_false (fun z => ne_sv z.symm), decide_eq_false (by omega)]
  · rw [decide_eq_true rfl, decide_eq_true (by omega)]
  · rw [decide_eq_false (fun z => ne_sl z.symm), decide_eq_false (by omega)]
/-- the other bars of a lot -/
theorem gap_rest {ls l : List Int} (h : l ∈ lotsN ls.length) : restN ls.length l ls.length ∈ lotsN ls.length ∧ gapE ls (restN ls.length l ls.length) = -gapE ls l := by
  refine ⟨nat_lots _ _, ?_⟩
  have := rest_sum (lotsN_lot h)
  unfold gapE
  omega
theorem lots_cases {n : Nat} {l : List Int} (h : l ∈ lotsN (n + 1)) : l ∈ lotsN n ∨ ∃ m ∈ lotsN n, l = m ++ [(n : Int)] := by
  rcases List.mem_append.mp h with h | h
  · exact .inl h
  · obtain ⟨m, hm, e⟩ := List.mem_map.mp h
    exact .inr ⟨m, hm, e.symm⟩
end K
namespace K
open PySem L2 Rg LamX
/-! ### all lots, each once -/
def hasI (b : Int) (l : List Int) : Bool := l.any fun y => decide (y = b)
theorem hasI_iff {b : Int} {l : List Int} : hasI b l = true ↔ b ∈ l := by
  unfold hasI
  rw [List.any_eq_true]
  exact ⟨fun ⟨y, hy, e⟩ => by rw [← of_decide_eq_true e]; exact hy, fun h => ⟨b, h, decide_eq_true rfl⟩⟩
theorem lotsN_asc : ∀ n, ∀ l ∈ lotsN n, l.Pairwise (· < ·)
  | 0, l, h => by rw [List.mem_singleton.mp h]; exact List.Pairwise.nil
  | n + 1, l, h => by
    rcases List.mem_append.mp h with h | h
    · exact lotsN_asc n l h
    · obtain ⟨a, ha, rfl⟩ := List.mem_map.mp h
      rw [List.pairwise_append]
      refine ⟨lotsN_asc n a ha, List.pairwise_singleton _ _, fun x hx y hy => ?_⟩
      have := lotsN_in n a ha x hx
      rw [List.mem_singleton.mp hy]
      omega
theorem lotsN_once : ∀ n, (lotsN n).Nodup
  | 0 => List.nodup_cons.mpr ⟨by simp, List.nodup_nil⟩
  | n + 1 => by
    rw [lotsN_succ, List.nodup_append]
    refine ⟨lotsN_once n, ?_, fun x hx y hy e => ?_⟩
    · exact List.Pairwise.map _ (fun a b h e => h (List.append_cancel_right e)) (lotsN_once n)
    · obtain ⟨a, _, rfl⟩ := List.mem_map.mp hy
      have := lotsN_in n x hx n (by rw [e]; exact List.mem_append_right _ (List.mem_singleton.mpr rfl))
      omega
theorem asc_eq {n : Nat} {a b : List Int} (ha : a ∈ lotsN n) (hb : b ∈ lotsN n) (p : a.Perm b) : a = b :=
  sorted_eq p ((lotsN_asc n a ha).imp fun h => by omega) ((lotsN_asc n b hb).imp fun h => by omega)
theorem same_lot {n : Nat} {a b : List Int} (ha : a ∈ lotsN n) (hb : b ∈ lotsN n) (h : ∀ y, y ∈ a ↔ y ∈ b) : a = b :=
  asc_eq ha hb ((List.perm_ext_iff_of_nodup (lotsN_lot ha).1 (lotsN_lot hb).1).mpr h)
def cmp (n : Nat) (l : List Int) : List Int := restN n l n
theorem cmp_mem (n : Nat) (l : List Int) : cmp n l ∈ lotsN n := nat_lots (fun j => !hasB l j) n
theorem cmp_iff {n : Nat} {l : List Int} {y : Int} : y ∈ cmp n l ↔ (0 ≤ y ∧ y < n) ∧ y ∉ l := by
  unfold cmp restN natB
  rw [List.mem_map]
  constructor
  · rintro ⟨j, hj, rfl⟩
    have h := List.mem_filter.mp hj
    rw [List.mem_range] at h
    refine ⟨⟨by omega, by omega⟩, fun z => ?_⟩
    rw [hasB_iff.mpr z] at h
    exact absurd h.2 (by decide)
  · rintro ⟨⟨h1, h2⟩, h3⟩
    obtain ⟨j, rfl⟩ := Int.eq_ofNat_of_zero_le h1
    refine ⟨j, List.mem_filter.mpr ⟨List.mem_range.mpr (by omega), ?_⟩, rfl⟩
    cases e : hasB l j with
    | false => rfl
    | true => exact absurd (hasB_iff.mp e) h3
theorem cmp_cmp {n : Nat} {l : List Int} (h : l ∈ lotsN n) : cmp n (cmp n l) = l := same_lot (cmp_mem _ _) h fun y => by
  rw [cmp_iff, cmp_iff]
  constructor
  · rintro ⟨h1, h2⟩
    exact Classical.byContradiction fun z => h2 ⟨h1, z⟩
  · intro hy
    exact ⟨(lotsN_lot h).2 y hy, fun z => z.2 hy⟩
theorem AllL.nd {n : Nat} {L : List (List Int)} (aL : AllL n L) : L.Nodup := aL.pm.nodup_iff.mpr (lotsN_once n)
/-! ### one bar more keeps the order -/
theorem lex_snoc (z : Int) : ∀ a b : List Int, a.length = b.length → HT.lexLt (a ++ [z]) (b ++ [z]) = HT.lexLt a b
  | [], [], _ => by
    show HT.lexLt [z] [z] = HT.lexLt [] []
    rw [HT.lexLt_cons, if_pos rfl]
  | x :: a, y :: b, h => by
    have h' : a.length = b.length := by simpa using h
    rw [List.cons_append, List.cons_append, HT.lexLt_cons, HT.lexLt_cons, lex_snoc z a b h']
theorem LLe.snoc {u v : List Int} (z : Int) (h : LLe u v) : LLe (u ++ [z]) (v ++ [z]) := by
  unfold LLe lotK at h ⊢
  rw [HT.lexLt_cons] at h ⊢
  rw [List.length_append, List.length_append, List.length_singleton]
  by_cases c : (v.length : Int) = (u.length : Int)
  · rw [if_pos c] at h
    rw [if_pos (by omega), lex_snoc z v u (by omega)]
    exact h
  · rw [if_neg c] at h
    rw [if_neg (by omega)]
    have := of_decide_eq_false h
    exact decide_eq_false (by omega)
section
variable {ls W : List Int} {L L0 M : List (List Int)}
theorem lots_up {n : Nat} {l : List Int} (h : l ∈ lotsN n) : l ∈ lotsN (n + 1) := List.mem_append_left _ h
theorem lots_add {n : Nat} {l : List Int} (h : l ∈ lotsN n) : l ++ [(n : Int)] ∈ lotsN (n + 1) := List.mem_append_right _ (List.mem_map.mpr ⟨l, h, rfl⟩)
def shutL (ls : List Int) (L0 : List (List Int)) (h : Int) : List (List Int) := (L0.filter fun l => decide (gapE ls l = -h)).map (· ++ [(ls.length : Int)])
theorem shut_in (aL0 : AllL ls.length L0) {h : Int} {l : List Int} : l ∈ shutL ls L0 h ↔ ∃ m ∈ lotsN ls.length, l = m ++ [(ls.length : Int)] ∧ gapE ls m = -h := by
  unfold shutL
  rw [List.mem_map]
  constructor
  · rintro ⟨m, hm, rfl⟩
    rw [List.mem_filter, aL0.pm.mem_iff, decide_eq_true_eq] at hm
    exact ⟨m, hm.1, rfl, hm.2⟩
  · rintro ⟨m, hm, rfl, g⟩
    exact ⟨m, List.mem_filter.mpr ⟨aL0.pm.mem_iff.mpr hm, decide_eq_true g⟩, rfl⟩
theorem shut_nd (aL0 : AllL ls.length L0) (h : Int) : (shutL ls L0 h).Nodup := List.Pairwise.map _ (fun a b q e => q (List.append_cancel_right e)) (List.Pairwise.filter _ aL0.nd)
theorem cmp_snoc {n : Nat} {m : List Int} (h : m ∈ lotsN n) : cmp (n + 1) (m ++ [(n : Int)]) = cmp n m := same_lot (cmp_mem _ _) (lots_up (cmp_mem _ _)) fun y => by
  rw [cmp_iff, cmp_iff, List.mem_append, List.mem_singleton]
  constructor
  · rintro ⟨h1, h2⟩
    have : y ≠ (n : Int) := fun z => h2 (.inr z)
    exact ⟨by omega, fun z => h2 (.inl z)⟩
  · rintro ⟨h1, h2⟩
    refine ⟨by omega, fun z => z.elim h2 fun z => ?_⟩
    omega
theorem cmp_gap {m : List Int} (h : m ∈ lotsN ls.length) : gapE ls (cmp ls.length m) = -gapE ls m := (gap_rest h).2
end
end K
namespace K
open PySem L2 Rg LamX
open Evl (pss_cut)
def sgnL (ls ns : List Int) (i : Nat) : List Int := (List.range i).map fun j => if hasB ns j = true then ls.getD j 0 else -(ls.getD j 0)
theorem sgn_succ (ls ns : List Int) (i : Nat) : sgnL ls ns (i + 1) = sgnL ls ns i ++ [if hasB ns i = true then ls.getD i 0 else -(ls.getD i 0)] := by
  unfold sgnL
  rw [List.range_succ, List.map_append]
  rfl
theorem sgn_len (ls ns : List Int) (i : Nat) : (sgnL ls ns i).length = i := by unfold sgnL; rw [List.length_map, List.length_range]
theorem sgn_sum (f : Nat → Int) (p : Nat → Bool) : ∀ l : List Nat, (l.map fun j => if p j = true then f j else -(f j)).sum = ((l.filter p).map f).sum - ((l.filter fun j => !p j).map f).sum
  | [] => rfl
  | x :: l => by
    have ih := sgn_sum f p l
    cases e : p x <;> simp [e, List.sum_cons] <;> omega
theorem sgn_gap {ls ns : List Int} (h : Lot ls.length ns) : (sgnL ls ns ls.length).sum = gapE ls ns := by
  unfold sgnL
  rw [sgn_sum]
  have e1 := oth_sum h
  have e2 : (((List.range ls.length).filter (hasB ns)).map fun j => ls.getD j 0).sum = lsum ls ns := by
    rw [← lsum_perm (lot_sorted h)]
    unfold lsum
    rw [List.map_map]
    rfl
  unfold oth at e1
  unfold gapE
  rw [e2]
  omega
section
variable {P : Program} {w : World} {K : PySem.W.Frag} {mg : Str → Option Value} {base : Heap}
/-! ### by how much a lot is longer -/
def spGap (K : PySem.W.Frag) : Sp := fun vs H Q _ => ∃ (l m : Addr) (ls ns : List Int), vs = [.ref l, .ref m] ∧ H l = some (.lst (ls.map V.int)) ∧ H m = some (.tup (ns.map V.int)) ∧ ls.length ≤ 8 ∧ Lot ls.length ns ∧ ∀ H', Same H H' → Q (.int (gapE ls ns)) H'
abbrev nGap : List Str := ["_law_lengths_here", "_law_lot", "_law_bar", "_law_length"]
theorem scGap : FnScope nGap ["_law_lengths_here", "_law_lot"] (defScope sLwGap) := ⟨rfl, rfl, rfl, by decide +kernel, rfl, by decide +kernel, by decide +kernel⟩
theorem ok_gap {f : Addr} {fd : FuncData} (F : Fun K "_law_gap" "_law_gap" sLwGap f fd) (T : Bi mg) : FnOk P w K mg base CX0 2 f fd ["_law_lengths_here", "_law_lot"] (spGap K) := by
  refine F.ok scGap (fun vs H Q E h => ?_) (fun cdv A outer s H vs Q E hr h => ?_)
  · obtain ⟨l, m, ls, ns, rfl, _⟩ := h
    rfl
  · have nd := scGap.nd
    refine ⟨_, pss_one (ps_ret (pe_callB (cr_sum rfl) (by rfl) T.sum (by decide +kernel) (pa_cons (pe_lc (own := [("_law_bar", 2), ("_law_length", 3)]) (g := gTup K 2 (gCons (gName 2) (gCons (gName 3) gNil))) (tt := tYes) (te := tIf (tTest (tOp (rIn K false) (tVar 2) (tVar 1))) (tVar 3) (tUn (rU fun i => .int (-i)) (tVar 3))) rfl nd (pi_enum (by rfl) T.enumerate (pa_cons (pv 0) pa_nil))
        (blkOk_by (N := nGap) (sc := defScope sLwGap) (by decide +kernel)) (fun _ _ _ _ _ => pg_tup rfl (pgs_cons (pg_name (i := 2) nd rfl (Or.inl rfl)) (pgs_cons (pg_name (i := 3) nd rfl (Or.inl rfl)) pgs_nil))) (fun _ _ _ _ _ => pts_nil) (fun _ _ _ _ _ => pe_ifExp (pt_cmpR op_in_seq (pv 2) (pv 1) (by rfl)) (pv 3) (pe_un un_neg (pv 3)))) pa_nil))), ?_⟩
    obtain ⟨l, m, ls, ns, rfl, hl, hm, l8, lot, q⟩ := h
    refine ⟨_, rfl, l, _, rfl, SqL.of hl, fun D hD => ?_⟩
    refine lc_it walk_enum (fun i H' => Same H H' ∧ H' D = some (.lst ((sgnL ls ns i).map V.int))) ⟨(Same.refl H).new hD, upd_same⟩ (fun i H' _ p => p.1.seq (SqL.of hl)) ?_ ?_
    · rintro i x H2 H3 hi ⟨s2, h2⟩ ⟨U, x1, x2, rfl, hU, rfl, e1, e2⟩
      obtain rfl := (Option.some.inj e1).symm
      obtain ⟨z, hz, rfl⟩ := int_at e2
      rw [List.length_map] at hi
      have hDU : D ≠ U := ne_of_none h2 hU
      have s3 : Same H (upd H2 U (.tup [.int (i : Nat), .int z])) := s2.new hU
      have ez : ls.getD i 0 = z := by rw [List.getD_eq_getElem?_getD, hz]; rfl
      have put : ∀ y, y = (if hasB ns i = true then ls.getD i 0 else -(ls.getD i 0)) → ∃ acc, upd H2 U (.tup [.int (i : Nat), .int z]) D = some (.lst acc) ∧ acc.length < sizeLine ∧ (Same H (upd (upd H2 U (.tup [.int (i : Nat), .int z])) D (.lst (acc ++ [.int y]))) ∧ upd (upd H2 U (.tup [.int (i : Nat), .int z])) D (.lst (acc ++ [.int y])) D = some (.lst ((sgnL ls ns (i + 1)).map V.int))) := by
        intro y hy
        refine ⟨_, by rw [upd_ne hDU]; exact h2, by rw [List.length_map, sgn_len]; exact sm (by omega), s3.mut hD, ?_⟩
        rw [upd_same, sgn_succ, List.map_append, hy]
        rfl
      refine ⟨U, _, rfl, .inl (.inl upd_same), rfl, _, _, rfl, _, _, rfl, rfl, rfl, _, rfl, _, rfl, m, _, rfl, .inr (.inl (.inl (s3 _ _ hm))), rfl, flat_ints _, _, rfl, ?_⟩
      have eb : inV (.int (i : Nat)) (ns.map V.int) = hasB ns i := inV_int _ _
      show (if inV (.int (i : Nat)) (ns.map V.int) = true then _ else _)
      rw [eb]
      cases e : hasB ns i with
      | true =>
        refine iteT ⟨_, rfl, ?_⟩
        exact put z (by rw [e, if_pos rfl, ez])
      | false =>
        refine iteF ⟨_, rfl, z, rfl, ?_⟩
        exact put (-z) (by rw [e, if_neg (by decide), ez])
    · rintro H2 ⟨s2, h2⟩
      rw [List.length_map] at h2
      refine ⟨D, _, rfl, SqL.of h2, ?_⟩
      rw [sgn_gap lot]
      exact q H2 s2
/-! ### the others of a lot -/
def spOth (K : PySem.W.Frag) : Sp := fun vs H Q _ => ∃ (n : Nat) (m : Addr) (ns : List Int), vs = [.int n, .ref m] ∧ n ≤ 8 ∧ H m = some (.tup (ns.map V.int)) ∧ ∀ p H', Same H H' → H' p = some (.tup ((cmp n ns).map V.int)) → Q (.ref p) H'
abbrev nOth : List Str := ["_law_many", "_law_lot", "_law_bar"]
theorem scOth : FnScope nOth ["_law_many", "_law_lot"] (defScope sLwOthers) := ⟨rfl, rfl, rfl, by decide +kernel, rfl, by decide +kernel, by decide +kernel⟩
theorem ok_oth {f : Addr} {fd : FuncData} (F : Fun K "_law_others" "_law_others" sLwOthers f fd) (T : Bi mg) : FnOk P w K mg base CX0 1 f fd ["_law_many", "_law_lot"] (spOth K) := by
  refine F.ok scOth (fun vs H Q E h => ?_) (fun cdv A outer s H vs Q E hr h => ?_)
  · obtain ⟨n, m, ns, rfl, _⟩ := h
    rfl
  · have nd := scOth.nd
    refine ⟨_, pss_one (ps_ret (pe_callTy call_tuple_of (by rfl) T.tuple (by decide +kernel) (pa_cons (pe_lc (own := [("_law_bar", 2)]) (g := gName 2) (tt := tTest (tOp (rIn K true) (tVar 2) (tVar 1))) (te := tVar 2) rfl nd (pi_range1 (by rfl) T.range (pa_cons (pv 0) pa_nil))
        (blkOk_by (N := nOth) (sc := defScope sLwOthers) (by decide +kernel)) (fun _ _ _ _ _ => pg_name (i := 2) nd rfl (Or.inl rfl)) (fun _ _ _ _ _ => pts_one (pt_cmpR op_notIn_seq (pv 2) (pv 1) (by rfl))) (fun _ _ _ _ _ => pv 2)) pa_nil))), ?_⟩
    obtain ⟨n, m, ns, rfl, n8, hm, q⟩ := h
    refine ⟨_, rfl, _, rfl, by omega, by omega, fun D hD => ?_⟩
    refine lc_range (lo := 0) (n := ((n : Nat) : Int).toNat) (fun i H' => Same H H' ∧ H' D = some (.lst ((restN n ns i).map V.int))) ⟨(Same.refl H).new hD, upd_same⟩ ?_ ?_
    · rintro i H' hi ⟨s1, h1⟩
      rw [Int.toNat_natCast] at hi
      rw [Int.zero_add]
      refine ⟨rfl, _, rfl, _, rfl, m, _, rfl, .inr (.inl (.inl (s1 _ _ hm))), rfl, flat_ints _, _, rfl, ?_⟩
      have eb : inV (.int (i : Nat)) (ns.map V.int) = hasB ns i := inV_int _ _
      show (if (!inV (.int (i : Nat)) (ns.map V.int)) = true then _ else _)
      rw [eb]
      cases e : hasB ns i with
      | true =>
        refine iteF ⟨s1, ?_⟩
        rw [rest_out e]
        exact h1
      | false =>
        refine iteT ⟨_, rfl, _, h1, ?_, s1.mut hD, ?_⟩
        · have := rest_len (n := n) (ns := ns) (i := i)
          rw [List.length_map]
          exact sm (by omega)
        · rw [upd_same, rest_in e, List.map_append]
          rfl
    · rintro H1 ⟨s1, h1⟩
      rw [Int.toNat_natCast] at h1
      refine ⟨D, _, rfl, .inl ⟨SqL.of h1, fun t nt => ?_⟩⟩
      exact q t _ (s1.new nt) upd_same
end
end K
namespace K
open PySem L2 Rg LamX
/-! ### sums with a sign for each length -/
def sg : List Int → List Int
  | [] => [0]
  | l :: ls => (sg ls).map (fun y => y + l) ++ (sg ls).map (fun y => y - l)
theorem sg_cons {l : Int} {ls : List Int} {x : Int} : x ∈ sg (l :: ls) ↔ (x - l ∈ sg ls ∨ x + l ∈ sg ls) := by
  show x ∈ (sg ls).map (fun y => y + l) ++ (sg ls).map (fun y => y - l) ↔ _
  rw [List.mem_append, List.mem_map, List.mem_map]
  constructor
  · rintro (⟨y, hy, rfl⟩ | ⟨y, hy, rfl⟩)
    · exact .inl (by rw [show y + l - l = y by omega]; exact hy)
    · exact .inr (by rw [show y - l + l = y by omega]; exact hy)
  · rintro (h | h)
    · exact .inl ⟨_, h, by omega⟩
    · exact .inr ⟨_, h, by omega⟩
theorem sg_perm {a b : List Int} (p : a.Perm b) : ∀ x, x ∈ sg a ↔ x ∈ sg b := by
  induction p with
  | nil => exact fun _ => Iff.rfl
  | cons l _ ih => exact fun x => by rw [sg_cons, sg_cons, ih, ih]
  | swap l m ls =>
    intro x
    rw [sg_cons, sg_cons, sg_cons, sg_cons, sg_cons, sg_cons, show x - m - l = x - l - m by omega, show x - m + l = x + l - m by omega, show x + m - l = x - l + m by omega, show x + m + l = x + l + m by omega]
    constructor
    · rintro ((h | h) | h | h)
      · exact .inl (.inl h)
      · exact .inr (.inl h)
      · exact .inl (.inr h)
      · exact .inr (.inr h)
    · rintro ((h | h) | h | h)
      · exact .inl (.inl h)
      · exact .inr (.inl h)
      · exact .inl (.inr h)
      · exact .inr (.inr h)
  | trans _ _ h1 h2 => exact fun x => (h1 x).trans (h2 x)
theorem sg_snoc {ls : List Int} {l x : Int} : x ∈ sg (ls ++ [l]) ↔ (x - l ∈ sg ls ∨ x + l ∈ sg ls) := (sg_perm (List.perm_append_comm (l₁ := ls) (l₂ := [l])) x).trans sg_cons
theorem sg_gap : ∀ (n : Nat) (ls : List Int), ls.length = n → ∀ x, x ∈ sg ls ↔ ∃ m ∈ lotsN ls.length, gapE ls m = x
  | 0, ls, h, x => by
    obtain rfl := List.eq_nil_of_length_eq_zero h
    constructor
    · intro m
      have m := List.mem_singleton.mp m
      exact ⟨[], List.mem_singleton.mpr rfl, by rw [m]; rfl⟩
    · rintro ⟨m, hm, rfl⟩
      rw [List.mem_singleton.mp hm]
      exact List.mem_singleton.mpr rfl
  | n + 1, ls, h, x => by
    rcases List.eq_nil_or_concat ls with e | ⟨ms, l, e⟩
    · rw [e] at h
      cases h
    rw [List.concat_eq_append] at e
    subst e
    have hn : ms.length = n := by
      rw [List.length_append] at h
      exact Nat.succ.inj h
    have ih := sg_gap n ms hn
    rw [sg_snoc, ih, ih, List.length_append, List.length_singleton, ← cx_one]
    constructor
    · rintro (⟨m, hm, g⟩ | ⟨m, hm, g⟩)
      · exact ⟨m ++ [(ms.length : Int)], lots_add hm, by rw [gap_in hm]; omega⟩
      · exact ⟨m, lots_up hm, by rw [gap_out hm]; omega⟩
    · rintro ⟨m, hm, g⟩
      rcases lots_cases hm with hm | ⟨k, hk, rfl⟩
      · rw [gap_out hm] at g
        exact .inr ⟨m, hm, by omega⟩
      · rw [gap_in hk] at g
        exact .inl ⟨k, hk, by omega⟩
theorem isw_sg {ls W : List Int} (od : W.Pairwise (· < ·)) (mem : ∀ x, x ∈ W ↔ 0 < x ∧ x ∈ sg ls) : IsW ls W := ⟨od, fun x => (mem x).trans (and_congr_right fun _ => sg_gap _ ls rfl x)⟩
/-- bars in another order keep the walls -/
theorem IsW.perm {ls ms W : List Int} (iw : IsW ls W) (p : ls.Perm ms) : IsW ms W := isw_sg iw.od fun x => (iw.mem x).trans (and_congr_right fun _ => (sg_gap _ ls rfl x).symm.trans (sg_perm p x))
/-- the list that grows -/
def sgT (ls : List Int) : Nat → List Int
  | 0 => [0]
  | i + 1 => (sgT ls i).map (fun y => y + ls.getD i 0) ++ (sgT ls i).map (fun y => y - ls.getD i 0)
theorem sgT_len (ls : List Int) : ∀ i, (sgT ls i).length = 2 ^ i
  | 0 => rfl
  | i + 1 => by
    show ((sgT ls i).map _ ++ (sgT ls i).map _).length = _
    rw [List.length_append, List.length_map, List.length_map, sgT_len ls i, Nat.pow_succ]
    omega
theorem sgT_mem (ls : List Int) : ∀ i, i ≤ ls.length → ∀ x, x ∈ sgT ls i ↔ x ∈ sg (ls.take i)
  | 0, _, x => by rw [List.take_zero]; exact Iff.rfl
  | i + 1, h, x => by
    have ih := sgT_mem ls i (by omega)
    have e : ls.take (i + 1) = ls.take i ++ [ls.getD i 0] := by
      rw [List.take_succ, List.getElem?_eq_getElem (show i < ls.length by omega), List.getD_eq_getElem?_getD, List.getElem?_eq_getElem (show i < ls.length by omega)]
      rfl
    rw [e, sg_snoc, ← ih, ← ih]
    show x ∈ (sgT ls i).map (fun y => y + ls.getD i 0) ++ (sgT ls i).map (fun y => y - ls.getD i 0) ↔ _
    rw [List.mem_append, List.mem_map, List.mem_map]
    constructor
    · rintro (⟨y, hy, rfl⟩ | ⟨y, hy, rfl⟩)
      · exact .inl (by rw [show y + ls.getD i 0 - ls.getD i 0 = y by omega]; exact hy)
      · exact .inr (by rw [show y - ls.getD i 0 + ls.getD i 0 = y by omega]; exact hy)
    · rintro (h | h)
      · exact .inl ⟨_, h, by omega⟩
      · exact .inr ⟨_, h, by omega⟩
theorem isw_sums {ls W : List Int} (od : W.Pairwise (· < ·)) (mem : ∀ x, x ∈ W ↔ x ∈ (sgT ls ls.length).filter fun y => decide (0 < y)) : IsW ls W := isw_sg od fun x => by
  rw [mem, List.mem_filter, sgT_mem ls _ (Nat.le_refl _), List.take_length, decide_eq_true_eq]
  exact And.comm
/-! ### what walls are like -/
theorem IsW.par {ls W : List Int} (iw : IsW ls W) {x : Int} (h : x ∈ W) : x % 2 = ls.sum % 2 := by
  obtain ⟨_, m, _, rfl⟩ := (iw.mem x).mp h
  unfold gapE
  omega
theorem lsum_pos {ls : List Int} (bd : Bd 1000000 ls) : ∀ l : List Int, 0 ≤ lsum ls l
  | [] => by show (0 : Int) ≤ ([] : List Int).sum; simp
  | a :: l => by
    have ih := lsum_pos bd l
    have e : lsum ls (a :: l) = ls.getD a.toNat 0 + lsum ls l := by unfold lsum; rw [List.map_cons, List.sum_cons]
    have p : 0 ≤ ls.getD a.toNat 0 := by
      rw [List.getD_eq_getElem?_getD]
      cases q : ls[a.toNat]? with
      | none => exact Int.le_refl 0
      | some y =>
        have := bd y (List.mem_of_getElem? q)
        show 0 ≤ y
        omega
    omega
theorem gap_top {ls : List Int} (bd : Bd 1000000 ls) {m : List Int} (hm : m ∈ lotsN ls.length) : gapE ls m ≤ ls.sum := by
  have h1 := gap_rest hm
  have h2 : gapE ls (restN ls.length m ls.length) = 2 * lsum ls (restN ls.length m ls.length) - ls.sum := rfl
  have := lsum_pos bd (restN ls.length m ls.length)
  omega
theorem nil_lots : ∀ n, ([] : List Int) ∈ lotsN n
  | 0 => List.mem_singleton.mpr rfl
  | n + 1 => List.mem_append_left _ (nil_lots n)
theorem gap_nil (ls : List Int) : gapE ls [] = -ls.sum := by unfold gapE lsum; simp
theorem IsW.top {ls W : List Int} (iw : IsW ls W) (bd : Bd 1000000 ls) (h0 : 0 < ls.sum) : ∃ j, j + 1 = W.length ∧ W[j]? = some ls.sum := by
  have full : ls.sum ∈ W := (iw.mem _).mpr ⟨h0, cmp ls.length [], cmp_mem _ _, by rw [cmp_gap (show ([] : List Int) ∈ lotsN ls.length from nil_lots _), gap_nil]; omega⟩
  obtain ⟨j, hj⟩ := List.mem_iff_getElem?.mp full
  have hl : j < W.length := (List.getElem?_eq_some_iff.mp hj).1
  refine ⟨j, ?_, hj⟩
  refine Nat.le_antisymm hl (Nat.le_of_not_lt fun c => ?_)
  have e1 : W[j] = ls.sum := (List.getElem?_eq_some_iff.mp hj).2
  have a := List.pairwise_iff_getElem.mp iw.od j (j + 1) hl c (Nat.lt_succ_self j)
  obtain ⟨_, m, hm, g⟩ := (iw.mem _).mp (List.getElem_mem c)
  have := gap_top bd hm
  omega
theorem gap_mul (c : Int) (ls m : List Int) : gapE (ls.map fun z => z * c) m = gapE ls m * c := by
  have e1 : (ls.map fun z => z * c).sum = ls.sum * c := by
    rw [show (fun z : Int => z * c) = fun z => c * z from funext fun z => Int.mul_comm z c, mul_sum, Int.mul_comm]
  have e2 : lsum (ls.map fun z => z * c) m = lsum ls m * c := by
    unfold lsum
    have : (m.map fun b => (ls.map fun z => z * c).getD b.toNat 0) = (m.map fun b => ls.getD b.toNat 0).map fun z => c * z := by
      rw [List.map_map]
      refine List.map_congr_left fun b _ => ?_
      show (ls.map fun z => z * c).getD b.toNat 0 = c * ls.getD b.toNat 0
      rw [List.getD_eq_getElem?_getD, List.getD_eq_getElem?_getD, List.getElem?_map]
      cases ls[b.toNat]? with
      | none => show (0 : Int) = c * 0; omega
      | some y => exact Int.mul_comm y c
    rw [this, mul_sum, Int.mul_comm]
  unfold gapE
  rw [e1, e2, Int.sub_mul, Int.mul_assoc]
theorem IsW.mul {ls W : List Int} (iw : IsW ls W) {c : Int} (h : 0 < c) : IsW (ls.map fun z => z * c) (W.map fun z => z * c) := by
  refine ⟨List.pairwise_map.mpr (iw.od.imp fun q => Int.mul_lt_mul_of_pos_right q h), fun x => ?_⟩
  rw [List.mem_map, List.length_map]
  constructor
  · rintro ⟨y, hy, rfl⟩
    obtain ⟨y0, m, hm, g⟩ := (iw.mem y).mp hy
    exact ⟨Int.mul_pos y0 h, m, hm, by rw [gap_mul, g]⟩
  · rintro ⟨x0, m, hm, rfl⟩
    rw [gap_mul] at x0 ⊢
    refine ⟨_, (iw.mem _).mpr ⟨?_, m, hm, rfl⟩, rfl⟩
    exact Int.pos_of_mul_pos_left x0 h
/-! ### the lots of a wall -/
section
variable {ls : List Int} {L0 M : List (List Int)} {x : Int}
def dueL (ls : List Int) (x : Int) (M : List (List Int)) : List (List Int) := M.filter fun l => hasI (ls.length : Int) l && decide (gapE (ls ++ [x]) l = 0)
theorem due_in (aM : AllL (ls.length + 1) M) {l : List Int} : l ∈ dueL ls x M ↔ ∃ m ∈ lotsN ls.length, l = m ++ [(ls.length : Int)] ∧ gapE ls m = -x := by
  unfold dueL
  rw [List.mem_filter, aM.pm.mem_iff, Bool.and_eq_true, hasI_iff, decide_eq_true_eq, ← cx_one]
  constructor
  · rintro ⟨h, i, g⟩
    rcases lots_cases h with h | ⟨m, hm, rfl⟩
    · have := (lotsN_in _ l h _ i).2
      omega
    · rw [gap_in hm] at g
      exact ⟨m, hm, rfl, by omega⟩
  · rintro ⟨m, hm, rfl, g⟩
    exact ⟨lots_add hm, List.mem_append_right _ (List.mem_singleton.mpr rfl), by rw [gap_in hm]; omega⟩
theorem due_eq (aM : AllL (ls.length + 1) M) (aL0 : AllL ls.length L0) : shutL ls L0 x = dueL ls x M := by
  refine uniq_of (fun _ _ => LLe.anti) ((List.perm_ext_iff_of_nodup (shut_nd aL0 x) (List.Pairwise.filter _ aM.nd)).mpr fun l => (shut_in aL0).trans (due_in aM).symm) ?_ (List.Pairwise.filter _ aM.od)
  exact List.pairwise_map.mpr ((List.Pairwise.filter _ aL0.od).imp fun q => q.snoc _)
theorem due_some (aM : AllL (ls.length + 1) M) (h : ∃ m ∈ lotsN ls.length, gapE ls m = x) : dueL ls x M ≠ [] := by
  obtain ⟨m, hm, g⟩ := h
  have : cmp ls.length m ++ [(ls.length : Int)] ∈ dueL ls x M := (due_in aM).mpr ⟨_, cmp_mem _ _, rfl, by rw [cmp_gap hm, g]⟩
  intro z
  rw [z] at this
  cases this
def levelL (ls : List Int) (M : List (List Int)) : List (List Int) := M.filter fun l => decide (sortV ls l = "level")
theorem level_gap (ls l : List Int) : (sortV ls l = "level") ↔ gapE ls l = 0 := by
  unfold gapE
  rcases sort_cases ls l with ⟨a, e⟩ | ⟨a, e⟩ | ⟨a, e⟩ <;> rw [e]
  · exact ⟨fun _ => by omega, fun _ => rfl⟩
  · exact ⟨fun z => absurd z ne_sv, fun _ => by omega⟩
  · exact ⟨fun z => absurd z ne_lv, fun _ => by omega⟩
theorem level_in (aM : AllL (ls.length + 1) M) {l : List Int} : l ∈ levelL (ls ++ [x]) M ↔ (∃ m ∈ lotsN ls.length, l = m ++ [(ls.length : Int)] ∧ gapE ls m = -x) ∨ (l ∈ lotsN ls.length ∧ gapE ls l = x) := by
  unfold levelL
  rw [List.mem_filter, aM.pm.mem_iff, decide_eq_true_eq, level_gap, ← cx_one]
  constructor
  · rintro ⟨h, g⟩
    rcases lots_cases h with h | ⟨m, hm, rfl⟩
    · rw [gap_out h] at g
      exact .inr ⟨h, by omega⟩
    · rw [gap_in hm] at g
      exact .inl ⟨m, hm, rfl, by omega⟩
  · rintro (⟨m, hm, rfl, g⟩ | ⟨h, g⟩)
    · exact ⟨lots_add hm, by rw [gap_in hm]; omega⟩
    · exact ⟨lots_up h, by rw [gap_out h]; omega⟩
theorem level_perm (aM : AllL (ls.length + 1) M) : (levelL (ls ++ [x]) M).Perm (dueL ls x M ++ (dueL ls x M).map (cmp (ls.length + 1))) := by
  have dn : (dueL ls x M).Nodup := List.Pairwise.filter _ aM.nd
  refine (List.perm_ext_iff_of_nodup (List.Pairwise.filter _ aM.nd) ?_).mpr fun l => ?_
  · rw [List.nodup_append]
    refine ⟨dn, ?_, fun a ha b hb q => ?_⟩
    · rw [List.Nodup, List.pairwise_map]
      refine List.Pairwise.imp_of_mem (fun {a b} ha hb q z => q ?_) dn
      obtain ⟨m, hm, rfl, _⟩ := (due_in aM).mp ha
      obtain ⟨k, hk, rfl, _⟩ := (due_in aM).mp hb
      rw [cmp_snoc hm, cmp_snoc hk] at z
      rw [← cmp_cmp hm, z, cmp_cmp hk]
    · obtain ⟨m, hm, rfl, _⟩ := (due_in aM).mp ha
      obtain ⟨c, hc, rfl⟩ := List.mem_map.mp hb
      obtain ⟨k, hk, rfl, _⟩ := (due_in aM).mp hc
      rw [cmp_snoc hk] at q
      have i : (ls.length : Int) ∈ cmp ls.length k := by rw [← q]; exact List.mem_append_right _ (List.mem_singleton.mpr rfl)
      have := (lotsN_in _ _ (cmp_mem ls.length k) _ i).2
      omega
  · refine (level_in aM).trans ?_
    rw [List.mem_append, due_in aM, List.mem_map]
    refine or_congr_right ⟨fun ⟨h1, h2⟩ => ?_, ?_⟩
    · have hm := cmp_mem ls.length l
      refine ⟨cmp ls.length l ++ [(ls.length : Int)], (due_in aM).mpr ⟨_, hm, rfl, by rw [cmp_gap h1, h2]⟩, ?_⟩
      rw [cmp_snoc hm, cmp_cmp h1]
    · rintro ⟨a, ha, rfl⟩
      obtain ⟨m, hm, rfl, g⟩ := (due_in aM).mp ha
      rw [cmp_snoc hm]
      exact ⟨cmp_mem _ _, by rw [cmp_gap hm, g]; omega⟩
end
end K
namespace K
open PySem L2 Rg LamX
open Evl (pss_cut)
structure HeardC (K : PySem.W.Frag) (mg : Str → Option Value) (r n eR : Addr) : Prop where
  gRE : mg "RingError" = some (.ref eR)
  gr : mg "BadRing" = some (.ref r)
  er : ExcC K r
  xr : XfC K r
  mr : PySem.W.exmOne K (.ref r) (.ref eR) = some true
  np : PySem.W.findIn K (.ref r) "part" = some none
  gn : mg "BadNumber" = some (.ref n)
  en : ExcC K n
  xn : XfC K n
  mn : PySem.W.exmOne K (.ref n) (.ref eR) = some true
  nn : PySem.W.findIn K (.ref n) "part" = some none
  nr : PySem.W.kitOne K (.ref n) (.ref r) = some false
/-- an error of the class comes: a tuple tells its part -/
def Told (c : Addr) (tag : Str) (Q : VK) : XK := fun cls d H' => ∃ (dd : Addr) (v : V), cls = .ref c ∧ d = some dd ∧ H' dd = some (.xd [("part", v)]) ∧ ∀ p H2, Same H' H2 → H2 p = some (.tup [.str tag, v]) → Q (.ref p) H2
def THeard (c : Addr) (tag : Str) : (XK → Hp → VK → Prop) → Hp → VK → Prop := fun tl H Q => ∀ R : VK, tl (Told c tag Q) H R
theorem takes_len {X : Cx} {W : WX} (t : Takes X W) : Takes X fun c d σ H => σ.length = X.N.length → W c d σ H := fun u s' ⟨a, B, sI, pins, σ, H, cls, d, e, I, nb, up, sky, na, os, ag, w⟩ =>
  t u s' ⟨a, B, sI, pins, σ, H, cls, d, e, I, nb, up, sky, na, os, ag, w I.len⟩
abbrev nHeard : List Str := ["_law_ask", "_law_caught", "error"]
theorem scHeard : FnScope nHeard ["_law_ask"] (defScope sLwHeard) := ⟨rfl, rfl, rfl, by decide +kernel, rfl, by decide +kernel, by decide +kernel⟩
theorem heard_ring {X : Cx} {r n eR g : Addr} {cdg : Value} {q : Str} (T : Bi X.mg) (Hc : HeardC X.K X.mg r n eR) : GivesTo X nHeard "_law_heard" (defScope sLwHeard) g cdg (defBody sLwHeard) "_law_ask" q (THeard r "ring") := by
  intro f c' s H Q tl act hc h
  have nd := scHeard.nd
  refine ⟨_, pss_cons (ps_set (i := 1) nd rfl (Or.inl rfl) pe_non)
    (pss_cons (ps_try_keep (X := (cxOf C8.CX0 X.prog X.w X.K X.mg X.base nHeard "_law_heard" (defScope sLwHeard) g cdg X.A X.stack s H C8.E0).nox) (cv := .ref eR) (ix := 2)
      (tbd := fun W D σ H => ∃ Ech : XK, (∀ cls d σ' H', Ech cls d H' → σ'.length = 3 → W cls d σ' H') ∧ σ[0]? = some (some (.ref f)) ∧ H c' = some (CodeO c' q) ∧ tl Ech H fun _ H' => D.nx σ H')
      rfl rfl nd rfl rfl ⟨rfl, rfl, .inl Hc.gRE⟩ (fun W pn xe tk _ => ?_) (fun e pn => pss_one (ps_set (i := 1) nd rfl (Or.inl rfl) (pv 2))))
    (pss_cons (ps_if (pt_val (pe_callB (call_or call_isi cr_isE) (by rfl) T.isinstance (by decide +kernel) (pa_cons (pv 1) (pa_cons (pe_glob (v := .ref r) rfl Hc.gr rfl) pa_nil)))) (pss_one (ps_ret (pe_tup (pa_cons pe_str (pa_cons (pe_fldE (pv 1)) pa_nil))))) pss_nil)
    (pss_cons ps_never (pss_one ps_never)))), ?_⟩
  · refine ⟨fun pins s' σ H' D I h' => ?_⟩
    obtain ⟨Ech, hW, h1, h2, h3⟩ := h'
    exact (pss_one (ps_expr (act _ pn xe Ech _ _ (takes_len tk) hW))).run pins s' σ H' D I ⟨h1, h2, h3⟩
  · refine ⟨Told r "ring" Q, ?_, rfl, hc, ?_⟩
    · rintro cls d σ' H' ⟨dd, v, rfl, rfl, hdd, k⟩ hl
      obtain ⟨x0, x1, x2, rfl⟩ : ∃ x0 x1 x2, σ' = [x0, x1, x2] := by
        match σ', hl with
        | [x0, x1, x2], _ => exact ⟨x0, x1, x2, rfl⟩
      refine ⟨Hc.mr, r, rfl, fun e ne => ?_⟩
      have s1 : Same H' (upd H' e (errO e r (some dd))) := (Same.refl H').new ne
      have ev : ErrV (upd H' e (errO e r (some dd))) (.ref e) r [("part", v)] := ⟨e, dd, rfl, upd_same, s1 _ _ hdd⟩
      refine ⟨_, rfl, _, rfl, .inr ⟨.ref e, .ref r, .ref r, r, _, true, rfl, fun _ z => z, Hc.er, ev, kit_self, _, rfl, iteT ?_⟩⟩
      refine ⟨_, rfl, r, _, v, ev, Hc.xr, Hc.np, by simp [List.lookup], (by show 2 ≤ sizeLine; decide), fun p hp => ?_⟩
      exact k p _ (s1.new hp) upd_same
    · exact h _
theorem heard_number {X : Cx} {r n eR g : Addr} {cdg : Value} {q : Str} (T : Bi X.mg) (Hc : HeardC X.K X.mg r n eR) : GivesTo X nHeard "_law_heard" (defScope sLwHeard) g cdg (defBody sLwHeard) "_law_ask" q (THeard n "number") := by
  intro f c' s H Q tl act hc h
  have nd := scHeard.nd
  refine ⟨_, pss_cons (ps_set (i := 1) nd rfl (Or.inl rfl) pe_non)
    (pss_cons (ps_try_keep (X := (cxOf C8.CX0 X.prog X.w X.K X.mg X.base nHeard "_law_heard" (defScope sLwHeard) g cdg X.A X.stack s H C8.E0).nox) (cv := .ref eR) (ix := 2)
      (tbd := fun W D σ H => ∃ Ech : XK, (∀ cls d σ' H', Ech cls d H' → σ'.length = 3 → W cls d σ' H') ∧ σ[0]? = some (some (.ref f)) ∧ H c' = some (CodeO c' q) ∧ tl Ech H fun _ H' => D.nx σ H')
      rfl rfl nd rfl rfl ⟨rfl, rfl, .inl Hc.gRE⟩ (fun W pn xe tk _ => ?_) (fun e pn => pss_one (ps_set (i := 1) nd rfl (Or.inl rfl) (pv 2))))
    (pss_cons (ps_if (pt_val (pe_callB (call_or call_isi cr_isE) (by rfl) T.isinstance (by decide +kernel) (pa_cons (pv 1) (pa_cons (pe_glob (v := .ref r) rfl Hc.gr rfl) pa_nil)))) (pss_one ps_never) pss_nil)
    (pss_cons (ps_if (pt_val (pe_callB (call_or call_isi cr_isE) (by rfl) T.isinstance (by decide +kernel) (pa_cons (pv 1) (pa_cons (pe_glob (v := .ref n) rfl Hc.gn rfl) pa_nil)))) (pss_one (ps_ret (pe_tup (pa_cons pe_str (pa_cons (pe_fldE (pv 1)) pa_nil))))) pss_nil)
    (pss_one ps_never)))), ?_⟩
  · refine ⟨fun pins s' σ H' D I h' => ?_⟩
    obtain ⟨Ech, hW, h1, h2, h3⟩ := h'
    exact (pss_one (ps_expr (act _ pn xe Ech _ _ (takes_len tk) hW))).run pins s' σ H' D I ⟨h1, h2, h3⟩
  · refine ⟨Told n "number" Q, ?_, rfl, hc, ?_⟩
    · rintro cls d σ' H' ⟨dd, v, rfl, rfl, hdd, k⟩ hl
      obtain ⟨x0, x1, x2, rfl⟩ : ∃ x0 x1 x2, σ' = [x0, x1, x2] := by
        match σ', hl with
        | [x0, x1, x2], _ => exact ⟨x0, x1, x2, rfl⟩
      refine ⟨Hc.mn, n, rfl, fun e ne => ?_⟩
      have s1 : Same H' (upd H' e (errO e n (some dd))) := (Same.refl H').new ne
      have ev : ErrV (upd H' e (errO e n (some dd))) (.ref e) n [("part", v)] := ⟨e, dd, rfl, upd_same, s1 _ _ hdd⟩
      refine ⟨_, rfl, _, rfl, .inr ⟨.ref e, .ref r, .ref r, n, _, false, rfl, fun _ z => z, Hc.en, ev, Hc.nr, _, rfl, iteF ?_⟩⟩
      refine ⟨_, rfl, .inr ⟨.ref e, .ref n, .ref n, n, _, true, rfl, fun _ z => z, Hc.en, ev, kit_self, _, rfl, iteT ?_⟩⟩
      refine ⟨_, rfl, n, _, v, ev, Hc.xn, Hc.nn, by simp [List.lookup], (by show 2 ≤ sizeLine; decide), fun p hp => ?_⟩
      exact k p _ (s1.new hp) upd_same
    · exact h _
/-- a lambda that raises is heard -/
theorem hear {c : Addr} {tag : Str} {v : V} {T : List (Addr × Str)} {H : Hp} {σ : St} {t : XK → TE} {Q : VK} (tab : Tabs T H)
    (body : ∀ (E' : XK) (J : Hp) (Q' : VK), ExtN H J → Tabs T J → ErrsX E' c "part" v T J → t E' σ J Q') (k : ∀ M p, ExtN H M → Tabs T M → M p = some (.tup [.str tag, v]) → Q (.ref p) M) : tLam T (THeard c tag) t σ H Q := by
  refine ⟨tab, fun I extI tabsI R => ?_⟩
  refine body _ _ _ extI tabsI fun J xJ tJ d L sL nd xd => ⟨d, v, rfl, rfl, xd, fun p M sM hp => k M p ((extI.trans xJ).trans (ExtN.of (sL.trans sM))) (tJ.ext (sL.trans sM)) hp⟩
end K
namespace K
open PySem L2 Rg LamX
open Evl (pss_cut)
structure Bi2 (mg : Str → Option Value) : Prop where
  set : mg "set" = none
  str : mg "str" = none
theorem sgT_le {ls : List Int} (h : ls.length ≤ 7) {i : Nat} (hi : i ≤ ls.length) : (sgT ls i).length ≤ 128 := by
  rw [sgT_len]
  exact Nat.pow_le_pow_right (by decide) (show i ≤ 7 by omega)
section
variable {P : Program} {w : World} {K : PySem.W.Frag} {mg : Str → Option Value} {base : Heap}
/-! ### the sums -/
def spSums (K : PySem.W.Frag) : Sp := fun vs H Q _ => ∃ (l : Addr) (ls : List Int), vs = [.ref l] ∧ H l = some (.lst (ls.map V.int)) ∧ ls.length ≤ 7 ∧ ∀ (p : Addr) (W : List Int) (H' : Hp), Same H H' → H p = none → H' p = some (.lst (W.map V.int)) → IsW ls W → W.length ≤ 128 → Q (.ref p) H'
abbrev nSums : List Str := ["_law_lengths_here", "_law_found", "_law_length", "_law_part"]
theorem scSums : FnScope nSums ["_law_lengths_here"] (defScope sLwSums) := ⟨rfl, rfl, rfl, by decide +kernel, rfl, by decide +kernel, by decide +kernel⟩
theorem ok_sums {f : Addr} {fd : FuncData} (F : Fun K "_law_sums" "_law_sums" sLwSums f fd) (T : Bi mg) (B2 : Bi2 mg) : FnOk P w K mg base CX0 2 f fd ["_law_lengths_here"] (spSums K) := by
  refine F.ok scSums (fun vs H Q E h => ?_) (fun cdv A outer s H vs Q E hr h => ?_)
  · obtain ⟨a, ls, rfl, _⟩ := h
    rfl
  · have nd := scSums.nd
    refine ⟨_, pss_cons (ps_set (i := 1) nd rfl (Or.inl rfl) (pe_lst (pa_cons pe_int pa_nil)))
      (pss_cons (ps_for PassesOwn.never rfl (pi_list (pv 0)) (pg_name (i := 2) nd rfl (Or.inr rfl)) (pss_one (ps_set (i := 1) nd rfl (Or.inl rfl) (pe_op op_cat
        (pe_lc (own := [("_law_part", 3)]) (g := gName 3) (tt := tYes) rfl nd (pi_list (pv 1)) (blkOk_by (N := nSums) (sc := defScope sLwSums) (by decide +kernel)) (fun _ _ _ _ _ => pg_name (i := 3) nd rfl (Or.inl rfl)) (fun _ _ _ _ _ => pts_nil) (fun _ _ _ _ _ => pe_op op_add (pv 3) (pv 2)))
        (pe_lc (own := [("_law_part", 3)]) (g := gName 3) (tt := tYes) rfl nd (pi_list (pv 1)) (blkOk_by (N := nSums) (sc := defScope sLwSums) (by decide +kernel)) (fun _ _ _ _ _ => pg_name (i := 3) nd rfl (Or.inl rfl)) (fun _ _ _ _ _ => pts_nil) (fun _ _ _ _ _ => pe_op op_sub (pv 3) (pv 2)))))))
      (pss_one (ps_ret (pe_callB (cr_sortedSetN rfl) (by rfl) T.sorted (by decide +kernel) (pa_cons (pe_callTy (cr_setL rfl) (by rfl) B2.set (by decide +kernel) (pa_cons (pe_lc (own := [("_law_part", 3)]) (g := gName 3) (tt := tTest (tOp (rI0 fun i j => .bl (decide (j < i))) (tVar 3) (tC (.int 0)))) (te := tVar 3) rfl nd (pi_list (pv 1))
        (blkOk_by (N := nSums) (sc := defScope sLwSums) (by decide +kernel)) (fun _ _ _ _ _ => pg_name (i := 3) nd rfl (Or.inl rfl)) (fun _ _ _ _ _ => pts_one (pt_cmpR op_gt (pv 3) pe_int (nomark _))) (fun _ _ _ _ _ => pv 3)) pa_nil)) pa_nil))))), ?_⟩
    obtain ⟨t, ls, rfl, hs, hl, q⟩ := h
    refine ⟨(by show 1 ≤ sizeLine; decide), fun l0 hl0 => ?_⟩
    have s0 : Same H (upd H l0 (.lst [.int 0])) := (Same.refl H).new hl0
    refine ⟨_, rfl, t, rfl, ⟨_, s0.seq (SqL.of hs)⟩, for_list (K := K) (a := t) (xs := ls.map V.int) (fun i σ H' => ∃ (l : Addr) (z : Option V), σ = [some (.ref t), some (.ref l), z, none] ∧ Same H H' ∧ H' l = some (.lst ((sgT ls i).map V.int)))
      ⟨l0, none, rfl, s0, upd_same⟩ (fun i σ H' _ ⟨_, _, _, s, _⟩ => s.seq (SqL.of hs)) ?_ ?_⟩
    · rintro i x σ H' hi ⟨l, z, rfl, s1, h1⟩
      obtain ⟨z, hz, rfl⟩ := int_at hi
      have hil : i < ls.length := (List.getElem?_eq_some_iff.mp hz).1
      have ez : ls.getD i 0 = z := by rw [List.getD_eq_getElem?_getD, hz]; rfl
      have p1 := sgT_le hl (Nat.le_of_lt hil)
      refine ⟨_, rfl, l, rfl, ⟨_, SqL.of h1⟩, fun D hD => ?_⟩
      refine lc_list (K := K) (a := l) (xs := (sgT ls i).map V.int) (fun j H2 => Same H' H2 ∧ H2 D = some (.lst ((((sgT ls i).take j).map fun y => y + z).map V.int))) ⟨(Same.refl H').new hD, upd_same⟩ (fun j H2 _ p => p.1.seq (SqL.of h1)) ?_ ?_
      · rintro j y H2 hj ⟨s2, h2⟩
        obtain ⟨o, ho, rfl⟩ := int_at hj
        refine ⟨rfl, _, rfl, _, rfl, _, _, rfl, rfl, _, h2, (by rw [List.length_map, List.length_map, List.length_take]; exact sm (by omega)), s2.mut hD, ?_⟩
        rw [upd_same, ← take_snoc ho, List.map_append, List.map_append]
        rfl
      · rintro H2 ⟨s2, h2⟩
        rw [List.length_map, List.take_length] at h2
        have h12 := s2 _ _ h1
        refine ⟨_, rfl, l, rfl, ⟨_, SqL.of h12⟩, fun D2 hD2 => ?_⟩
        refine lc_list (K := K) (a := l) (xs := (sgT ls i).map V.int) (fun j H3 => Same H2 H3 ∧ H3 D2 = some (.lst ((((sgT ls i).take j).map fun y => y - z).map V.int))) ⟨(Same.refl H2).new hD2, upd_same⟩ (fun j H3 _ p => p.1.seq (SqL.of h12)) ?_ ?_
        · rintro j y H3 hj ⟨s3, h3⟩
          obtain ⟨o, ho, rfl⟩ := int_at hj
          refine ⟨rfl, _, rfl, _, rfl, _, _, rfl, rfl, _, h3, (by rw [List.length_map, List.length_map, List.length_take]; exact sm (by omega)), s3.mut hD2, ?_⟩
          rw [upd_same, ← take_snoc ho, List.map_append, List.map_append]
          rfl
        · rintro H3 ⟨s3, h3⟩
          rw [List.length_map, List.take_length] at h3
          refine ⟨D, D2, _, _, rfl, rfl, s3 _ _ h2, h3, (by simp only [List.length_map]; exact Nat.le_of_lt (sm (by omega))), fun p hp => ⟨p, _, rfl, ((s1.trans s2).trans s3).new hp, ?_⟩⟩
          rw [upd_same, ← List.map_append]
          show _ = some (HO.lst (((sgT ls i).map (fun y => y + ls.getD i 0) ++ (sgT ls i).map (fun y => y - ls.getD i 0)).map V.int))
          rw [ez]
    · rintro σ H' ⟨l, z, rfl, s1, h1⟩
      rw [List.length_map] at h1
      have p1 := sgT_le hl (Nat.le_refl _)
      refine ⟨_, rfl, l, rfl, ⟨_, SqL.of h1⟩, fun D hD => ?_⟩
      refine lc_list (K := K) (a := l) (xs := (sgT ls ls.length).map V.int) (fun j H2 => Same H' H2 ∧ H2 D = some (.lst ((((sgT ls ls.length).take j).filter fun y => decide (0 < y)).map V.int))) ⟨(Same.refl H').new hD, upd_same⟩ (fun j H2 _ p => p.1.seq (SqL.of h1)) ?_ ?_
      · rintro j y H2 hj ⟨s2, h2⟩
        obtain ⟨o, ho, rfl⟩ := int_at hj
        refine ⟨rfl, _, rfl, o, 0, rfl, rfl, _, rfl, ?_⟩
        by_cases c : 0 < o
        · refine iteDT c ⟨_, rfl, _, h2, ?_, s2.mut hD, ?_⟩
          · rw [List.length_map]
            have := List.length_filter_le (fun z => decide (0 < z)) ((sgT ls ls.length).take j)
            rw [List.length_take] at this
            exact sm (by omega)
          · rw [upd_same, ← take_snoc ho, List.filter_append, List.map_append]
            simp [List.filter, c]
        · refine iteDF c ⟨s2, ?_⟩
          rw [h2, ← take_snoc ho, List.filter_append]
          simp [List.filter, c]
      · rintro H2 ⟨s2, h2⟩
        rw [List.length_map, List.take_length] at h2
        have fl := List.length_filter_le (fun z => decide (0 < z)) (sgT ls ls.length)
        refine ⟨D, _, rfl, SqL.of h2, by omega, fun s0 ks knd kmem kle ns => ⟨s0, _, _, rfl, upd_same, by omega, fun W q0 od mem wl nq => ?_⟩⟩
        have s3 : Same H (upd (upd H2 s0 (SetO w s0 (fun j => decide (j ∈ (sgT ls ls.length).filter fun y => decide (0 < y))) ks.length)) q0 (.lst (W.map V.int))) := ((s1.trans s2).new ns).new nq
        exact q q0 W _ s3 (((s1.trans s2).new ns).free nq) upd_same (isw_sums od fun x => (mem x).trans decide_eq_true_iff) (by omega)
/-! ### an order -/
def spOrder (K : PySem.W.Frag) : Sp := fun vs H Q _ => ∃ (p : Addr) (e : Addr × List Int) (m n : Nat), vs = [.ref p, .int (m : Nat)] ∧ m ≤ 8 ∧ n < 900000 ∧ PenAt K H p e n ∧
  ∀ (l : Addr) (ns : List Int) (H' : Hp), ns.Perm ((List.range m).map fun j : Nat => (j : Int)) → But p H H' → H l = none → H' l = some (.lst (ns.map V.int)) → PenAt K H' p e (n + m) → Q (.ref l) H'
abbrev nOrder : List Str := ["_law_reel_here", "_law_many", "_law_left", "_law_turn"]
theorem scOrder : FnScope nOrder ["_law_reel_here", "_law_many"] (defScope sLwOrder) := ⟨rfl, rfl, rfl, by decide +kernel, rfl, by decide +kernel, by decide +kernel⟩
theorem perm_takeI {l d : List Int} {i : Nat} {x : Int} (h : l[i]? = some x) : ((d ++ [x]) ++ l.eraseIdx i).Perm (d ++ l) := by
  obtain ⟨hi, rfl⟩ := List.getElem?_eq_some_iff.mp h
  rw [List.append_assoc]
  refine List.Perm.append_left d ?_
  rw [List.eraseIdx_eq_take_drop_succ]
  have e : l = l.take i ++ l[i] :: l.drop (i + 1) := by
    rw [List.getElem_cons_drop, List.take_append_drop]
  refine List.Perm.trans ?_ (List.Perm.of_eq e.symm)
  exact (List.perm_middle (a := l[i]) (l₁ := l.take i) (l₂ := l.drop (i + 1))).symm
theorem ok_order {f fD : Addr} {fd fdD : FuncData} (F : Fun K "_law_order" "_law_order" sLwOrder f fd) (T : Bi mg) (D : DrawAt P w K mg base fD fdD) : FnOk P w K mg base CX0 3 f fd ["_law_reel_here", "_law_many"] (spOrder K) := by
  refine F.ok scOrder (fun vs H Q E h => ?_) (fun cdv A outer s H vs Q E hr h => ?_)
  · obtain ⟨p, e, m, n, rfl, _⟩ := h
    rfl
  · have nd := scOrder.nd
    refine ⟨_, pss_cons (ps_set (i := 2) nd rfl (Or.inr rfl) (pe_listRg rfl (by rfl) T.list (prg_1 (by rfl) T.range (pv 1))))
      (pss_one (ps_ret (pe_lc (own := [("_law_turn", 3)]) (g := gName 3) (tt := tYes) (te := tBM K "list" rPopAt (tVar 2) (tCons (tCall (spDraw K) [] E0 (tCons (tVar 0) (tCons (tCB (rLenS K) (tCons (tVar 2) tNil)) tNil))) tNil)) rfl nd (pi_range1 (by rfl) T.range (pa_cons (pv 1) pa_nil)) (blkOk_by (N := nOrder) (sc := defScope sLwOrder) (by decide +kernel)) (fun _ _ _ _ _ => pg_name (i := 3) nd rfl (Or.inl rfl)) (fun _ _ _ _ _ => pts_nil)
        (fun _ _ _ _ _ => pe_bm PySem.F.plainAttrs_list PySem.F.slot_list_pop PySem.F.type_list_pop mt_popAt (pv 2) (pa_cons (pe_call D.ok hr rfl D.g D.kp D.b .nil pass0 (pa_cons (pv 0) (pa_cons (pe_callB (r := rLenS K) call_len_seq (by rfl) T.len PySem.boot_len (pa_cons (pv 2) pa_nil)) pa_nil))) pa_nil))))), ?_⟩
    obtain ⟨p, e, m, n, rfl, m8, hn, pen, k⟩ := h
    refine ⟨_, rfl, _, rfl, RgOk.of_le (by omega) (by omega) (by omega) (by omega), fun a ha => ?_⟩
    have r0 : rgV 0 ((m : Nat) : Int) = ((List.range m).map fun j : Nat => (j : Int)).map V.int := by
      unfold rgV
      rw [List.map_map, Int.sub_zero, Int.toNat_natCast]
      refine List.map_congr_left fun j _ => ?_
      show V.int (0 + (j : Int)) = V.int (j : Int)
      rw [Int.zero_add]
    rw [r0]
    have s1 : Same H (upd H a (.lst (((List.range m).map fun j : Nat => (j : Int)).map V.int))) := (Same.refl H).new ha
    refine ⟨_, rfl, _, rfl, by omega, by omega, fun Dd hD => ?_⟩
    have hDa : Dd ≠ a := fun z => by rw [z, upd_same] at hD; cases hD
    have hD0 : H Dd = none := s1.free hD
    have s2 := s1.new (o := .lst []) hD
    have hap : a ≠ p := pen.ne ha
    have hDp : Dd ≠ p := pen.ne hD0
    refine lc_range (lo := 0) (n := ((m : Nat) : Int).toNat) (fun i H' => ∃ rest done : List Int, But p H H' ∧ H' a = some (.lst (rest.map V.int)) ∧ H' Dd = some (.lst (done.map V.int)) ∧ (done ++ rest).Perm ((List.range m).map fun j : Nat => (j : Int)) ∧ done.length = i ∧ PenAt K H' p e (n + i))
      ⟨_, [], But.of s2, by rw [upd_ne hDa.symm, upd_same], upd_same, List.Perm.refl _, rfl, pen.same s2⟩ ?_ ?_
    · rintro i H' hi ⟨rest, done, b, h1, h2, pm, dl, pen'⟩
      rw [Int.toNat_natCast] at hi
      have hlen := pm.length_eq
      rw [List.length_append, List.length_map, List.length_range] at hlen
      have r1 : 1 ≤ rest.length := by omega
      refine ⟨rfl, _, rfl, .inl ⟨rfl, _, SqL.of h1⟩, _, rfl, _, rfl, a, rest.map V.int, rfl, .inl (SqL.of h1), p, e, _, n + i, rfl, by rw [List.length_map]; omega, by rw [List.length_map]; omega, by omega, pen', fun r H2 r0 rl b2 pen2 => ?_⟩
      rw [List.length_map] at rl
      have hrl : r.toNat < rest.length := by omega
      have e1 : H2 a = some (.lst (rest.map V.int)) := b2 a _ hap h1
      have e2 : H2 Dd = some (.lst (done.map V.int)) := b2 Dd _ hDp h2
      refine ⟨a, rest.map V.int, r, r.toNat, .int rest[r.toNat], rfl, rfl, e1, by omega, by omega, seqIndex_of r0 (by rw [List.length_map]; exact rl), int_get hrl, _, by rw [upd_ne hDa]; exact e2, by rw [List.length_map]; exact sm (by omega), ?_⟩
      have b3 : But p H (upd (upd H2 a (.lst ((rest.map V.int).eraseIdx r.toNat))) Dd (.lst (done.map V.int ++ [.int rest[r.toNat]]))) := ((b.trans b2).mut ha).mut hD0
      refine ⟨rest.eraseIdx r.toNat, done ++ [rest[r.toNat]], b3, ?_, ?_, (perm_takeI (List.getElem?_eq_getElem hrl)).trans pm, by rw [List.length_append, dl]; rfl, ?_⟩
      · rw [upd_ne hDa.symm, upd_same, erase_mapI]
      · rw [upd_same, List.map_append]
        rfl
      · exact pen.mut (pen.mut pen2 (b.trans b2) ha) ((b.trans b2).mut ha) hD0
    · rintro H' ⟨rest, done, b, h1, h2, pm, dl, pen'⟩
      rw [Int.toNat_natCast] at dl pen'
      have hlen := pm.length_eq
      rw [List.length_append, List.length_map, List.length_range] at hlen
      have er : rest = [] := List.eq_nil_of_length_eq_zero (by omega)
      subst er
      rw [List.append_nil] at pm
      exact k Dd done H' pm b hD0 h2 pen'
end
end K
namespace K
open PySem L2 Rg LamX
open Evl (pss_cut)
abbrev gKW {α : Type} : List α → List α → List α := fun us ws => match us, ws with
  | [], [b, c] => [c, b]
  | _, _ => []
section
variable {P : Program} {w : World} {K : PySem.W.Frag} {mg : Str → Option Value} {base : Heap}
def spTc (K : PySem.W.Frag) (C : Addr) (T : List (Addr × Str)) (f : List Int → List (List Int) → List (List Int)) : Sp := fun vs H Q _ => ∃ (r : Addr) (ls : List Int), vs = [.ref r] ∧ RingW K C H r ls ∧ 3 ≤ ls.length ∧ ls.length ≤ 8 ∧ Tabs T H ∧
  ∀ (p : Addr) (xs : List V) (nss : List (List Int)) (H' : Hp), ExtN H H' → Tabs T H' → H' p = some (.tup xs) → TL H' xs nss → (∀ L, AllL ls.length L → nss = f ls L) → Q (.ref p) H'
theorem ok_tc {C cR f : Addr} {fd : FuncData} {T : List (Addr × Str)} {g : List Int → List (List Int) → List (List Int)} (F : FnOk P w K mg base (L2.CX P w) 8 f fd ["ring"] (spTold K C cR T g)) : FnOk P w K mg base CX0 8 f fd ["ring"] (spTc K C T g) :=
  (fn_calm F).imp fun vs H Q E ⟨r, ls, hv, a, b, c, d, q⟩ => ⟨.ref r, hv, .inl ⟨r, ls, rfl, a, b, c, d, q⟩⟩
def spWloC (K : PySem.W.Frag) (T : List (Addr × Str)) : Sp := fun vs H Q _ => ∃ (v : V) (ls : List Int) (x : Int), vs = [v, .int x] ∧ GoodT H v ls ∧ (0 < x ∧ ∃ m ∈ lotsN ls.length, gapE ls m = x) ∧ Tabs T H ∧
  ∀ (p : Addr) (xs : List V) (nss : List (List Int)) (H' : Hp), ExtN H H' → Tabs T H' → H' p = some (.tup xs) → TL H' xs nss → (∃ L, AllL ls.length L ∧ nss = (L.filter fun l => decide (gapE ls l = -x)).map (· ++ [(ls.length : Int)])) → Q (.ref p) H'
theorem ok_wloC {cR cN f : Addr} {fd : FuncData} {T : List (Addr × Str)} (F : FnOk P w K mg base (L2.CX P w) 7 f fd ["lengths", "wall"] (spWlo K cR cN T)) : FnOk P w K mg base CX0 7 f fd ["lengths", "wall"] (spWloC K T) :=
  (fn_calm F).imp fun vs H Q E ⟨v, ls, x, hv, g, hx, tab, q⟩ => ⟨v, .int x, hv, tab, .inl ⟨ls, x, rfl, g, hx, q⟩⟩
/-! ### the lots of a wall, told right -/
def spLR (K : PySem.W.Frag) (T : List (Addr × Str)) : Sp := fun vs H Q _ => ∃ (l : Addr) (ls : List Int) (x : Int), vs = [.ref l, .int x] ∧ H l = some (.lst (ls.map V.int)) ∧ 2 ≤ ls.length ∧ ls.length ≤ 7 ∧ Bd 1000000 ls ∧ (0 < x ∧ ∃ m ∈ lotsN ls.length, gapE ls m = x) ∧ Tabs T H ∧ ∀ H', ExtN H H' → Tabs T H' → Q (.bl true) H'
abbrev nLR : List Str := ["_law_lengths_here", "_law_shut", "_law_whole", "_law_last", "_law_due", "_law_told", "_law_level", "_law_lot", "_law_size"]
theorem scLR : FnScope nLR ["_law_lengths_here", "_law_shut"] (defScope sLwLotsRight) := ⟨rfl, rfl, rfl, by decide +kernel, rfl, by decide +kernel, by decide +kernel⟩
theorem ok_lr {C f fLo fG fW fO fV fI : Addr} {fd fdLo fdG fdW fdO fdV fdI : FuncData} {g1 : List Value → List Value → List Value} {P1 P2 : Addr} (F : Fun K "_law_lots_right" "_law_lots_right" sLwLotsRight f fd) (T : Bi mg) (LO : DefAt P w K mg base CX0 2 "_law_lots" ["_law_many"] (spLots K) fLo fdLo) (GP : DefAt P w K mg base CX0 2 "_law_gap" ["_law_lengths_here", "_law_lot"] (spGap K) fG fdG)
    (WL : DefAt P w K mg base CX0 7 "wall_lots" ["lengths", "wall"] (spWloC K (T2 P1 P2)) fW fdW) (KW : KBinds K fdW ["lengths", "wall"] ["wall", "lengths"] g1 gKW) (OT : DefAt P w K mg base CX0 1 "_law_others" ["_law_many", "_law_lot"] (spOth K) fO fdO) (R : RingC K mg C) (G : RingP P w K mg base C fI fdI)
    (LV : DefAt P w K mg base CX0 8 "level_lots" ["ring"] (spTc K C (T2 P1 P2) fun ls L => L.filter (levB ls)) fV fdV) : FnOk P w K mg base CX0 9 f fd ["_law_lengths_here", "_law_shut"] (spLR K (T2 P1 P2)) := by
  refine F.ok scLR (fun vs H Q E h => ?_) (fun cdv A outer s H vs Q E hr h => ?_)
  · obtain ⟨l, ls, x, rfl, _⟩ := h
    rfl
  · have nd := scLR.nd
    refine ⟨_, pss_cons (ps_asg (pe_tup (pa_cons (pe_op op_cat (pv 0) (pe_lst (pa_cons (pv 1) pa_nil))) (pa_cons (pe_callB call_len_seq (by rfl) T.len PySem.boot_len (pa_cons (pv 0) pa_nil)) pa_nil))) (pg_tup (by rfl) (pgs_cons (pg_name (i := 2) nd rfl (Or.inr rfl)) (pgs_cons (pg_name (i := 3) nd rfl (Or.inr rfl)) pgs_nil))))
      (pss_cons (ps_set (i := 4) nd rfl (Or.inl rfl) (pe_callTy call_tuple_of (by rfl) T.tuple (by decide +kernel) (pa_cons (pe_lc (own := [("_law_lot", 7)]) (g := gName 7) (tt := tAnd (tTest (tOp (rIn K false) (tVar 3) (tVar 7))) (tTest (tOp rEq (tCall (spGap K) [] E0 (tCons (tVar 2) (tCons (tVar 7) tNil))) (tC (.int 0))))) (te := tVar 7) rfl nd (pi_list (pe_call LO.ok (hr.mono (by decide)) rfl LO.g LO.kp LO.b .nil pass0 (pa_cons (pe_op op_add (pv 3) pe_int) pa_nil)))
        (blkOk_by (N := nLR) (sc := defScope sLwLotsRight) (by decide +kernel)) (fun _ _ _ _ _ => pg_name (i := 7) nd rfl (Or.inl rfl)) (fun _ _ _ _ _ => pts_one (PW.pt (pw_and (pt_cmpR op_in_seq (pv 3) (pv 7) (by rfl)) (pw_and1 (pt_cmpR op_eq (pe_call GP.ok (hr.mono (by decide)) rfl GP.g GP.kp GP.b .nil pass0 (pa_cons (pv 2) (pa_cons (pv 7) pa_nil))) pe_int (nomark _)))))) (fun _ _ _ _ _ => pv 7)) pa_nil)))
      (pss_cons (ps_set (i := 5) nd rfl (Or.inl rfl) (pe_call WL.ok (hr.mono (by decide)) rfl WL.g WL.kp WL.b .nil pass0 (pa_cons (pv 0) (pa_cons (pv 1) pa_nil))))
      (pss_cons (ps_if (PW.pt (pw_or (pt_cmpR (op_neD hr.units) (pv 5) (pv 4) (nomark _)) (pw_or (pt_cmpR (op_neD hr.units) (pe_callK0 WL.ok (hr.mono (by decide)) rfl WL.g WL.kp KW pass0 (pk_cons (pv 1) (pk_cons (pe_callTy call_tuple_of (by rfl) T.tuple (by decide +kernel) (pa_cons (pv 0) pa_nil)) pk_nil))) (pv 4) (nomark _)) (pw_or1 (pt_cmpR (op_eqD hr.units) (pv 4) (pe_tup pa_nil) (nomark _)))))) (pss_one ps_never) pss_nil)
      (pss_cons (ps_if (pt_cmpR op_gt (pv 1) pe_int (nomark _)) (pss_one (ps_ret pe_bl)) pss_nil)
      (pss_cons (ps_set (i := 6) nd rfl (Or.inl rfl) (pe_op op_cat (pe_callTy call_list_of (by rfl) T.list (by decide +kernel) (pa_cons (pv 4) pa_nil)) (pe_lc (own := [("_law_lot", 7)]) (g := gName 7) (tt := tYes) rfl nd (pi_tup (pv 4))
        (blkOk_by (N := nLR) (sc := defScope sLwLotsRight) (by decide +kernel)) (fun _ _ _ _ _ => pg_name (i := 7) nd rfl (Or.inl rfl)) (fun _ _ _ _ _ => pts_nil) (fun _ _ _ _ _ => pe_call OT.ok (hr.mono (by decide)) rfl OT.g OT.kp OT.b .nil pass0 (pa_cons (pe_op op_add (pv 3) pe_int) (pa_cons (pv 7) pa_nil))))))
      (pss_one (ps_ret (pe_cmpR (op_eqD hr.units) (pe_call LV.ok hr rfl LV.g LV.kp LV.b .nil pass0 (pa_cons (pe_make G.made G.ok (hr.mono (by decide)) (by rfl) R.g G.b .nil pass0 (pa_cons (pv 2) pa_nil)) pa_nil))
        (pe_callTy call_tuple_of (by rfl) T.tuple (by decide +kernel) (pa_cons (pe_lc (own := [("_law_size", 8), ("_law_lot", 7)]) (g := gTup K 2 (gCons (gName 8) (gCons (gName 7) gNil))) (tt := tYes) (te := tVar 7) rfl nd
          (pi_list (pe_callB (cr_sortedN hr.units) (by rfl) T.sorted (by decide +kernel) (pa_cons (pe_lc (own := [("_law_lot", 7)]) (g := gName 7) (tt := tYes) (te := tTup (tCons (tCB (rLenS K) (tCons (tVar 7) tNil)) (tCons (tVar 7) tNil))) rfl nd (pi_list (pv 6))
            (blkOk_by (N := nLR) (sc := defScope sLwLotsRight) (by decide +kernel)) (fun _ _ _ _ _ => pg_name (i := 7) nd rfl (Or.inl rfl)) (fun _ _ _ _ _ => pts_nil) (fun _ _ _ _ _ => pe_tup (pa_cons (pe_callB (r := rLenS K) call_len_seq (by rfl) T.len PySem.boot_len (pa_cons (pv 7) pa_nil)) (pa_cons (pv 7) pa_nil)))) pa_nil)))
          (blkOk_by (N := nLR) (sc := defScope sLwLotsRight) (by decide +kernel)) (fun _ _ _ _ _ => pg_tup rfl (pgs_cons (pg_name (i := 8) nd rfl (Or.inl rfl)) (pgs_cons (pg_name (i := 7) nd rfl (Or.inl rfl)) pgs_nil))) (fun _ _ _ _ _ => pts_nil) (fun _ _ _ _ _ => pv 7)) pa_nil)) (nomark _))))))))), ?_⟩
    obtain ⟨l, ls, x, rfl, hl, l2, l7, bd, wx, tab, q⟩ := h
    -- the whole, the last bar
    have wl : (ls ++ [x]).length = ls.length + 1 := by rw [List.length_append]; rfl
    refine ⟨_, rfl, _, rfl, (by show 1 ≤ sizeLine; decide), fun u0 nu0 => ⟨l, u0, _, _, rfl, rfl, by rw [upd_ne (ne_of_none hl nu0)]; exact hl, upd_same, ?_, fun w0 nw0 => ?_⟩⟩
    · rw [List.length_map]
      exact Nat.le_of_lt (sm (by show ls.length + 1 ≤ 10000; omega))
    have s1 : Same H (upd (upd H u0 (.lst [.int x])) w0 (.lst (ls.map V.int ++ [.int x]))) := ((Same.refl H).new nu0).new nw0
    have hw1 : upd (upd H u0 (.lst [.int x])) w0 (.lst (ls.map V.int ++ [.int x])) w0 = some (.lst ((ls ++ [x]).map V.int)) := by
      rw [upd_same, List.map_append]
      rfl
    generalize upd (upd H u0 (.lst [.int x])) w0 (.lst (ls.map V.int ++ [.int x])) = H1 at s1 hw1 ⊢
    refine ⟨_, rfl, l, _, rfl, .inl (SqL.of (s1 _ _ hl)), ?_⟩
    rw [List.length_map]
    refine ⟨(by show 2 ≤ sizeLine; decide), fun u1 nu1 => ⟨u1, _, rfl, .inl (.inl upd_same), rfl, _, _, rfl, _, _, rfl, rfl, ?_⟩⟩
    have s2 : Same H1 (upd H1 u1 (.tup [.ref w0, .int (ls.length : Nat)])) := (Same.refl H1).new nu1
    generalize upd H1 u1 (.tup [.ref w0, .int (ls.length : Nat)]) = H2 at s2 ⊢
    have s02 := s1.trans s2
    have hw2 := s2 _ _ hw1
    -- the lots that are due
    refine ⟨_, rfl, _, _, rfl, rfl, ls.length + 1, rfl, by omega, by omega, fun p3 xs kf H3 s3 h3 la pm od => ⟨p3, rfl, ⟨_, SqL.of h3⟩, fun D hD => ?_⟩⟩
    have aM : AllL (ls.length + 1) (xs.map kf) := ⟨pm, List.pairwise_map.mpr od⟩
    have xl : xs.length ≤ 256 := by
      have e := aM.len
      rw [List.length_map] at e
      rw [e]
      exact Nat.pow_le_pow_right (by decide) (show ls.length + 1 ≤ 8 by omega)
    obtain ⟨df, hdf⟩ : ∃ df : V → Bool, df = fun y => hasI (ls.length : Int) (kf y) && decide (gapE (ls ++ [x]) (kf y) = 0) := ⟨_, rfl⟩
    have hw3 := s3 _ _ hw2
    refine lc_list (K := K) (a := p3) (xs := xs) (fun j H' => Same H3 H' ∧ H' D = some (.lst ((xs.take j).filter df))) ⟨(Same.refl H3).new hD, upd_same⟩ (fun j H' _ q => q.1.seq (SqL.of h3)) ?_ ?_
    · rintro j y H' hj ⟨s4, h4⟩
      have hy := List.mem_of_getElem? hj
      have hjl : j < xs.length := (List.getElem?_eq_some_iff.mp hj).1
      obtain ⟨t, rfl, ht⟩ := la y hy
      have lot : kf (.ref t) ∈ lotsN (ls.length + 1) := pm.mem_iff.mp (List.mem_map.mpr ⟨_, hy, rfl⟩)
      have no : ∀ H6, Same H' H6 → df (.ref t) = false → Same H3 H6 ∧ H6 D = some (.lst ((xs.take (j + 1)).filter df)) := fun H6 s6 e => by
        refine ⟨s4.trans s6, ?_⟩
        rw [s6 _ _ h4, ← take_snoc hj, List.filter_append]
        simp only [List.filter, e, List.append_nil]
      refine ⟨rfl, _, rfl, _, rfl, t, _, rfl, .inr (.inl (.inl (s4 _ _ ht))), rfl, flat_ints _, _, rfl, ?_⟩
      have eb : inV (.int (ls.length : Nat)) ((kf (.ref t)).map V.int) = hasI (ls.length : Int) (kf (.ref t)) := inV_int _ _
      show (if inV (.int (ls.length : Nat)) ((kf (.ref t)).map V.int) = true then _ else _)
      rw [eb]
      cases e : hasI (ls.length : Int) (kf (.ref t)) with
      | false => exact iteF (iteF (no H' (Same.refl H') (by rw [hdf]; show (_ && _) = false; rw [e]; rfl)))
      | true =>
        refine iteT ⟨_, rfl, _, rfl, w0, t, ls ++ [x], kf (.ref t), rfl, s4 _ _ hw3, s4 _ _ ht, by rw [wl]; omega, by rw [wl]; exact lotsN_lot lot, fun H6 s6 => ⟨rfl, _, rfl, ?_⟩⟩
        rw [dec_int]
        cases g : decide (gapE (ls ++ [x]) (kf (.ref t)) = 0) with
        | false => exact iteF (no H6 s6 (by rw [hdf]; show (_ && _) = false; rw [e, g]; rfl))
        | true =>
          have ed : df (.ref t) = true := by rw [hdf]; show (_ && _) = true; rw [e, g]; rfl
          refine iteT ⟨_, rfl, _, s6 _ _ h4, ?_, (s4.trans s6).mut hD, ?_⟩
          · have := List.length_filter_le df (xs.take j)
            rw [List.length_take] at this
            exact sm (by omega)
          · rw [upd_same, ← take_snoc hj, List.filter_append]
            simp only [List.filter, ed]
    rintro H4 ⟨s4, h4⟩
    rw [List.take_length] at h4
    obtain ⟨ds, hds⟩ : ∃ ds, ds = xs.filter df := ⟨_, rfl⟩
    rw [← hds] at h4
    have dk : ds.map kf = dueL ls x (xs.map kf) := by
      unfold dueL
      rw [hds, hdf, List.filter_map]
      rfl
    have dl : ds.length ≤ 256 := by rw [hds]; exact Nat.le_trans (List.length_filter_le ..) xl
    refine ⟨D, _, rfl, .inl ⟨SqL.of h4, fun d nd5 => ?_⟩⟩
    have s5 : Same H3 (upd H4 d (.tup ds)) := s4.new nd5
    have hd5 : upd H4 d (.tup ds) d = some (.tup ds) := upd_same
    generalize upd H4 d (.tup ds) = H5 at s5 hd5 ⊢
    have s05 := (s02.trans s3).trans s5
    have ld5 : LotsAt H5 ds kf := fun y hy => by
      rw [hds] at hy
      obtain ⟨t, e, ht⟩ := la y (List.mem_filter.mp hy).1
      exact ⟨t, e, s5 _ _ ht⟩
    have tl5 : TL H5 ds (dueL ls x (xs.map kf)) := by
      rw [← dk]
      exact lots_tl ld5
    -- told
    refine ⟨_, rfl, _, rfl, .ref l, ls, x, rfl, ⟨l, rfl, .inl (s05 _ _ hl), l2, l7, bd⟩, wx, tab.ext s05, fun p6 ws nss H6 e6 tab6 h6 tl6 an6 => ?_⟩
    obtain ⟨L0, aL0, en⟩ := an6
    have en' : nss = dueL ls x (xs.map kf) := en.trans (due_eq aM aL0)
    subst en'
    have hd6 := e6 _ _ hd5 (fun _ z => nomatch z)
    have tl56 := tl5.ext e6
    have hl6 := e6 _ _ (s05 _ _ hl) (fun _ z => nomatch z)
    refine ⟨_, rfl, _, rfl, _, _, .tup (.inl (.inl h6)) (tl_dp tl6), .tup (.inl (.inl hd6)) (tl_dp tl56), tl_shapedT _, tl_shapedT _, _, rfl, iteBF (by rw [tl_eqT, decide_eq_true rfl]; rfl) ?_⟩
    refine ⟨_, rfl, _, rfl, l, _, rfl, .inl ⟨SqL.of hl6, fun u2 nu2 => ?_⟩⟩
    have s7 : Same H6 (upd H6 u2 (.tup (ls.map V.int))) := (Same.refl H6).new nu2
    have hu2 : upd H6 u2 (.tup (ls.map V.int)) u2 = some (.tup (ls.map V.int)) := upd_same
    generalize upd H6 u2 (.tup (ls.map V.int)) = H7 at s7 hu2 ⊢
    refine ⟨.ref u2, ls, x, rfl, ⟨u2, rfl, .inr hu2, l2, l7, bd⟩, wx, tab6.ext s7, fun p8 vs8 ms H8 e8 tab8 h8 tl8 an8 => ?_⟩
    obtain ⟨L1, aL1, en8⟩ := an8
    have en8' : ms = dueL ls x (xs.map kf) := en8.trans (due_eq aM aL1)
    subst en8'
    have e68 := (ExtN.of s7).trans e8
    have hd8 := e68 _ _ hd6 (fun _ z => nomatch z)
    have tl58 := tl56.ext e68
    refine ⟨_, rfl, _, _, .tup (.inl (.inl h8)) (tl_dp tl8), .tup (.inl (.inl hd8)) (tl_dp tl58), tl_shapedT _, tl_shapedT _, _, rfl, iteBF (by rw [tl_eqT, decide_eq_true rfl]; rfl) ?_⟩
    refine ⟨_, rfl, (by show 0 ≤ sizeLine; decide), fun u3 nu3 => ?_⟩
    have s9 : Same H8 (upd H8 u3 (.tup [])) := (Same.refl H8).new nu3
    have hu3 : upd H8 u3 (.tup []) u3 = some (.tup []) := upd_same
    generalize upd H8 u3 (.tup []) = H9 at s9 hu3 ⊢
    have e09 := (ExtN.of s05).trans (e6.trans (e68.trans (ExtN.of s9)))
    have tab9 := tab8.ext s9
    have hd9 := s9 _ _ hd8
    have tl9 := tl58.same s9
    refine ⟨_, _, .tup (.inl (.inl hd9)) (tl_dp tl9), .tup (.inl (.inl hu3)) .nil, tl_shapedT _, tl_shapedT [], _, rfl, ?_⟩
    have ne0 : PyData.eqv (.tuple ((dueL ls x (xs.map kf)).map fun ns => PyData.tuple (ns.map PyData.int))) (.tuple ([] : List PyData)) = false := by
      have := tl_eqT (dueL ls x (xs.map kf)) []
      rw [decide_eq_false (due_some aM wx.2)] at this
      exact this
    rw [ne0]
    refine iteF ?_
    refine ⟨_, rfl, _, _, rfl, rfl, _, rfl, ?_⟩
    by_cases c : 1000000 < x
    · exact iteDT c (q H9 e09 tab9)
    refine iteDF c ?_
    -- all level lots
    refine ⟨_, rfl, d, _, rfl, .inr (.inl (.inl hd9)), fun v10 nv10 => ?_⟩
    have s10 : Same H9 (upd H9 v10 (.lst ds)) := (Same.refl H9).new nv10
    have hv10 : upd H9 v10 (.lst ds) v10 = some (.lst ds) := upd_same
    generalize upd H9 v10 (.lst ds) = H10 at s10 hv10 ⊢
    have hd10 := s10 _ _ hd9
    have tl10 := tl9.same s10
    generalize hdu : dueL ls x (xs.map kf) = due at *
    have dul : due.length ≤ 256 := by rw [← par_len tl10]; exact dl
    refine ⟨_, rfl, d, rfl, ⟨_, .inl (.inl hd10)⟩, fun D11 hD11 => ?_⟩
    refine lc_tup (K := K) (a := d) (xs := ds) (fun j H' => Same H10 H' ∧ ∃ zs, H' D11 = some (.lst zs) ∧ TL H' zs ((due.take j).map (cmp (ls.length + 1)))) ⟨(Same.refl H10).new hD11, [], upd_same, .nil⟩ (fun j H' _ q => .inl (.inl (q.1 _ _ hd10))) ?_ ?_
    · rintro j y H' hj ⟨s11, zs, h11, tl11⟩
      have hjl : j < ds.length := (List.getElem?_eq_some_iff.mp hj).1
      obtain ⟨m, hm, t, rfl, ht⟩ := par_get tl10 hj
      refine ⟨rfl, _, rfl, _, _, rfl, rfl, _, rfl, ls.length + 1, t, m, rfl, by omega, s11 _ _ ht, fun p12 H12 s12 h12 => ?_⟩
      have h112 := s12 _ _ h11
      have zl : zs.length ≤ 256 := by rw [par_len tl11, List.length_map, List.length_take]; omega
      refine ⟨zs, h112, sm (by omega), (s11.trans s12).mut hD11, _, upd_same, ?_⟩
      rw [← take_snoc hm, List.map_append]
      refine par_app ((tl11.same s12).mut h112) (.cons ⟨p12, rfl, ?_⟩ .nil)
      rw [upd_ne fun e => by rw [e, h112] at h12; cases h12]
      exact h12
    rintro H11 ⟨s11, os, h11, tl11⟩
    rw [par_len tl10, List.take_length] at tl11
    have ol : os.length ≤ 256 := by rw [par_len tl11, List.length_map]; exact dul
    refine ⟨v10, D11, _, _, rfl, rfl, s11 _ _ hv10, h11, Nat.le_of_lt (sm (by omega)), fun c12 nc12 => ?_⟩
    have s12 : Same H11 (upd H11 c12 (.lst (ds ++ os))) := (Same.refl H11).new nc12
    have hc12 : upd H11 c12 (.lst (ds ++ os)) c12 = some (.lst (ds ++ os)) := upd_same
    have tl12 : TL (upd H11 c12 (.lst (ds ++ os))) (ds ++ os) (due ++ due.map (cmp (ls.length + 1))) := par_app ((tl10.same s11).same s12) (tl11.same s12)
    generalize upd H11 c12 (.lst (ds ++ os)) = H12 at s12 hc12 tl12 ⊢
    have s912 := (s10.trans s11).trans s12
    have lvp := level_perm (x := x) aM
    rw [hdu] at lvp
    generalize hvv : due ++ due.map (cmp (ls.length + 1)) = vv at *
    have vl : vv.length ≤ 512 := by rw [← hvv, List.length_append, List.length_map]; omega
    obtain ⟨ks, hks⟩ : ∃ ks, ks = ds ++ os := ⟨_, rfl⟩
    rw [← hks] at hc12 tl12
    have hw12 := (e09.trans (ExtN.of s912)) 
    have hw12 : H12 w0 = some (.lst ((ls ++ [x]).map V.int)) := s912 _ _ (s9 _ _ (e68 _ _ (e6 _ _ (s5 _ _ (s3 _ _ hw2)) (fun _ z => nomatch z)) (fun _ z => nomatch z)))
    -- the ring of the whole
    refine ⟨_, rfl, madeL2 hw12 (by rw [wl]; omega) (by rw [wl]; omega) (bd.snoc (by omega) (by omega)) fun rr H13 ring s13 nr => ⟨rfl, ?_⟩⟩
    have tab13 := (tab9.ext s912).ext s13
    refine ⟨rr, _, rfl, ring.weak, by rw [wl]; omega, by rw [wl]; omega, tab13, fun p14 ys14 nss14 H14 e14 tab14 h14 tl14 an14 => ?_⟩
    have e1214 := (ExtN.of s13).trans e14
    have hc14 := e1214 _ _ hc12 (fun _ z => nomatch z)
    have tlk := tl12.ext e1214
    have e14' := (e09.trans (ExtN.of s912)).trans e1214
    clear tl12
    -- the pairs
    refine ⟨_, rfl, c12, rfl, ⟨_, SqL.of hc14⟩, fun D15 hD15 => ?_⟩
    refine lc_list (K := K) (a := c12) (xs := ks) (fun j H2 => Same H14 H2 ∧ ∃ ys, H2 D15 = some (.lst ys) ∧ PL H2 ys (vv.take j)) ⟨(Same.refl H14).new hD15, [], upd_same, .nil⟩ (fun j H2 _ p => p.1.seq (SqL.of hc14)) ?_ ?_
    · rintro j y H2 hj ⟨s2, ys, h2, yl⟩
      obtain ⟨ns, hns, a, rfl, ha⟩ := par_get tlk hj
      have ha2 := s2 _ _ ha
      refine ⟨rfl, _, rfl, a, _, rfl, .inr (.inl (.inl ha2)), _, rfl, (by show 2 ≤ sizeLine; decide), fun b hb => ⟨ys, by rw [upd_ne (ne_of_none h2 hb)]; exact h2, ?_, ((s2.new hb).mut hD15), _, upd_same, ?_⟩⟩
      · rw [par_len yl, List.length_take]
        exact sm (by omega)
      · have hbD : b ≠ D15 := (ne_of_none h2 hb).symm
        have s4 : ∀ (q : Addr) (zs : List V), H2 q = some (.tup zs) → upd (upd H2 b (.tup [.int (ns.map V.int).length, .ref a])) D15 (.lst (ys ++ [.ref b])) q = some (.tup zs) := fun q zs hq => by
          rw [upd_ne fun e => ?_, upd_ne (ne_of_none hq hb)]
          · exact hq
          · rw [e, h2] at hq
            cases hq
        rw [← take_snoc hns]
        refine par_app (par_imp (fun _ _ ⟨t, b', e, q, r⟩ => ⟨t, b', e, s4 _ _ q, s4 _ _ r⟩) yl) (.cons ⟨b, a, rfl, ?_, s4 _ _ ha2⟩ .nil)
        rw [upd_ne hbD, upd_same, List.length_map]
    rintro H15 ⟨s15, ys, h15, yl⟩
    rw [par_len tlk, List.take_length] at yl
    have yk : ∀ y ∈ ys, ∃ ns ∈ vv, ∃ t b, y = V.ref t ∧ H15 t = some (.tup [.int (ns.length : Nat), .ref b]) ∧ H15 b = some (.tup (ns.map V.int)) := fun y hy => par_mem yl hy
    refine ⟨D15, ys, keyOf H15, rfl, SqL.of h15, fun y hy => ?_, fun zs p hz1 hz2 hp => ?_⟩
    · obtain ⟨ns, _, t, b, e, q1, q2⟩ := yk y hy
      rw [keyOf_at ⟨t, b, e, q1, q2⟩]
      exact ⟨t, b, e, q1, q2⟩
    have s16 : Same H15 (upd H15 p (.lst zs)) := (Same.refl H15).new hp
    have zk : ∀ z ∈ zs, ∃ ns ∈ vv, ∃ t b, z = V.ref t ∧ H15 t = some (.tup [.int (ns.length : Nat), .ref b]) ∧ H15 b = some (.tup (ns.map V.int)) := fun z hz => yk z (hz2.mem_iff.mp hz)
    have zl : zs.length ≤ 512 := by rw [hz2.length_eq, par_len yl]; exact vl
    refine ⟨p, rfl, ⟨_, SqL.of upd_same⟩, fun G17 hG => ?_⟩
    have hG2 := s16.free hG
    refine lc_list (K := K) (a := p) (xs := zs) (fun j H3 => Same H15 H3 ∧ H3 p = some (.lst zs) ∧ H3 G17 = some (.lst ((zs.take j).map (lotOf H15)))) ⟨s16.new hG, by rw [upd_ne (ne_of_none upd_same hG)]; exact upd_same, upd_same⟩ (fun j H3 _ q => SqL.of q.2.1) ?_ ?_
    · rintro j z H3 hj ⟨s5, h5, h6⟩
      obtain ⟨ns, _, t, b, rfl, q1, q2⟩ := zk z (List.mem_of_getElem? hj)
      have hjl : j < zs.length := (List.getElem?_eq_some_iff.mp hj).1
      refine ⟨t, _, rfl, .inl (.inl (s5 _ _ q1)), rfl, ⟨_, _, rfl, _, _, rfl, rfl, rfl, _, rfl, _, h6, (by rw [List.length_map, List.length_take]; exact sm (by omega)), s5.mut hG2, by rw [upd_ne (ne_of_none upd_same hG)]; exact h5, ?_⟩⟩
      rw [upd_same, ← take_snoc hj, List.map_append, List.map_singleton, lotOf_at q1]
    rintro H17 ⟨s17, h17p, h17⟩
    rw [List.take_length] at h17
    have kk : ∀ z ∈ zs, ∃ ns ∈ vv, keyOf H15 z = (((ns.length : Nat) : Int), ns) ∧ cont H17 (lotOf H15 z) = ns ∧ ∃ b, lotOf H15 z = .ref b ∧ H17 b = some (.tup (ns.map V.int)) := fun z hz => by
      obtain ⟨ns, m, t, b, e, q1, q2⟩ := zk z hz
      subst e
      refine ⟨ns, m, keyOf_at ⟨t, b, rfl, q1, q2⟩, ?_, b, lotOf_at q1, s17 _ _ q2⟩
      rw [lotOf_at q1, cont_at (s17 _ _ q2)]
    have srt : zs.Pairwise fun u v => LLe (cont H17 (lotOf H15 u)) (cont H17 (lotOf H15 v)) := by
      refine List.Pairwise.imp_of_mem (fun {a b} ha hb r => ?_) hz1
      obtain ⟨na, _, ea, ca, _⟩ := kk a ha
      obtain ⟨nb, _, eb, cb, _⟩ := kk b hb
      dsimp only at r
      rw [ea, eb] at r
      rw [ca, cb]
      exact r
    have mp : (zs.map fun z => cont H17 (lotOf H15 z)).Perm vv := by
      have e1 : zs.map (fun z => cont H17 (lotOf H15 z)) = zs.map fun z => (keyOf H15 z).2 := List.map_congr_left fun z hz => by
        obtain ⟨nz, _, ez, cz, _⟩ := kk z hz
        rw [ez, cz]
      have e2 : ys.map (fun z => (keyOf H15 z).2) = vv := par_map (fun a b r => by rw [keyOf_at r]) yl
      rw [e1, ← e2]
      exact hz2.map _
    have la17 : LotsAt H17 (zs.map (lotOf H15)) (cont H17) := fun y hy => by
      obtain ⟨z, hz, rfl⟩ := List.mem_map.mp hy
      obtain ⟨ns, _, _, cz, b, eb, hb⟩ := kk z hz
      exact ⟨b, eb, by rw [cz]; exact hb⟩
    refine ⟨G17, _, rfl, .inl ⟨SqL.of h17, fun t18 nt18 => ?_⟩⟩
    have s18 : Same H14 (upd H17 t18 (.tup (zs.map (lotOf H15)))) := (s15.trans s17).new nt18
    have la18 : LotsAt (upd H17 t18 (.tup (zs.map (lotOf H15)))) (zs.map (lotOf H15)) (cont H17) := la17.same ((Same.refl H17).new nt18)
    have h18 : upd H17 t18 (.tup (zs.map (lotOf H15))) t18 = some (.tup (zs.map (lotOf H15))) := upd_same
    generalize upd H17 t18 (.tup (zs.map (lotOf H15))) = H18 at s18 la18 h18 ⊢
    refine ⟨_, _, .tup (.inl (.inl (s18 _ _ h14))) (tl_dp (tl14.same s18)), .tup (.inl (.inl h18)) (tl_dp (lots_tl la18)), tl_shapedT _, tl_shapedT _, ?_⟩
    have same : nss14 = (zs.map (lotOf H15)).map (cont H17) := by
      have e1 : nss14 = levelL (ls ++ [x]) (xs.map kf) := an14 _ (by rw [wl]; exact aM)
      rw [e1, List.map_map]
      exact uniq_of (fun _ _ => LLe.anti) (lvp.trans mp.symm) (List.Pairwise.filter _ aM.od) (List.pairwise_map.mpr srt)
    rw [tl_eqT, decide_eq_true same]
    exact q H18 (e14'.trans (ExtN.of s18)) (tab14.ext s18)
end
end K
namespace K
open PySem L2 Rg LamX
open Evl (pss_cut)
/-- what stood stands, but for what is at p -/
def Kp (p : Addr) (H H' : Hp) : Prop := ∀ b o, H b = some o → b ≠ p → (∀ ps, o ≠ .tbl ps) → H' b = some o
theorem Kp.refl (p : Addr) (H : Hp) : Kp p H H := fun _ _ h _ _ => h
theorem Kp.but {p : Addr} {H H1 H2 : Hp} (a : Kp p H H1) (s : But p H1 H2) : Kp p H H2 := fun b o q n t => s b o n (a b o q n t)
theorem Kp.ext {p : Addr} {H H1 H2 : Hp} (a : Kp p H H1) (s : ExtN H1 H2) : Kp p H H2 := fun b o q n t => s b o (a b o q n t) t
theorem Kp.same {p : Addr} {H H1 H2 : Hp} (a : Kp p H H1) (s : Same H1 H2) : Kp p H H2 := a.ext (ExtN.of s)
theorem Kp.trans {p : Addr} {H H1 H2 : Hp} (a : Kp p H H1) (s : Kp p H1 H2) : Kp p H H2 := fun b o q n t => s b o (a b o q n t) n t
theorem Kp.off {p h : Addr} {H M M2 : Hp} {x : HO} (k0 : Kp p H M) (n : M h = none) (k : Kp p H M2) : Kp p H (upd M2 h x) := fun b o q nb t => by
  rw [upd_ne fun z => by have := k0 b o q nb t; rw [z, n] at this; cases this]
  exact k b o q nb t
theorem PenAt.off {K : PySem.W.Frag} {p h : Addr} {e : Addr × List Int} {n m : Nat} {M M2 : Hp} {x : HO} (pen0 : PenAt K M p e n) (no : M h = none) (pen : PenAt K M2 p e m) : PenAt K (upd M2 h x) p e m := by
  have np : p ≠ h := (pen0.ne no).symm
  obtain ⟨a, r, h1, h5, h6, h7⟩ := pen.ex
  refine ⟨⟨a, r, by rw [upd_ne np]; exact h1, h5, h6, h7⟩, ?_, pen.np, pen.ln⟩
  have ne : ∀ {o : HO}, M e.1 = Option.some o → e.1 ≠ h := fun z q => by rw [q, no] at z; cases z
  have go : e.1 ≠ h → SqL K (upd M2 h x) e.1 (e.2.map V.int) := fun ne => by
    rcases pen.sq with (z | ⟨o, z⟩) | z
    · exact .inl (.inl (by rw [upd_ne ne]; exact z))
    · exact .inl (.inr ⟨o, by rw [upd_ne ne]; exact z⟩)
    · exact .inr z
  rcases pen0.sq with (z | ⟨o, z⟩) | z
  · exact go (ne z)
  · exact go (ne z)
  · exact .inr z
/-! ### what are no told lengths, as the law draws them -/
def kfV : V → String
  | .bl _ => "bool"
  | .str _ => "str"
  | _ => "int"
def simpV : V → Bool
  | .bl _ => true
  | .int _ => true
  | .str _ => true
  | _ => false
structure KitC (K : PySem.W.Frag) (C : Addr) : Prop where
  kl : PySem.W.kitOne K (.ref C) (.type "list") = some false
  kt : PySem.W.kitOne K (.ref C) (.type "tuple") = some false
section
variable {P : Program} {w : World} {K : PySem.W.Frag} {mg : Str → Option Value} {base : Heap}
def BadL (C : Addr) (H : Hp) (v : V) : Prop := v = .non ∨ v = .int 5 ∨ (∃ y, v = .str y) ∨ (∃ (o : Addr) (xs : List V), v = .ref o ∧ H o = some (.lst xs) ∧ xs.length ≤ 1000 ∧ xs.all simpV = true ∧ toldB kfV xs = false) ∨
  (∃ (o : Addr) (kvs : List (Key × V)), v = .ref o ∧ H o = some (.dK kvs)) ∨ ∃ (o dx : Addr) (fs : List (Str × V)), v = .ref o ∧ H o = some (.ins C dx fs)
theorem BadL.ext {C : Addr} {H H' : Hp} {v : V} (h : BadL C H v) (e : ExtN H H') : BadL C H' v := by
  rcases h with h | h | h | ⟨o, xs, h1, h2, r⟩ | ⟨o, kvs, h1, h2⟩ | ⟨o, dx, fs, h1, h2⟩
  · exact .inl h
  · exact .inr (.inl h)
  · exact .inr (.inr (.inl h))
  · exact .inr (.inr (.inr (.inl ⟨o, xs, h1, e _ _ h2 (fun _ z => nomatch z), r⟩)))
  · exact .inr (.inr (.inr (.inr (.inl ⟨o, kvs, h1, e _ _ h2 (fun _ z => nomatch z)⟩))))
  · exact .inr (.inr (.inr (.inr (.inr ⟨o, dx, fs, h1, e _ _ h2 (fun _ z => nomatch z)⟩))))
theorem BadL.but {C p : Addr} {H H' : Hp} {v : V} (h : BadL C H v) (np : v ≠ .ref p) (b : But p H H') : BadL C H' v := by
  rcases h with h | h | h | ⟨o, xs, h1, h2, r⟩ | ⟨o, kvs, h1, h2⟩ | ⟨o, dx, fs, h1, h2⟩
  · exact .inl h
  · exact .inr (.inl h)
  · exact .inr (.inr (.inl h))
  · exact .inr (.inr (.inr (.inl ⟨o, xs, h1, b _ _ (fun z => np (by rw [h1, z])) h2, r⟩)))
  · exact .inr (.inr (.inr (.inr (.inl ⟨o, kvs, h1, b _ _ (fun z => np (by rw [h1, z])) h2⟩))))
  · exact .inr (.inr (.inr (.inr (.inr ⟨o, dx, fs, h1, b _ _ (fun z => np (by rw [h1, z])) h2⟩))))
theorem BadL.fresh {C a : Addr} {H : Hp} {v : V} (h : BadL C H v) (n : H a = none) : v ≠ .ref a := by
  rintro rfl
  rcases h with h | h | ⟨y, h⟩ | ⟨o, xs, h1, h2, r⟩ | ⟨o, kvs, h1, h2⟩ | ⟨o, dx, fs, h1, h2⟩
  · cases h
  · cases h
  · cases h
  · cases h1; rw [n] at h2; cases h2
  · cases h1; rw [n] at h2; cases h2
  · cases h1; rw [n] at h2; cases h2
theorem simp_knd {H : Hp} {x : V} (h : simpV x = true) : KndI K H x (kfV x) := by
  cases x with
  | bl b => exact ⟨⟨.base (.bl b), by show "bool" ∈ kinds; decide⟩, fun z => absurd z (by show ¬ ("bool" = "int"); decide)⟩
  | int i => exact ⟨Knd.int, fun _ => ⟨i, rfl⟩⟩
  | str y => exact ⟨⟨.base (.str y), by show "str" ∈ kinds; decide⟩, fun z => absurd z (by show ¬ ("str" = "int"); decide)⟩
  | _ => exact Bool.noConfusion h
theorem BadL.bad {C : Addr} {H : Hp} {v : V} (R : RingC K mg C) (KC : KitC K C) (h : BadL C H v) : BadT K H v := by
  rcases h with rfl | rfl | ⟨y, rfl⟩ | ⟨o, xs, rfl, h, l, sm, tb⟩ | ⟨o, kvs, rfl, h⟩ | ⟨o, dx, fs, rfl, h⟩
  · exact .inr ⟨"NoneType", ⟨.base .non, by decide⟩, .inl ⟨by decide, by decide⟩⟩
  · exact .inr ⟨"int", Knd.int, .inl ⟨by decide, by decide⟩⟩
  · exact .inr ⟨"str", ⟨.base (.str _), by decide⟩, .inl ⟨by decide, by decide⟩⟩
  · have kn : ∀ x ∈ xs, KndI K H x (kfV x) := fun x hx => simp_knd (List.all_eq_true.mp sm x hx)
    exact .inr ⟨"list", ⟨.base (.lst h), by decide⟩, .inr ⟨o, xs, kfV, rfl, .inl ⟨rfl, SqL.of h⟩, l, kn, tb⟩⟩
  · exact .inr ⟨"dict", ⟨.base (.dK h), by decide⟩, .inl ⟨by decide, by decide⟩⟩
  · exact .inl ⟨.ref C, .base (.ins h R.cl R.ha R.hn R.ht R.hm), KC.kl, KC.kt⟩
/-! ### what is no wall, as the law draws it -/
def BadW (ls : List Int) (H : Hp) (v : V) : Prop := v = .non ∨ (∃ b, v = .bl b) ∨ (∃ y, v = .str y) ∨ (∃ (o : Addr) (xs : List V), v = .ref o ∧ (H o = some (.lst xs) ∨ H o = some (.tup xs))) ∨ ∃ x : Int, v = .int x ∧ ¬ (0 < x ∧ ∃ m ∈ lotsN ls.length, gapE ls m = x)
theorem BadW.ext {ls : List Int} {H H' : Hp} {v : V} (h : BadW ls H v) (e : ExtN H H') : BadW ls H' v := by
  rcases h with h | h | h | ⟨o, xs, h1, h2⟩ | h
  · exact .inl h
  · exact .inr (.inl h)
  · exact .inr (.inr (.inl h))
  · exact .inr (.inr (.inr (.inl ⟨o, xs, h1, h2.imp (fun z => e _ _ z (fun _ z => nomatch z)) (fun z => e _ _ z (fun _ z => nomatch z))⟩)))
  · exact .inr (.inr (.inr (.inr h)))
theorem BadW.fresh {ls : List Int} {a : Addr} {H : Hp} {v : V} (h : BadW ls H v) (n : H a = none) : v ≠ .ref a := by
  rintro rfl
  rcases h with h | ⟨b, h⟩ | ⟨y, h⟩ | ⟨o, xs, h1, h2⟩ | ⟨x, h, _⟩
  · cases h
  · cases h
  · cases h
  · cases h1
    rcases h2 with h2 | h2 <;> rw [n] at h2 <;> cases h2
  · cases h
theorem BadW.but {ls : List Int} {p : Addr} {H H' : Hp} {v : V} (h : BadW ls H v) (np : v ≠ .ref p) (b : But p H H') : BadW ls H' v := by
  rcases h with h | h | h | ⟨o, xs, h1, h2⟩ | h
  · exact .inl h
  · exact .inr (.inl h)
  · exact .inr (.inr (.inl h))
  · exact .inr (.inr (.inr (.inl ⟨o, xs, h1, h2.imp (b _ _ fun z => np (by rw [h1, z])) (b _ _ fun z => np (by rw [h1, z]))⟩)))
  · exact .inr (.inr (.inr (.inr h)))
theorem BadW.bad {ls : List Int} {H : Hp} {v : V} (h : BadW ls H v) : NotWall K H v ls := by
  rcases h with rfl | ⟨b, rfl⟩ | ⟨y, rfl⟩ | ⟨o, xs, rfl, h | h⟩ | h
  · exact .inl ⟨"NoneType", ⟨.base .non, by decide⟩, by decide⟩
  · exact .inl ⟨"bool", ⟨.base (.bl b), by decide⟩, by decide⟩
  · exact .inl ⟨"str", ⟨.base (.str y), by decide⟩, by decide⟩
  · exact .inl ⟨"list", ⟨.base (.lst h), by decide⟩, by decide⟩
  · exact .inl ⟨"tuple", ⟨.base (.tup h), by decide⟩, by decide⟩
  · exact .inr h
def spWsE (K : PySem.W.Frag) (cR : Addr) (T : List (Addr × Str)) : Sp := fun vs H _ E => ∃ v : V, vs = [v] ∧ Tabs T H ∧ BadT K H v ∧ Errs E cR "part" (.str "lengths") H
theorem ok_wsE {cR f : Addr} {fd : FuncData} {T : List (Addr × Str)} (F : FnOk P w K mg base (L2.CX P w) 6 f fd ["lengths"] (spWs K cR T)) : FnOk P w K mg base (L2.CX P w) 6 f fd ["lengths"] (spWsE K cR T) :=
  F.imp fun vs H Q E ⟨v, hv, tab, no, er⟩ => ⟨v, hv, tab, .inr ⟨no, er⟩⟩
/-! ### what is refused -/
def spRR (K : PySem.W.Frag) (T : List (Addr × Str)) : Sp := fun vs H Q _ => ∃ (p l fo : Addr) (e : Addr × List Int) (n : Nat) (ls W : List Int), vs = [.ref p, .ref l, .ref fo] ∧ H l = some (.lst (ls.map V.int)) ∧ l ≠ p ∧ H fo = some (.lst (W.map V.int)) ∧ fo ≠ p ∧ 2 ≤ ls.length ∧ ls.length ≤ 7 ∧ Bd 1000000 ls ∧ IsW ls W ∧ W.length ≤ 128 ∧
  n < 900000 ∧ PenAt K H p e n ∧ Tabs T H ∧ ∀ H', Kp p H H' → PenAt K H' p e (n + 2) → Tabs T H' → Q (.bl true) H'
abbrev nRR : List Str := ["_law_reel_here", "_law_lengths_here", "_law_found", "_law_bad", "_law_gaps", "_law_odd", "_law_heard_here", "_law_shut"]
theorem scRR : FnScope nRR ["_law_reel_here", "_law_lengths_here", "_law_found"] (defScope sLwRefusedRight) := ⟨rfl, rfl, rfl, by decide +kernel, rfl, by decide +kernel, by decide +kernel⟩
theorem ok_rr {C cd P1 P2 rE nE eR f fK fW fL fH fI : Addr} {fd fdK fdW fdL fdH fdI : FuncData} (F : FunC K "_law_refused_right" "_law_refused_right" sLwRefusedRight f fd cd) (T : Bi mg) (B2 : Bi2 mg) (R : RingC K mg C) (KC : KitC K C) (G : RingP P w K mg base C fI fdI)
    (PK : DefAt P w K mg base CX0 3 "_law_pick" ["_law_reel_here", "_law_some"] (spPick K) fK fdK) (WS : DefAt P w K mg base (L2.CX P w) 6 "walls" ["lengths"] (spWs K rE (T2 P1 P2)) fW fdW) (WL : DefAt P w K mg base (L2.CX P w) 7 "wall_lots" ["lengths", "wall"] (spWlo K rE nE (T2 P1 P2)) fL fdL)
    (Hc : HeardC K mg rE nE eR) (TB : TabB base mg cd P1) (hmT : (P1, qLaw) ∈ T2 P1 P2) (hu : ∀ p ∈ T2 P1 P2, p.1 = P1 → p.2 = qLaw)
    (FH : Fun K "_law_heard" "_law_heard" sLwHeard fH fdH) (BH : Binds K fdH ["_law_ask"] []) (GH : mg "_law_heard" = some (.ref fH)) : FnOk P w K mg base CX0 10 f fd ["_law_reel_here", "_law_lengths_here", "_law_found"] (spRR K (T2 P1 P2)) := by
  refine F.ok scRR (fun vs H Q E h => ?_) (fun A outer s H vs Q E hr h => ?_)
  · obtain ⟨p, l, fo, e, n, ls, W, rfl, _⟩ := h
    rfl
  · have nd := scRR.nd
    obtain ⟨oc, od, kV, doc, pm, an, cdv, ct, osl, rfl, lk, hcd⟩ := FH.ex
    refine ⟨_, (pss_cons (ps_set (i := 3) nd rfl (Or.inr rfl) (pe_call PK.ok (hr.mono (by decide)) rfl PK.g PK.kp PK.b .nil pass0 (pa_cons (pv 0) (pa_cons (pe_lst (pa_cons pe_non (pa_cons pe_int (pa_cons pe_str (pa_cons (pe_lst pa_nil) (pa_cons (pe_lst (pa_cons pe_int pa_nil)) (pa_cons (pe_op op_rep (pe_lst (pa_cons pe_int pa_nil)) pe_int) (pa_cons (pe_lst (pa_cons pe_int (pa_cons pe_int pa_nil))) (pa_cons (pe_lst (pa_cons pe_int (pa_cons (pe_un un_neg pe_int) pa_nil))) (pa_cons (pe_lst (pa_cons pe_int (pa_cons pe_bl pa_nil))) (pa_cons (pe_lst (pa_cons pe_int (pa_cons pe_int pa_nil))) (pa_cons (pe_lst (pa_cons pe_int (pa_cons pe_str pa_nil)))
        (pa_cons (pe_disp (pps_cons pe_int pe_int pps_nil) rfl rfl (by decide) (by decide)) (pa_cons (pe_make G.made G.ok (hr.mono (by decide)) (by rfl) R.g G.b .nil pass0 (pa_cons (pe_lst (pa_cons pe_int (pa_cons pe_int (pa_cons pe_int pa_nil)))) pa_nil)) pa_nil)))))))))))))) pa_nil))))
      (pss_cons (ps_setLc (i := 4) (own := [("_law_shut", 7)]) (g := gName 7) (tt := tTest (tOp (rIn K true) (tOp (rI0 fun i j => .int (i + j)) (tVar 7) (tC (.int 1))) (tVar 2))) (te := tOp (rI0 fun i j => .int (i + j)) (tVar 7) (tC (.int 1))) rfl nd rfl rfl (sw_true rfl rfl rfl (by decide +kernel)) (pi_list (pv 2))
        (blkOk_by (N := nRR) (sc := defScope sLwRefusedRight) (by decide +kernel)) (fun _ _ _ _ _ => pg_name (i := 7) nd rfl (Or.inl rfl)) (fun _ _ _ _ _ => pts_one (pt_cmpR op_notIn_seq (pe_op op_add (pv 7) pe_int) (pv 2) (by rfl))) (fun _ _ _ _ _ => pe_op op_add (pv 7) pe_int))
      (pss_cons (ps_set (i := 5) nd rfl (Or.inr rfl) (pe_call PK.ok (hr.mono (by decide)) rfl PK.g PK.kp PK.b .nil pass0 (pa_cons (pv 0) (pa_cons (pe_lst (pa_cons pe_non (pa_cons pe_int (pa_cons (pe_un un_neg (pe_ix ix_list (pv 2) pe_int (fun _ _ => rfl))) (pa_cons pe_bl (pa_cons (pe_callTy call_str_int (by rfl) B2.str (by decide +kernel) (pa_cons (pe_ix ix_list (pv 2) pe_int (fun _ _ => rfl)) pa_nil)) (pa_cons (pe_lst (pa_cons (pe_ix ix_list (pv 2) pe_int (fun _ _ => rfl)) pa_nil))
        (pa_cons (pe_tup (pa_cons (pe_ix ix_list (pv 2) pe_int (fun _ _ => rfl)) pa_nil)) (pa_cons (pe_op op_add (pe_callB (cr_sum rfl) (by rfl) T.sum (by decide +kernel) (pa_cons (pv 1) pa_nil)) pe_int) (pa_cons (pe_ix ix_list (pv 4) pe_int (fun _ _ => rfl)) pa_nil)))))))))) pa_nil))))
      (pss_cons (ps_set (i := 6) nd rfl (Or.inl rfl) (pe_lst (pa_cons (pe_lamcall (T := T2 P1 P2) (TT := THeard rE "ring") (a := "_law_ask") (g := fH) (c := cd) (P := P1) (k := 7) (Ng := nHeard) rfl GH FH.kp lk hcd BH scHeard rfl (Or.inl rfl) (heard_ring T Hc) TB rfl hmT hu (hr.mono (by decide)) (lamS_by (sc := defScope sLwRefusedRight) (by decide +kernel)) rfl (fun _ _ _ _ _ => rfl)
          (fun A outer s H E f c' hr' => (pe_call WS.ok (hr'.mono (by decide)) rfl WS.g WS.kp WS.b .nil (passes_call (takes_of rfl rfl rfl rfl) (fun _ _ _ _ h => h)) (pa_cons (pv 3) pa_nil)))) pa_nil)))
      (pss_cons (ps_expr (pe_bm PySem.F.plainAttrs_list PySem.F.slot_list_append PySem.F.type_list_append mt_append (pv 6) (pa_cons (pe_lamcall (T := T2 P1 P2) (TT := THeard rE "ring") (a := "_law_ask") (g := fH) (c := cd) (P := P1) (k := 7) (Ng := nHeard) rfl GH FH.kp lk hcd BH scHeard rfl (Or.inl rfl) (heard_ring T Hc) TB rfl hmT hu (hr.mono (by decide)) (lamS_by (sc := defScope sLwRefusedRight) (by decide +kernel)) rfl (fun _ _ _ _ _ => rfl)
          (fun A outer s H E f c' hr' => (pe_call WL.ok hr' rfl WL.g WL.kp WL.b .nil (passes_call (takes_of rfl rfl rfl rfl) (fun _ _ _ _ h => h)) (pa_cons (pv 3) (pa_cons (pv 5) pa_nil))))) pa_nil)))
      (pss_cons (ps_expr (pe_bm PySem.F.plainAttrs_list PySem.F.slot_list_append PySem.F.type_list_append mt_append (pv 6) (pa_cons (pe_lamcall (T := T2 P1 P2) (TT := THeard nE "number") (a := "_law_ask") (g := fH) (c := cd) (P := P1) (k := 7) (Ng := nHeard) rfl GH FH.kp lk hcd BH scHeard rfl (Or.inl rfl) (heard_number T Hc) TB rfl hmT hu (hr.mono (by decide)) (lamS_by (sc := defScope sLwRefusedRight) (by decide +kernel)) rfl (fun _ _ _ _ _ => rfl)
          (fun A outer s H E f c' hr' => (pe_call WL.ok hr' rfl WL.g WL.kp WL.b .nil (passes_call (takes_of rfl rfl rfl rfl) (fun _ _ _ _ h => h)) (pa_cons (pv 1) (pa_cons (pv 5) pa_nil))))) pa_nil)))
      (pss_one (ps_ret (pe_cmpR (op_eqD hr.units) (pv 6) (pe_lst (pa_cons (pe_tup (pa_cons pe_str (pa_cons pe_str pa_nil))) (pa_cons (pe_tup (pa_cons pe_str (pa_cons pe_str pa_nil))) (pa_cons (pe_tup (pa_cons pe_str (pa_cons pe_str pa_nil))) pa_nil)))) (nomark _)))))))))), ?_⟩
    obtain ⟨p, l, fo, e, n, ls, W, rfl, hl, nlp, hfo, nfp, l2, l7, bd, iw, w128, hn, pen, tab, q⟩ := h
    have wne : W ≠ [] := fun z => by
      have s := bd.sum.1
      obtain ⟨j, _, hj⟩ := iw.top bd (by omega)
      rw [z] at hj
      cases hj
    obtain ⟨w0, hw0⟩ : ∃ w0, W[0]? = some w0 := ⟨_, List.getElem?_eq_getElem (List.length_pos_iff.mpr wne)⟩
    have at0 : atI (W.map V.int) 0 = some (.int w0) := at_of (j := 0) rfl (by rw [List.getElem?_map, hw0]; rfl)
    -- no lengths
    refine ⟨_, rfl, (by show 0 ≤ sizeLine; decide), fun o1 n1 => ⟨(by show 1 ≤ sizeLine; decide), fun o2 n2 => ⟨(by show 1 ≤ sizeLine; decide), fun o3 n3 => ?_⟩⟩⟩
    have a1 : Same H (upd H o1 (.lst [])) := (Same.refl H).new n1
    have v1 : upd H o1 (.lst []) o1 = some (.lst []) := upd_same
    generalize upd H o1 (.lst []) = J1 at a1 v1 n2 n3 ⊢
    have a2 : Same J1 (upd J1 o2 (.lst [.int 3])) := (Same.refl J1).new n2
    have v2 : upd J1 o2 (.lst [.int 3]) o2 = some (.lst [.int 3]) := upd_same
    generalize upd J1 o2 (.lst [.int 3]) = J2 at a2 v2 n3 ⊢
    have a3 : Same J2 (upd J2 o3 (.lst [.int 1])) := (Same.refl J2).new n3
    have v3 : upd J2 o3 (.lst [.int 1]) o3 = some (.lst [.int 1]) := upd_same
    generalize upd J2 o3 (.lst [.int 1]) = J3 at a3 v3 ⊢
    refine ⟨o3, 8, _, rfl, rfl, v3, by decide, by decide, (by show 8 ≤ sizeLine; decide), fun o4 n4 => ?_⟩
    rw [show (List.replicate (Int.toNat 8) [V.int 1]).flatten = [.int 1, .int 1, .int 1, .int 1, .int 1, .int 1, .int 1, .int 1] from rfl]
    have a4 : Same J3 (upd J3 o4 (.lst [.int 1, .int 1, .int 1, .int 1, .int 1, .int 1, .int 1, .int 1])) := (Same.refl J3).new n4
    have v4 : upd J3 o4 (.lst [.int 1, .int 1, .int 1, .int 1, .int 1, .int 1, .int 1, .int 1]) o4 = some (.lst [.int 1, .int 1, .int 1, .int 1, .int 1, .int 1, .int 1, .int 1]) := upd_same
    generalize upd J3 o4 (.lst [.int 1, .int 1, .int 1, .int 1, .int 1, .int 1, .int 1, .int 1]) = J4 at a4 v4 ⊢
    refine ⟨(by show 2 ≤ sizeLine; decide), fun o5 n5 => ?_⟩
    have a5 : Same J4 (upd J4 o5 (.lst [.int 3, .int 0])) := (Same.refl J4).new n5
    have v5 : upd J4 o5 (.lst [.int 3, .int 0]) o5 = some (.lst [.int 3, .int 0]) := upd_same
    generalize upd J4 o5 (.lst [.int 3, .int 0]) = J5 at a5 v5 ⊢
    refine ⟨1, rfl, (by show 2 ≤ sizeLine; decide), fun o6 n6 => ?_⟩
    have a6 : Same J5 (upd J5 o6 (.lst [.int 3, .int (-1)])) := (Same.refl J5).new n6
    have v6 : upd J5 o6 (.lst [.int 3, .int (-1)]) o6 = some (.lst [.int 3, .int (-1)]) := upd_same
    generalize upd J5 o6 (.lst [.int 3, .int (-1)]) = J6 at a6 v6 ⊢
    refine ⟨(by show 2 ≤ sizeLine; decide), fun o7 n7 => ?_⟩
    have a7 : Same J6 (upd J6 o7 (.lst [.int 3, .bl true])) := (Same.refl J6).new n7
    have v7 : upd J6 o7 (.lst [.int 3, .bl true]) o7 = some (.lst [.int 3, .bl true]) := upd_same
    generalize upd J6 o7 (.lst [.int 3, .bl true]) = J7 at a7 v7 ⊢
    refine ⟨(by show 2 ≤ sizeLine; decide), fun o8 n8 => ?_⟩
    have a8 : Same J7 (upd J7 o8 (.lst [.int 2, .int 1000001])) := (Same.refl J7).new n8
    have v8 : upd J7 o8 (.lst [.int 2, .int 1000001]) o8 = some (.lst [.int 2, .int 1000001]) := upd_same
    generalize upd J7 o8 (.lst [.int 2, .int 1000001]) = J8 at a8 v8 ⊢
    refine ⟨(by show 2 ≤ sizeLine; decide), fun o9 n9 => ?_⟩
    have a9 : Same J8 (upd J8 o9 (.lst [.int 3, .str "2"])) := (Same.refl J8).new n9
    have v9 : upd J8 o9 (.lst [.int 3, .str "2"]) o9 = some (.lst [.int 3, .str "2"]) := upd_same
    generalize upd J8 o9 (.lst [.int 3, .str "2"]) = J9 at a9 v9 ⊢
    refine fun o10 n10 => ⟨upd_same, [((Sum.inl 3 : Key), V.int 2)], rfl, (by decide), ?_⟩
    have a10 : Same J9 (upd (upd J9 o10 (.dK [])) o10 (.dK (mergeK [] [((Sum.inl 3 : Key), V.int 2)]))) := fun b o q => by
      rw [upd_ne (ne_of_none q n10), upd_ne (ne_of_none q n10)]
      exact q
    have v10 : upd (upd J9 o10 (.dK [])) o10 (.dK (mergeK [] [((Sum.inl 3 : Key), V.int 2)])) o10 = some (.dK (mergeK [] [((Sum.inl 3 : Key), V.int 2)])) := upd_same
    generalize upd (upd J9 o10 (.dK [])) o10 (.dK (mergeK [] [((Sum.inl 3 : Key), V.int 2)])) = J10 at a10 v10 ⊢
    refine ⟨(by show 3 ≤ sizeLine; decide), fun o11 n11 => ?_⟩
    have a11 : Same J10 (upd J10 o11 (.lst [.int 3, .int 2, .int 2])) := (Same.refl J10).new n11
    have v11 : upd J10 o11 (.lst [.int 3, .int 2, .int 2]) o11 = some (.lst [.int 3, .int 2, .int 2]) := upd_same
    generalize upd J10 o11 (.lst [.int 3, .int 2, .int 2]) = J11 at a11 v11 ⊢
    refine madeL2 (ls := [3, 2, 2]) v11 (by decide) (by decide) (fun x hx => by simp only [List.mem_cons, List.not_mem_nil, or_false] at hx; omega) fun o12 J12 ring a12 n12 => ⟨rfl, ?_⟩
    obtain ⟨dx, tt, v12, _⟩ := id ring
    refine ⟨(by show 13 ≤ sizeLine; decide), fun o13 n13 => ?_⟩
    have a13 : Same J12 (upd J12 o13 (.lst [.non, .int 5, .str "3 2 2", .ref o1, .ref o2, .ref o4, .ref o5, .ref o6, .ref o7, .ref o8, .ref o9, .ref o10, .ref o12])) := (Same.refl J12).new n13
    have v13 : upd J12 o13 (.lst [.non, .int 5, .str "3 2 2", .ref o1, .ref o2, .ref o4, .ref o5, .ref o6, .ref o7, .ref o8, .ref o9, .ref o10, .ref o12]) o13 = some (.lst [.non, .int 5, .str "3 2 2", .ref o1, .ref o2, .ref o4, .ref o5, .ref o6, .ref o7, .ref o8, .ref o9, .ref o10, .ref o12]) := upd_same
    generalize upd J12 o13 (.lst [.non, .int 5, .str "3 2 2", .ref o1, .ref o2, .ref o4, .ref o5, .ref o6, .ref o7, .ref o8, .ref o9, .ref o10, .ref o12]) = J13 at a13 v13 ⊢
    have b12 : Same J12 J13 := a13
    have b11 : Same J11 J13 := a12.trans b12
    have b10 : Same J10 J13 := a11.trans b11
    have b9 : Same J9 J13 := a10.trans b10
    have b8 : Same J8 J13 := a9.trans b9
    have b7 : Same J7 J13 := a8.trans b8
    have b6 : Same J6 J13 := a7.trans b7
    have b5 : Same J5 J13 := a6.trans b6
    have b4 : Same J4 J13 := a5.trans b5
    have b3 : Same J3 J13 := a4.trans b4
    have b2 : Same J2 J13 := a3.trans b3
    have b1 : Same J1 J13 := a2.trans b2
    have b0 : Same H J13 := a1.trans b1
    have f1 := a1
    have f2 := f1.trans a2
    have f3 := f2.trans a3
    have f4 := f3.trans a4
    have f5 := f4.trans a5
    have f6 := f5.trans a6
    have f7 := f6.trans a7
    have f8 := f7.trans a8
    have f9 := f8.trans a9
    have f10 := f9.trans a10
    have f11 := f10.trans a11
    have f12 := f11.trans a12
    have f13 := f12.trans a13
    have p1 := pen.ne n1
    have p2 := pen.ne (f1.free n2)
    have p4 := pen.ne (f3.free n4)
    have p5 := pen.ne (f4.free n5)
    have p6 := pen.ne (f5.free n6)
    have p7 := pen.ne (f6.free n7)
    have p8 := pen.ne (f7.free n8)
    have p9 := pen.ne (f8.free n9)
    have p10 := pen.ne (f9.free n10)
    have p12 := pen.ne (f11.free n12)
    have p13 := pen.ne (f12.free n13)
    have pen13 := pen.same b0
    have tab13 := tab.ext b0
    refine ⟨p, o13, e, _, n, rfl, SqL.of v13, p13, (by show 1 ≤ 13; decide), (by show 13 ≤ 1000; decide), by omega, pen13, fun i v H14 hv b14 pen14 => ?_⟩
    obtain ⟨px, hpx⟩ := pen13.some
    have tab14 := tabs_but tab13 b14 hpx
    have kp14 : Kp p H H14 := ((Kp.refl p H).same b0).but b14
    have bad14 : BadL C H14 v := by
      have hm := List.mem_of_getElem? hv
      simp only [List.mem_cons, List.not_mem_nil, or_false] at hm
      rcases hm with rfl | rfl | rfl | rfl | rfl | rfl | rfl | rfl | rfl | rfl | rfl | rfl | rfl
      · exact .inl rfl
      · exact .inr (.inl rfl)
      · exact .inr (.inr (.inl ⟨_, rfl⟩))
      · exact .inr (.inr (.inr (.inl ⟨o1, _, rfl, b14 _ _ p1 (b1 _ _ v1), by decide, by decide +kernel, by decide +kernel⟩)))
      · exact .inr (.inr (.inr (.inl ⟨o2, _, rfl, b14 _ _ p2 (b2 _ _ v2), by decide, by decide +kernel, by decide +kernel⟩)))
      · exact .inr (.inr (.inr (.inl ⟨o4, _, rfl, b14 _ _ p4 (b4 _ _ v4), by decide, by decide +kernel, by decide +kernel⟩)))
      · exact .inr (.inr (.inr (.inl ⟨o5, _, rfl, b14 _ _ p5 (b5 _ _ v5), by decide, by decide +kernel, by decide +kernel⟩)))
      · exact .inr (.inr (.inr (.inl ⟨o6, _, rfl, b14 _ _ p6 (b6 _ _ v6), by decide, by decide +kernel, by decide +kernel⟩)))
      · exact .inr (.inr (.inr (.inl ⟨o7, _, rfl, b14 _ _ p7 (b7 _ _ v7), by decide, by decide +kernel, by decide +kernel⟩)))
      · exact .inr (.inr (.inr (.inl ⟨o8, _, rfl, b14 _ _ p8 (b8 _ _ v8), by decide, by decide +kernel, by decide +kernel⟩)))
      · exact .inr (.inr (.inr (.inl ⟨o9, _, rfl, b14 _ _ p9 (b9 _ _ v9), by decide, by decide +kernel, by decide +kernel⟩)))
      · exact .inr (.inr (.inr (.inr (.inl ⟨o10, _, rfl, b14 _ _ p10 (b10 _ _ v10)⟩))))
      · exact .inr (.inr (.inr (.inr (.inr ⟨o12, dx, _, rfl, b14 _ _ p12 (b12 _ _ v12)⟩))))
    have hl14 := b14 _ _ nlp (b0 _ _ hl)
    have hfo14 := b14 _ _ nfp (b0 _ _ hfo)
    -- gaps
    refine ⟨_, rfl, fo, rfl, ⟨_, SqL.of hfo14⟩, fun D hD => ?_⟩
    refine lc_list (K := K) (a := fo) (xs := W.map V.int) (fun j H' => Same H14 H' ∧ ∃ gs : List Int, H' D = some (.lst (gs.map V.int)) ∧ (∀ g ∈ gs, g ∉ W) ∧ gs.length ≤ j ∧ ∀ z ∈ W.take j, z + 1 ∉ W → gs ≠ []) ⟨(Same.refl H14).new hD, [], upd_same, (fun g hg => nomatch hg), Nat.le_refl _, fun z hz => nomatch hz⟩ (fun j H' _ q => q.1.seq (SqL.of hfo14)) ?_ ?_
    · rintro j y H' hj ⟨s15, gs, h15, g1, g2, g3⟩
      obtain ⟨z, hz, rfl⟩ := int_at hj
      have hjl : j < W.length := (List.getElem?_eq_some_iff.mp hz).1
      refine ⟨rfl, _, rfl, _, _, rfl, rfl, _, rfl, fo, _, rfl, .inl (SqL.of (s15 _ _ hfo14)), rfl, flat_ints _, _, rfl, ?_⟩
      have eb : inV (.int (z + 1)) (W.map V.int) = decide (z + 1 ∈ W) := by
        rw [inV_int, Bool.eq_iff_iff, List.any_eq_true, decide_eq_true_eq]
        exact ⟨fun ⟨y, hy, q⟩ => by rw [← of_decide_eq_true q]; exact hy, fun m => ⟨_, m, decide_eq_true rfl⟩⟩
      show (if (!inV (.int (z + 1)) (W.map V.int)) = true then _ else _)
      rw [eb]
      by_cases c : z + 1 ∈ W
      · rw [decide_eq_true c]
        refine iteF ⟨s15, gs, h15, g1, by omega, fun y hy ny => ?_⟩
        rw [← take_snoc hz] at hy
        rcases List.mem_append.mp hy with m | m
        · exact g3 y m ny
        · rw [List.mem_singleton.mp m] at ny
          exact absurd c ny
      · rw [decide_eq_false c]
        refine iteT ⟨_, rfl, _, _, rfl, rfl, _, h15, by rw [List.length_map]; exact sm (by omega), s15.mut hD, gs ++ [z + 1], ?_, fun g hg => ?_, by rw [List.length_append]; exact Nat.succ_le_succ g2, fun _ _ _ q => ?_⟩
        · rw [upd_same, List.map_append]
          rfl
        · rcases List.mem_append.mp hg with m | m
          · exact g1 g m
          · rw [List.mem_singleton.mp m]
            exact c
        · exact absurd q (by simp)
    rintro H15 ⟨s15, gs, h15, g1, g2, g3⟩
    rw [List.length_map, List.take_length] at g3
    rw [List.length_map] at g2
    have gne : gs ≠ [] := by
      have s := bd.sum.1
      obtain ⟨j, _, hj⟩ := iw.top bd (by omega)
      refine g3 ls.sum (List.mem_of_getElem? hj) fun m => ?_
      obtain ⟨_, k, hk, g⟩ := (iw.mem _).mp m
      have := gap_top bd hk
      omega
    obtain ⟨g0, hg0⟩ : ∃ g0, gs[0]? = some g0 := ⟨_, List.getElem?_eq_getElem (List.length_pos_iff.mpr gne)⟩
    have atg : atI (gs.map V.int) 0 = some (.int g0) := at_of (j := 0) rfl (by rw [List.getElem?_map, hg0]; rfl)
    have hfo15 := s15 _ _ hfo14
    have hl15 := s15 _ _ hl14
    have Dp15 : D ≠ p := pen14.ne hD
    -- no wall
    have lg : w0.natAbs.log2 < 1920 := by
      obtain ⟨w1, k, hk, g⟩ := (iw.mem _).mp (List.mem_of_getElem? hw0)
      have t1 := gap_top bd hk
      have t2 := bd.sum.2
      have t3 : w0.natAbs < 2 ^ 23 := by omega
      have t4 : w0.natAbs ≠ 0 := by omega
      exact (Nat.log2_lt t4).mpr (Nat.lt_of_lt_of_le t3 (Nat.pow_le_pow_right (by decide) (by decide)))
    refine ⟨_, rfl, _, rfl, fo, _, _, _, rfl, rfl, SqL.of hfo15, at0, w0, rfl, _, rfl, fo, _, _, _, rfl, rfl, SqL.of hfo15, at0, w0, rfl, lg, _, rfl, fo, _, _, _, rfl, rfl, SqL.of hfo15, at0, (by show 1 ≤ sizeLine; decide), fun q1 nq1 => ?_⟩
    have c1 : Same H15 (upd H15 q1 (.lst [.int w0])) := (Same.refl H15).new nq1
    have u1 : upd H15 q1 (.lst [.int w0]) q1 = some (.lst [.int w0]) := upd_same
    generalize upd H15 q1 (.lst [.int w0]) = H16 at c1 u1 ⊢
    refine ⟨_, rfl, fo, _, _, _, rfl, rfl, SqL.of (c1 _ _ hfo15), at0, (by show 1 ≤ sizeLine; decide), fun q2 nq2 => ?_⟩
    have c2 : Same H16 (upd H16 q2 (.tup [.int w0])) := (Same.refl H16).new nq2
    have u2 : upd H16 q2 (.tup [.int w0]) q2 = some (.tup [.int w0]) := upd_same
    generalize upd H16 q2 (.tup [.int w0]) = H17 at c2 u2 ⊢
    have c12 := c1.trans c2
    refine ⟨_, rfl, l, ls, rfl, SqL.of (c12 _ _ hl15), _, _, rfl, rfl, _, rfl, D, _, _, _, rfl, rfl, SqL.of (c12 _ _ h15), atg, (by show 9 ≤ sizeLine; decide), fun q3 nq3 => ?_⟩
    have c3 : Same H17 (upd H17 q3 (.lst [.non, .int 0, .int (-w0), .bl true, .str (toString w0), .ref q1, .ref q2, .int (ls.sum + 2), .int g0])) := (Same.refl H17).new nq3
    have u3 : upd H17 q3 (.lst [.non, .int 0, .int (-w0), .bl true, .str (toString w0), .ref q1, .ref q2, .int (ls.sum + 2), .int g0]) q3 = some (.lst [.non, .int 0, .int (-w0), .bl true, .str (toString w0), .ref q1, .ref q2, .int (ls.sum + 2), .int g0]) := upd_same
    generalize upd H17 q3 (.lst [.non, .int 0, .int (-w0), .bl true, .str (toString w0), .ref q1, .ref q2, .int (ls.sum + 2), .int g0]) = H18 at c3 u3 ⊢
    have c03 := (s15.trans c12).trans c3
    have pen18 := pen14.same c03
    have y1 := pen14.ne (s15.free nq1)
    have y2 := pen14.ne ((s15.trans c1).free nq2)
    have y3 := pen14.ne ((s15.trans c12).free nq3)
    refine ⟨p, q3, e, _, n + 1, rfl, SqL.of u3, y3, (by show 1 ≤ 9; decide), (by show 9 ≤ 1000; decide), by omega, pen18, fun i2 v2 H19 hv2 b19 pen19 => ?_⟩
    obtain ⟨px2, hpx2⟩ := pen18.some
    have tab19 := tabs_but (tab14.ext c03) b19 hpx2
    have kp19 : Kp p H H19 := (kp14.same c03).but b19
    have npv : v ≠ .ref p := fun z => by
      rw [z] at hv
      have hm := List.mem_of_getElem? hv
      simp only [List.mem_cons, List.not_mem_nil, or_false] at hm
      rcases hm with h | h | h | h | h | h | h | h | h | h | h | h | h
      · cases h
      · cases h
      · cases h
      · exact p1 (V.ref.inj h).symm
      · exact p2 (V.ref.inj h).symm
      · exact p4 (V.ref.inj h).symm
      · exact p5 (V.ref.inj h).symm
      · exact p6 (V.ref.inj h).symm
      · exact p7 (V.ref.inj h).symm
      · exact p8 (V.ref.inj h).symm
      · exact p9 (V.ref.inj h).symm
      · exact p10 (V.ref.inj h).symm
      · exact p12 (V.ref.inj h).symm
    have bad19 : BadL C H19 v := (bad14.ext (ExtN.of c03)).but npv b19
    have odd19 : BadW ls H19 v2 := by
      have hm := List.mem_of_getElem? hv2
      simp only [List.mem_cons, List.not_mem_nil, or_false] at hm
      rcases hm with rfl | rfl | rfl | rfl | rfl | rfl | rfl | rfl | rfl
      · exact .inl rfl
      · exact .inr (.inr (.inr (.inr ⟨0, rfl, fun z => absurd z.1 (by decide)⟩)))
      · refine .inr (.inr (.inr (.inr ⟨_, rfl, fun z => ?_⟩)))
        have := ((iw.mem _).mp (List.mem_of_getElem? hw0)).1
        omega
      · exact .inr (.inl ⟨_, rfl⟩)
      · exact .inr (.inr (.inl ⟨_, rfl⟩))
      · exact .inr (.inr (.inr (.inl ⟨q1, _, rfl, .inl (b19 _ _ y1 (c3 _ _ (c2 _ _ u1)))⟩)))
      · exact .inr (.inr (.inr (.inl ⟨q2, _, rfl, .inr (b19 _ _ y2 (c3 _ _ u2))⟩)))
      · refine .inr (.inr (.inr (.inr ⟨_, rfl, fun z => ?_⟩)))
        obtain ⟨_, k, hk, g⟩ := z
        have := gap_top bd hk
        omega
      · exact .inr (.inr (.inr (.inr ⟨_, rfl, fun z => g1 g0 (List.mem_of_getElem? hg0) ((iw.mem _).mpr z)⟩)))
    have hl19 := b19 _ _ nlp (c3 _ _ (c12 _ _ hl15))
    -- what is heard of walls
    refine hear tab19 (fun E' J Q' xJ tJ er => ⟨_, rfl, v, rfl, tJ, .inr ⟨(bad19.ext xJ).bad R KC, er.here tJ⟩⟩) fun M0 r0 xM0 tM0 hr0 => ⟨(by show 1 ≤ sizeLine; decide), fun hd nhd => ?_⟩
    have kpM := kp19.ext xM0
    have penM := pen19.ext xM0
    have d1 : Same M0 (upd M0 hd (.lst [.ref r0])) := (Same.refl M0).new nhd
    have hh1 : upd M0 hd (.lst [.ref r0]) hd = some (.lst [.ref r0]) := upd_same
    have nh : ∀ {a : Addr} {o : HO}, M0 a = some o → a ≠ hd := fun z => ne_of_none z nhd
    generalize upd M0 hd (.lst [.ref r0]) = M1 at d1 hh1 ⊢
    have x01 := xM0.trans (ExtN.of d1)
    have nbv : v ≠ .ref hd := (bad19.ext xM0).fresh nhd
    have nov : v2 ≠ .ref hd := (odd19.ext xM0).fresh nhd
    have nlh : l ≠ hd := nh (xM0 _ _ hl19 (fun _ z => nomatch z))
    have tM1 := tM0.ext d1
    -- of the lots of a wall
    refine ⟨_, rfl, .inl ⟨rfl, _, SqL.of hh1⟩, ?_⟩
    refine hear tM1 (fun E' J Q' xJ tJ er => ⟨_, rfl, _, rfl, v, v2, rfl, tJ, .inr (.inl ⟨((bad19.ext x01).ext xJ).bad R KC, er.here tJ⟩)⟩) fun M2 r2 xM2 tM2 hr2 => ?_
    have hh2 := xM2 _ _ hh1 (fun _ z => nomatch z)
    have hr02 := xM2 _ _ (d1 _ _ hr0) (fun _ z => nomatch z)
    have n0 : r0 ≠ hd := fun z => by
      rw [z, hh2] at hr02
      cases hr02
    have n2 : r2 ≠ hd := fun z => by
      rw [z, hh2] at hr2
      cases hr2
    refine ⟨hd, _, _, rfl, rfl, hh2, (by show 1 < sizeLine; decide), ?_⟩
    have kp3 : Kp p H (upd M2 hd (.lst ([.ref r0] ++ [.ref r2]))) := kpM.off nhd ((kpM.same d1).ext xM2)
    have pen3 : PenAt K (upd M2 hd (.lst ([.ref r0] ++ [.ref r2]))) p e (n + 2) := PenAt.off penM nhd ((penM.same d1).ext xM2)
    have b3 : But hd M2 (upd M2 hd (.lst ([.ref r0] ++ [.ref r2]))) := (But.refl hd M2).at
    have hh3 : upd M2 hd (.lst ([.ref r0] ++ [.ref r2])) hd = some (.lst [.ref r0, .ref r2]) := upd_same
    generalize upd M2 hd (.lst ([.ref r0] ++ [.ref r2])) = M3 at kp3 pen3 b3 hh3 ⊢
    have tM3 := tabs_but tM2 b3 hh2
    have odd3 : BadW ls M3 v2 := ((odd19.ext x01).ext xM2).but nov b3
    have hl3 := b3 _ _ nlh (xM2 _ _ (d1 _ _ (xM0 _ _ hl19 (fun _ z => nomatch z))) (fun _ z => nomatch z))
    have hr03 := b3 _ _ n0 hr02
    have hr23 := b3 _ _ n2 hr2
    -- and of one that is none
    refine ⟨_, rfl, .inl ⟨rfl, _, SqL.of hh3⟩, ?_⟩
    refine hear tM3 (fun E' J Q' xJ tJ er => ⟨_, rfl, _, rfl, .ref l, v2, rfl, tJ, .inr (.inr ⟨ls, ⟨l, rfl, .inl (xJ _ _ hl3 (fun _ z => nomatch z)), l2, l7, bd⟩, (odd3.ext xJ).bad, er⟩)⟩) fun M4 r4 xM4 tM4 hr4 => ?_
    have hh4 := xM4 _ _ hh3 (fun _ z => nomatch z)
    have hr04 := xM4 _ _ hr03 (fun _ z => nomatch z)
    have hr24 := xM4 _ _ hr23 (fun _ z => nomatch z)
    have n4 : r4 ≠ hd := fun z => by
      rw [z, hh4] at hr4
      cases hr4
    refine ⟨hd, _, _, rfl, rfl, hh4, (by show 2 < sizeLine; decide), ?_⟩
    have kp5 : Kp p H (upd M4 hd (.lst ([.ref r0, .ref r2] ++ [.ref r4]))) := kpM.off nhd (kp3.ext xM4)
    have pen5 : PenAt K (upd M4 hd (.lst ([.ref r0, .ref r2] ++ [.ref r4]))) p e (n + 2) := PenAt.off penM nhd (pen3.ext xM4)
    have b5 : But hd M4 (upd M4 hd (.lst ([.ref r0, .ref r2] ++ [.ref r4]))) := (But.refl hd M4).at
    have hh5 : upd M4 hd (.lst ([.ref r0, .ref r2] ++ [.ref r4])) hd = some (.lst [.ref r0, .ref r2, .ref r4]) := upd_same
    generalize upd M4 hd (.lst ([.ref r0, .ref r2] ++ [.ref r4])) = M5 at kp5 pen5 b5 hh5 ⊢
    have tM5 := tabs_but tM4 b5 hh4
    have hr05 := b5 _ _ n0 hr04
    have hr25 := b5 _ _ n2 hr24
    have hr45 := b5 _ _ n4 hr4
    refine ⟨_, rfl, (by show 2 ≤ sizeLine; decide), fun t1 nt1 => ⟨(by show 2 ≤ sizeLine; decide), fun t2 nt2 => ⟨(by show 2 ≤ sizeLine; decide), fun t3 nt3 => ⟨(by show 3 ≤ sizeLine; decide), fun t4 nt4 => ?_⟩⟩⟩⟩
    have w1 : Same M5 (upd M5 t1 (.tup [.str "ring", .str "lengths"])) := (Same.refl M5).new nt1
    have z1 : upd M5 t1 (.tup [.str "ring", .str "lengths"]) t1 = some (.tup [.str "ring", .str "lengths"]) := upd_same
    generalize upd M5 t1 (.tup [.str "ring", .str "lengths"]) = W1 at w1 z1 nt2 nt3 nt4 ⊢
    have w2 : Same W1 (upd W1 t2 (.tup [.str "ring", .str "lengths"])) := (Same.refl W1).new nt2
    have z2 : upd W1 t2 (.tup [.str "ring", .str "lengths"]) t2 = some (.tup [.str "ring", .str "lengths"]) := upd_same
    generalize upd W1 t2 (.tup [.str "ring", .str "lengths"]) = W2 at w2 z2 nt3 nt4 ⊢
    have w3 : Same W2 (upd W2 t3 (.tup [.str "number", .str "wall"])) := (Same.refl W2).new nt3
    have z3 : upd W2 t3 (.tup [.str "number", .str "wall"]) t3 = some (.tup [.str "number", .str "wall"]) := upd_same
    generalize upd W2 t3 (.tup [.str "number", .str "wall"]) = W3 at w3 z3 nt4 ⊢
    have w4 : Same W3 (upd W3 t4 (.lst [.ref t1, .ref t2, .ref t3])) := (Same.refl W3).new nt4
    have z4 : upd W3 t4 (.lst [.ref t1, .ref t2, .ref t3]) t4 = some (.lst [.ref t1, .ref t2, .ref t3]) := upd_same
    generalize upd W3 t4 (.lst [.ref t1, .ref t2, .ref t3]) = W4 at w4 z4 ⊢
    have w34 := w3.trans w4
    have w24 := w2.trans w34
    have w14 := w1.trans w24
    have td : ∀ {a : Addr} {x y : Str}, W4 a = some (.tup [.str x, .str y]) → Dp K W4 (.ref a) (.tuple [.str x, .str y]) := fun h => .tup (.inl (.inl h)) (.cons (.str _) (.cons (.str _) .nil))
    have sh : SeqAt.shaped (.list [.tuple [PyData.str "ring", PyData.str "lengths"], .tuple [PyData.str "ring", PyData.str "lengths"], .tuple [PyData.str "number", PyData.str "wall"]]) = true := by decide +kernel
    have eq : PyData.eqv (.list [.tuple [PyData.str "ring", PyData.str "lengths"], .tuple [PyData.str "ring", PyData.str "lengths"], .tuple [PyData.str "number", PyData.str "wall"]]) (.list [.tuple [PyData.str "ring", PyData.str "lengths"], .tuple [PyData.str "ring", PyData.str "lengths"], .tuple [PyData.str "number", PyData.str "wall"]]) = true := by decide +kernel
    refine ⟨_, _, .lst (SqL.of (w14 _ _ hh5)) (.cons (td (w14 _ _ hr05)) (.cons (td (w14 _ _ hr25)) (.cons (td (w14 _ _ hr45)) .nil))), .lst (SqL.of z4) (.cons (td (w24 _ _ z1)) (.cons (td (w34 _ _ z2)) (.cons (td (w4 _ _ z3)) .nil))), sh, sh, ?_⟩
    rw [eq]
    exact q W4 (kp5.same w14) (pen5.same w14) (tM5.ext w14)
end
end K
namespace K
open PySem L2 Rg LamX
open Evl (pss_cut)
theorem eqvT (l : List Int) : PyData.eqv (.tuple (l.map PyData.int)) (.tuple (l.map PyData.int)) = true := by
  have := eqvA_ints l l
  simp [PyData.eqv, this]
theorem eqvL (l : List Int) : PyData.eqv (.list (l.map PyData.int)) (.list (l.map PyData.int)) = true := by
  have := eqvA_ints l l
  simp [PyData.eqv, this]
theorem all_get (ls : List Int) : (List.range ls.length).map ((fun b : Int => ls.getD b.toNat 0) ∘ fun j : Nat => (j : Int)) = ls := by
  refine List.ext_getElem? fun j => ?_
  rw [List.getElem?_map]
  by_cases c : j < ls.length
  · rw [List.getElem?_range c, List.getElem?_eq_getElem c]
    show some (ls.getD ((j : Int)).toNat 0) = _
    rw [Int.toNat_natCast, List.getD_eq_getElem?_getD, List.getElem?_eq_getElem c]
    rfl
  · have h1 : ls[j]? = none := List.getElem?_eq_none (by omega)
    have h2 : (List.range ls.length)[j]? = none := List.getElem?_eq_none (by rw [List.length_range]; omega)
    rw [h1, h2]
    rfl
abbrev gK1 {α : Type} : List α → List α → List α := fun us ws => match us, ws with
  | [], [b] => [b]
  | _, _ => []
section
variable {P : Program} {w : World} {K : PySem.W.Frag} {mg : Str → Option Value} {base : Heap}
def spWsC (K : PySem.W.Frag) (T : List (Addr × Str)) : Sp := fun vs H Q _ => ∃ (v : V) (ls : List Int), vs = [v] ∧ GoodT H v ls ∧ Tabs T H ∧ ∀ (p : Addr) (W : List Int) (H' : Hp), ExtN H H' → Tabs T H' → H' p = some (.tup (W.map V.int)) → IsW ls W → Q (.ref p) H'
theorem ok_wsC {cR f : Addr} {fd : FuncData} {T : List (Addr × Str)} (F : FnOk P w K mg base (L2.CX P w) 6 f fd ["lengths"] (spWs K cR T)) : FnOk P w K mg base CX0 6 f fd ["lengths"] (spWsC K T) :=
  (fn_calm F).imp fun vs H Q E ⟨v, ls, hv, g, tab, q⟩ => ⟨v, hv, tab, .inl ⟨ls, g, q⟩⟩
abbrev nLaw : List Str := ["_law_script", "_law_reel_here", "_law_lap", "_law_lengths_here", "_law_found", "_law_held", "_law_told", "_law_times", "_law_shut", "_law_at", "_law_length"]
theorem scLaw : FnScope nLaw ["_law_script"] (defScope sLaw) := ⟨rfl, rfl, rfl, by decide +kernel, rfl, by decide +kernel, by decide +kernel⟩
def spLaw (K : PySem.W.Frag) (P1 P2 : Addr) : Sp := fun vs H Q _ => ∃ (a : Addr) (ns : List Int), vs = [.ref a] ∧ SqL K H a (ns.map V.int) ∧ ns.length ≤ 63 ∧ Tabs (T2 P1 P2) H ∧ ∀ H', Q (.bl true) H'
theorem ok_law {P1 P2 f fP fL fK fD fS fW fO fR fX : Addr} {fd fdP fdL fdK fdD fdS fdW fdO fdR fdX : FuncData} {g1 : List Value → List Value → List Value} (F : Fun K "law" "law" sLaw f fd) (T : Bi mg) (B2 : Bi2 mg)
    (PN : DefAt P w K mg base CX0 2 "_law_reel" ["_law_script"] (spPen K) fP fdP) (LN : DefAt P w K mg base CX0 3 "_law_lengths" ["_law_reel_here", "_law_many"] (spLengths K) fL fdL) (PK : DefAt P w K mg base CX0 3 "_law_pick" ["_law_reel_here", "_law_some"] (spPick K) fK fdK)
    (D : DrawAt P w K mg base fD fdD) (SM : DefAt P w K mg base CX0 2 "_law_sums" ["_law_lengths_here"] (spSums K) fS fdS) (WS : DefAt P w K mg base CX0 6 "walls" ["lengths"] (spWsC K (T2 P1 P2)) fW fdW) (K1 : KBinds K fdW ["lengths"] ["lengths"] g1 gK1)
    (OD : DefAt P w K mg base CX0 3 "_law_order" ["_law_reel_here", "_law_many"] (spOrder K) fO fdO) (LR : DefAt P w K mg base CX0 9 "_law_lots_right" ["_law_lengths_here", "_law_shut"] (spLR K (T2 P1 P2)) fR fdR)
    (RR : DefAt P w K mg base CX0 10 "_law_refused_right" ["_law_reel_here", "_law_lengths_here", "_law_found"] (spRR K (T2 P1 P2)) fX fdX) : FnOk P w K mg base CX0 11 f fd ["_law_script"] (spLaw K P1 P2) := by
  refine F.ok scLaw (fun vs H Q E h => ?_) (fun cdv A outer s H vs Q E hr h => ?_)
  · obtain ⟨a, ns, rfl, _⟩ := h
    rfl
  · have nd := scLaw.nd
    refine ⟨_, (pss_cons (ps_set (i := 1) nd rfl (Or.inl rfl) (pe_call PN.ok (hr.mono (by decide)) rfl PN.g PN.kp PN.b .nil pass0 (pa_cons (pv 0) pa_nil)))
      (pss_cons (ps_for PassesOwn.never rfl (pi_range1 (by rfl) T.range (pa_cons pe_int pa_nil)) (pg_name (i := 2) nd rfl (Or.inl rfl))
        (pss_cons (ps_set (i := 3) nd rfl (Or.inr rfl) (pe_call LN.ok (hr.mono (by decide)) rfl LN.g LN.kp LN.b .nil pass0 (pa_cons (pv 1) (pa_cons (pe_call PK.ok (hr.mono (by decide)) rfl PK.g PK.kp PK.b .nil pass0 (pa_cons (pv 1) (pa_cons (pe_lst (pa_cons pe_int (pa_cons pe_int (pa_cons pe_int (pa_cons pe_int (pa_cons pe_int (pa_cons pe_int (pa_cons pe_int (pa_cons pe_int pa_nil))))))))) pa_nil))) pa_nil))))
        (pss_cons (ps_par (i := 4) (j := 5) (by rfl) nd rfl rfl (by decide) rfl rfl (pa_cons (pe_call SM.ok (hr.mono (by decide)) rfl SM.g SM.kp SM.b .nil pass0 (pa_cons (pv 3) pa_nil)) (pa_cons (pe_callTy call_list_of (by rfl) T.list (by decide +kernel) (pa_cons (pv 3) pa_nil)) pa_nil)) (by rfl))
        (pss_cons (ps_set (i := 6) nd rfl (Or.inl rfl) (pe_call WS.ok (hr.mono (by decide)) rfl WS.g WS.kp WS.b .nil pass0 (pa_cons (pv 3) pa_nil)))
        (pss_cons (ps_if (PW.pt (pw_or (pt_cmpR (op_neD hr.units) (pv 6) (pe_callTy call_tuple_of (by rfl) T.tuple (by decide +kernel) (pa_cons (pv 4) pa_nil)) (nomark _)) (pw_or (pt_cmpR (op_neD hr.units) (pe_callK0 WS.ok (hr.mono (by decide)) rfl WS.g WS.kp K1 pass0 (pk_cons (pe_callTy call_tuple_of (by rfl) T.tuple (by decide +kernel) (pa_cons (pv 3) pa_nil)) pk_nil)) (pv 6) (nomark _)) (pw_or1 (pt_cmpR (op_neD hr.units) (pv 3) (pv 5) (nomark _)))))) (pss_one ps_never) pss_nil)
        (pss_cons (ps_if (PW.pt (pw_or (pt_cmpR op_ne (pe_callB cr_lenSetO (by rfl) T.len PySem.boot_len (pa_cons (pe_callTy (cr_setL rfl) (by rfl) B2.set (by decide +kernel) (pa_cons (pe_lc (own := [("_law_shut", 8)]) (g := gName 8) (tt := tYes) rfl nd (pi_tup (pv 6))
            (blkOk_by (N := nLaw) (sc := defScope sLaw) (by decide +kernel)) (fun _ _ _ _ _ => pg_name (i := 8) nd rfl (Or.inl rfl)) (fun _ _ _ _ _ => pts_nil) (fun _ _ _ _ _ => pe_op op_mod (pe_callTy call_int1 (by rfl) T.int (by decide +kernel) (pa_cons (pv 8) pa_nil)) pe_int)) pa_nil)) pa_nil)) pe_int (nomark _))
          (pw_or (pt_cmpR op_ne (pe_ix (r := rIxT K) ix_tup (pv 6) (pe_un un_neg pe_int) (fun _ _ => rfl)) (pe_callB (cr_sum rfl) (by rfl) T.sum (by decide +kernel) (pa_cons (pv 3) pa_nil)) (nomark _))
          (pw_or1 (pt_cmpR (op_neD hr.units) (pe_lc (own := [("_law_shut", 8)]) (g := gName 8) (tt := tB (tCB (rIsi K) (tCons (tVar 8) (tCons (tC (.ty "bool")) tNil)))) (te := tVar 8) rfl nd (pi_tup (pv 6))
            (blkOk_by (N := nLaw) (sc := defScope sLaw) (by decide +kernel)) (fun _ _ _ _ _ => pg_name (i := 8) nd rfl (Or.inl rfl)) (fun _ _ _ _ _ => pts_one (pt_val (pe_callB call_isi (by rfl) T.isinstance (by decide +kernel) (pa_cons (pv 8) (pa_cons (pe_bltn (v := .ty "bool") (u := .type "bool") (by rfl) T.bool (by decide +kernel) rfl) pa_nil))))) (fun _ _ _ _ _ => pv 8)) (pe_lst pa_nil) (nomark _)))))) (pss_one ps_never) pss_nil)
        (pss_cons (ps_if (pt_cmpR (op_neD hr.units) (pe_call WS.ok (hr.mono (by decide)) rfl WS.g WS.kp WS.b .nil pass0 (pa_cons (pe_lc (own := [("_law_at", 9)]) (g := gName 9) (tt := tYes) (te := tOp (rIxL K) (tVar 3) (tVar 9)) rfl nd (pi_list (pe_call OD.ok (hr.mono (by decide)) rfl OD.g OD.kp OD.b .nil pass0 (pa_cons (pv 1) (pa_cons (pe_callB call_len_seq (by rfl) T.len PySem.boot_len (pa_cons (pv 3) pa_nil)) pa_nil))))
            (blkOk_by (N := nLaw) (sc := defScope sLaw) (by decide +kernel)) (fun _ _ _ _ _ => pg_name (i := 9) nd rfl (Or.inl rfl)) (fun _ _ _ _ _ => pts_nil) (fun _ _ _ _ _ => pe_ix (r := rIxL K) ix_list (pv 3) (pv 9) (fun _ _ => rfl))) pa_nil)) (pv 6) (nomark _)) (pss_one ps_never) pss_nil)
        (pss_cons (ps_set (i := 7) nd rfl (Or.inr rfl) (pe_op op_add pe_int (pe_call D.ok (hr.mono (by decide)) rfl D.g D.kp D.b .nil pass0 (pa_cons (pv 1) (pa_cons pe_int pa_nil)))))
        (pss_cut (ps_if (PW.pt (pw_and (pt_cmpR op_le (pe_op op_mul (pe_callB (cr_max rfl) (by rfl) T.max (by decide +kernel) (pa_cons (pv 3) pa_nil)) (pv 7)) pe_int (nomark _))
          (pw_and1 (pt_cmpR (op_neD hr.units) (pe_call WS.ok (hr.mono (by decide)) rfl WS.g WS.kp WS.b .nil pass0 (pa_cons (pe_lc (own := [("_law_length", 10)]) (g := gName 10) (tt := tYes) rfl nd (pi_list (pv 3))
            (blkOk_by (N := nLaw) (sc := defScope sLaw) (by decide +kernel)) (fun _ _ _ _ _ => pg_name (i := 10) nd rfl (Or.inl rfl)) (fun _ _ _ _ _ => pts_nil) (fun _ _ _ _ _ => pe_op op_mul (pv 10) (pv 7))) pa_nil))
            (pe_callTy call_tuple_of (by rfl) T.tuple (by decide +kernel) (pa_cons (pe_lc (own := [("_law_shut", 8)]) (g := gName 8) (tt := tYes) rfl nd (pi_tup (pv 6))
            (blkOk_by (N := nLaw) (sc := defScope sLaw) (by decide +kernel)) (fun _ _ _ _ _ => pg_name (i := 8) nd rfl (Or.inl rfl)) (fun _ _ _ _ _ => pts_nil) (fun _ _ _ _ _ => pe_op op_mul (pv 8) (pv 7))) pa_nil)) (nomark _))))) (pss_one ps_never) pss_nil)
        (pss_cons (ps_if (PW.pt (pw_or (pt_not (pt_val (pe_call LR.ok (hr.mono (by decide)) rfl LR.g LR.kp LR.b .nil pass0 (pa_cons (pv 3) (pa_cons (pe_call PK.ok (hr.mono (by decide)) rfl PK.g PK.kp PK.b .nil pass0 (pa_cons (pv 1) (pa_cons (pv 4) pa_nil))) pa_nil))))) (pw_or1 (pt_not (pt_val (pe_call LR.ok (hr.mono (by decide)) rfl LR.g LR.kp LR.b .nil pass0 (pa_cons (pv 3) (pa_cons (pe_ix ix_list (pv 4) pe_int (fun _ _ => rfl)) pa_nil)))))))) (pss_one ps_never) pss_nil)
        (pss_one (ps_if (pt_not (pt_val (pe_call RR.ok hr rfl RR.g RR.kp RR.b .nil pass0 (pa_cons (pv 1) (pa_cons (pv 3) (pa_cons (pv 4) pa_nil)))))) (pss_one ps_never) pss_nil))))))))))))
      (pss_one (ps_ret pe_bl)))), ?_⟩
    obtain ⟨a, ns, rfl, hs, hl, tab, q⟩ := h
    refine ⟨_, rfl, a, ns, rfl, hs, hl, fun p e H1 s1 np pen1 => ?_⟩
    have tab1 := tab.ext s1
    refine ⟨_, rfl, by decide, by decide, ?_⟩
    refine for_range (lo := 0) (n := (2 : Int).toNat) (fun i σ H' => ∃ z2 z3 z4 z5 z6 z7 : Option V, σ = [some (.ref a), some (.ref p), z2, z3, z4, z5, z6, z7, none, none, none] ∧ PenAt K H' p e (i * 40) ∧ Tabs (T2 P1 P2) H') ⟨none, none, none, none, none, none, rfl, by simpa using pen1, tab1⟩ ?_ ?_
    rotate_left
    · rintro σ H2 _
      exact q _
    rintro i σ H1 hi ⟨z2, z3, z4, z5, z6, z7, rfl, pen1, tab1⟩
    have hi2 : i < 2 := hi
    -- the lengths
    refine ⟨_, rfl, _, rfl, (by show 8 ≤ sizeLine; decide), fun u0 nu0 => ?_⟩
    have pu1 := pen1.put nu0 (o := .lst [.int 3, .int 4, .int 5, .int 2, .int 6, .int 3, .int 4, .int 7])
    have tu1 := tab1.ext ((Same.refl H1).new nu0 (o := .lst [.int 3, .int 4, .int 5, .int 2, .int 6, .int 3, .int 4, .int 7]))
    refine ⟨p, u0, e, _, i * 40, rfl, SqL.of upd_same, (pen1.ne nu0), (by show 1 ≤ 8; decide), (by show 8 ≤ 1000; decide), by omega, pu1, fun i0 v0 H2 hv0 b2 pen2 => ?_⟩
    obtain ⟨px1, hpx1⟩ := pu1.some
    have tab2 := tabs_but tu1 b2 hpx1
    have hvm : ∃ m : Nat, v0 = .int (m : Nat) ∧ 2 ≤ m ∧ m ≤ 7 := by
      have hm := List.mem_of_getElem? hv0
      simp only [List.mem_cons, List.not_mem_nil, or_false] at hm
      rcases hm with z | z | z | z | z | z | z | z
      · exact ⟨3, z, by decide, by decide⟩
      · exact ⟨4, z, by decide, by decide⟩
      · exact ⟨5, z, by decide, by decide⟩
      · exact ⟨2, z, by decide, by decide⟩
      · exact ⟨6, z, by decide, by decide⟩
      · exact ⟨3, z, by decide, by decide⟩
      · exact ⟨4, z, by decide, by decide⟩
      · exact ⟨7, z, by decide, by decide⟩
    obtain ⟨m, rfl, m2, m7⟩ := hvm
    refine ⟨p, e, m, _, rfl, by omega, by omega, pen2, fun l ls H3 ll bd nl b3 hl3 pen3 => ?_⟩
    obtain ⟨px2, hpx2⟩ := pen2.some
    have tab3 := tabs_but tab2 b3 hpx2
    have lp : l ≠ p := pen2.ne nl
    have l2 : 2 ≤ ls.length := by omega
    have l7 : ls.length ≤ 7 := by omega
    have sp : 0 < ls.sum := by have := bd.sum.1; omega
    -- found, held
    refine ⟨_, rfl, l, ls, rfl, hl3, l7, fun fo W H4 s4 nfo hfo iw w128 => ?_⟩
    have hl4 := s4 _ _ hl3
    refine ⟨_, rfl, l, _, rfl, .inl (SqL.of hl4), fun he nhe => ?_⟩
    have s5 : Same H4 (upd H4 he (.lst (ls.map V.int))) := (Same.refl H4).new nhe
    have hhe : upd H4 he (.lst (ls.map V.int)) he = some (.lst (ls.map V.int)) := upd_same
    generalize upd H4 he (.lst (ls.map V.int)) = H5 at s5 hhe ⊢
    have s35 := s4.trans s5
    have hl5 := s5 _ _ hl4
    have hfo5 := s5 _ _ hfo
    have pen5 := pen3.same s35
    have tab5 := tab3.ext s35
    have nfp : fo ≠ p := pen3.ne nfo
    refine ⟨_, _, rfl, ?_⟩
    -- told
    refine ⟨_, rfl, .ref l, ls, rfl, ⟨l, rfl, .inl hl5, l2, l7, bd⟩, tab5, fun t W' H6 e6 tab6 ht6 iw' => ?_⟩
    obtain rfl := iw'.uniq iw
    have hl6 := e6 _ _ hl5 (fun _ z => nomatch z)
    have hfo6 := e6 _ _ hfo5 (fun _ z => nomatch z)
    have hhe6 := e6 _ _ hhe (fun _ z => nomatch z)
    have pen6 := pen5.ext e6
    -- told as found
    refine ⟨_, rfl, _, rfl, fo, _, rfl, .inl ⟨SqL.of hfo6, fun u1 nu1 => ?_⟩⟩
    have s7 : Same H6 (upd H6 u1 (.tup (W'.map V.int))) := (Same.refl H6).new nu1
    have hu1 : upd H6 u1 (.tup (W'.map V.int)) u1 = some (.tup (W'.map V.int)) := upd_same
    generalize upd H6 u1 (.tup (W'.map V.int)) = H7 at s7 hu1 ⊢
    have ht7 := s7 _ _ ht6
    refine ⟨_, _, .tup (.inl (.inl ht7)) (dp_ints _), .tup (.inl (.inl hu1)) (dp_ints _), sh_tup _, sh_tup _, _, rfl, iteBF (by rw [eqvT]; rfl) ?_⟩
    have hl7 := s7 _ _ hl6
    refine ⟨_, rfl, l, _, rfl, .inl ⟨SqL.of hl7, fun u2 nu2 => ?_⟩⟩
    have s8 : Same H7 (upd H7 u2 (.tup (ls.map V.int))) := (Same.refl H7).new nu2
    have hu2 : upd H7 u2 (.tup (ls.map V.int)) u2 = some (.tup (ls.map V.int)) := upd_same
    generalize upd H7 u2 (.tup (ls.map V.int)) = H8 at s8 hu2 ⊢
    have tab8 := (tab6.ext s7).ext s8
    refine ⟨.ref u2, ls, rfl, ⟨u2, rfl, .inr hu2, l2, l7, bd⟩, tab8, fun t2 W2 H9 e9 tab9 ht9 iw2 => ?_⟩
    obtain rfl := iw2.uniq iw
    have e69 := (ExtN.of (s7.trans s8)).trans e9
    have ht69 := e69 _ _ ht6 (fun _ z => nomatch z)
    refine ⟨_, rfl, _, _, .tup (.inl (.inl ht9)) (dp_ints _), .tup (.inl (.inl ht69)) (dp_ints _), sh_tup _, sh_tup _, _, rfl, iteBF (by rw [eqvT]; rfl) ?_⟩
    have hl9 := e69 _ _ hl6 (fun _ z => nomatch z)
    have hhe9 := e69 _ _ hhe6 (fun _ z => nomatch z)
    have hfo9 := e69 _ _ hfo6 (fun _ z => nomatch z)
    have pen9 := pen6.ext e69
    refine ⟨_, rfl, _, rfl, _, _, .lst (SqL.of hl9) (dp_ints _), .lst (SqL.of hhe9) (dp_ints _), shaped_ints _, shaped_ints _, _, rfl, iteBF (by rw [eqvL]; rfl) ?_⟩
    -- one parity
    obtain ⟨j0, hj0, hj1⟩ := iw.top bd sp
    have w0 : 0 < W2.length := by omega
    refine ⟨_, rfl, t, rfl, ⟨_, .inl (.inl ht69)⟩, fun D10 hD10 => ?_⟩
    refine lc_tup (K := K) (a := t) (xs := W2.map V.int) (fun j H' => Same H9 H' ∧ H' D10 = some (.lst (((W2.take j).map fun z => z % 2).map V.int))) ⟨(Same.refl H9).new hD10, upd_same⟩ (fun j H' _ q => .inl (.inl (q.1 _ _ ht69))) ?_ ?_
    · rintro j y H' hj ⟨s10, h10⟩
      obtain ⟨z, hz, rfl⟩ := int_at hj
      have hjl : j < W2.length := (List.getElem?_eq_some_iff.mp hz).1
      refine ⟨rfl, _, rfl, .inl ⟨z, rfl, z, 2, rfl, rfl, (by show (0 : Int) < 2; decide), _, h10, by rw [List.length_map, List.length_map, List.length_take]; exact sm (by omega), s10.mut hD10, ?_⟩⟩
      rw [upd_same, ← take_snoc hz, List.map_append, List.map_append]
      rfl
    rintro H10 ⟨s10, h10⟩
    rw [List.length_map, List.take_length] at h10
    refine ⟨D10, _, rfl, SqL.of h10, by rw [List.length_map]; omega, fun q0 ks knd kmem kle nq0 => ⟨q0, _, _, rfl, upd_same, by rw [List.length_map] at kle; omega, ?_⟩⟩
    have k1 : ks.length = 1 := by
      have e0 : ∀ k ∈ ks, k = ls.sum % 2 := fun k hk => by
        obtain ⟨z, hz, rfl⟩ := List.mem_map.mp ((kmem k).mp hk)
        exact iw.par hz
      have e1 : ls.sum % 2 ∈ ks := (kmem _).mpr (List.mem_map.mpr ⟨_, List.mem_of_getElem? hj1, rfl⟩)
      cases ks with
      | nil => cases e1
      | cons x xs =>
        cases xs with
        | nil => rfl
        | cons y ys =>
          have h1 := (List.nodup_cons.mp knd).1
          rw [e0 x (List.mem_cons_self ..), ← e0 y (List.mem_cons_of_mem _ (List.mem_cons_self ..))] at h1
          exact absurd (List.mem_cons_self ..) h1
    rw [k1]
    have s11 : Same H9 (upd H10 q0 (SetO w q0 (fun j => decide (j ∈ W2.map fun z => z % 2)) 1)) := s10.new nq0
    rw [show (cxOf CX0 P w K mg base nLaw "law" (defScope sLaw) f cdv A outer s H E).nox.w = w from rfl]
    generalize upd H10 q0 (SetO w q0 (fun j => decide (j ∈ W2.map fun z => z % 2)) 1) = H11 at s11 ⊢
    refine ⟨rfl, _, rfl, iteBF (ne_vv _) ?_⟩
    have hl11 := s11 _ _ hl9
    have ht11 := s11 _ _ ht69
    have atl : atI (W2.map V.int) (-1) = some (.int ls.sum) := at_back (by rw [List.length_map]; exact w0) (by rw [List.length_map, show W2.length - 1 = j0 by omega, List.getElem?_map, hj1]; rfl)
    refine ⟨_, rfl, 1, rfl, t, _, _, _, rfl, rfl, .inl (.inl ht11), atl, _, rfl, l, ls, rfl, SqL.of hl11, rfl, _, rfl, iteBF (ne_vv _) ?_⟩
    -- no truth values
    refine ⟨_, rfl, t, rfl, ⟨_, .inl (.inl ht11)⟩, fun D12 hD12 => ?_⟩
    refine lc_tup (K := K) (a := t) (xs := W2.map V.int) (fun j H' => Same H11 H' ∧ H' D12 = some (.lst [])) ⟨(Same.refl H11).new hD12, upd_same⟩ (fun j H' _ q => .inl (.inl (q.1 _ _ ht11))) ?_ ?_
    · rintro j y H' hj ⟨s12, h12⟩
      obtain ⟨z, hz, rfl⟩ := int_at hj
      exact ⟨rfl, _, rfl, V.int z, .ty "bool", _, _, _, rfl, .ty _, .base (.int z), kit_ty (kit_bool "int" (by decide)), _, rfl, iteF ⟨s12, h12⟩⟩
    rintro H12 ⟨s12, h12⟩
    refine ⟨(by show 0 ≤ sizeLine; decide), fun u3 nu3 => ?_⟩
    have s13 : Same H12 (upd H12 u3 (.lst [])) := (Same.refl H12).new nu3
    have hu3 : upd H12 u3 (.lst []) u3 = some (.lst []) := upd_same
    generalize upd H12 u3 (.lst []) = H13 at s13 hu3 ⊢
    refine ⟨_, _, .lst (SqL.of (s13 _ _ h12)) .nil, .lst (SqL.of hu3) .nil, shaped_nil, shaped_nil, _, rfl, iteBF (by decide +kernel) ?_⟩
    have s913 := (s11.trans s12).trans s13
    have tab13 := tab9.ext s913
    have pen13 := pen9.same s913
    have hl13 := s913 _ _ hl9
    have ht13 := s913 _ _ ht69
    have hfo13 := s913 _ _ hfo9
    have tp : t ≠ p := fun z => by
      obtain ⟨px, hpx⟩ := pen13.some
      rw [z, hpx] at ht13
      cases ht13
    -- in another order
    refine ⟨_, rfl, _, rfl, l, _, rfl, .inl (SqL.of hl13), ?_⟩
    rw [List.length_map]
    refine ⟨p, e, ls.length, _, rfl, by omega, ?_, pen13, fun o os H14 pmo b14 no14 ho14 pen14 => ⟨o, rfl, ⟨_, SqL.of ho14⟩, fun D15 hD15 => ?_⟩⟩
    · omega
    obtain ⟨px3, hpx3⟩ := pen13.some
    have tab14 := tabs_but tab13 b14 hpx3
    have hl14 := b14 _ _ lp hl13
    have ht14 := b14 _ _ tp ht13
    have hfo14 := b14 _ _ nfp hfo13
    have osl : os.length = ls.length := by rw [pmo.length_eq, List.length_map, List.length_range]
    have osin : ∀ z ∈ os, 0 ≤ z ∧ z < ls.length := fun z hz => by
      obtain ⟨j, hj, rfl⟩ := List.mem_map.mp (pmo.mem_iff.mp hz)
      have := List.mem_range.mp hj
      omega
    refine lc_list (K := K) (a := o) (xs := os.map V.int) (fun j H' => Same H14 H' ∧ H' D15 = some (.lst (((os.take j).map fun b => ls.getD b.toNat 0).map V.int))) ⟨(Same.refl H14).new hD15, upd_same⟩ (fun j H' _ q => q.1.seq (SqL.of ho14)) ?_ ?_
    · rintro j y H' hj ⟨s15, h15⟩
      obtain ⟨z, hz, rfl⟩ := int_at hj
      have hjl : j < os.length := (List.getElem?_eq_some_iff.mp hz).1
      have zi := osin z (List.mem_of_getElem? hz)
      refine ⟨rfl, _, rfl, _, rfl, l, _, _, _, rfl, rfl, SqL.of (s15 _ _ hl14), get_z zi.1 zi.2, _, h15, by rw [List.length_map, List.length_map, List.length_take]; exact sm (by omega), s15.mut hD15, ?_⟩
      rw [upd_same, lsum_take hz, List.map_append]
      rfl
    rintro H15 ⟨s15, h15⟩
    rw [List.length_map, List.take_length] at h15
    obtain ⟨ms, hms⟩ : ∃ ms, ms = os.map fun b => ls.getD b.toNat 0 := ⟨_, rfl⟩
    rw [← hms] at h15
    have msp : ms.Perm ls := by
      rw [hms]
      refine (pmo.map _).trans (List.Perm.of_eq ?_)
      rw [List.map_map]
      exact all_get ls
    have tab15 := tab14.ext s15
    refine ⟨.ref D15, ms, rfl, ⟨D15, rfl, .inl h15, by rw [msp.length_eq]; exact l2, by rw [msp.length_eq]; exact l7, fun z hz => bd z (msp.mem_iff.mp hz)⟩, tab15, fun t3 W3 H16 e16 tab16 ht16 iw3 => ?_⟩
    obtain rfl := iw3.uniq (iw.perm msp.symm)
    have ht16' := e16 _ _ (s15 _ _ ht14) (fun _ z => nomatch z)
    refine ⟨_, rfl, _, _, .tup (.inl (.inl ht16)) (dp_ints _), .tup (.inl (.inl ht16')) (dp_ints _), sh_tup _, sh_tup _, _, rfl, iteBF (by rw [eqvT]; rfl) ?_⟩
    have e1416 := (ExtN.of s15).trans e16
    have pen16 := pen14.ext e1416
    have hl16 := e1416 _ _ hl14 (fun _ z => nomatch z)
    have hfo16 := e1416 _ _ hfo14 (fun _ z => nomatch z)
    -- times
    refine ⟨_, rfl, p, e, 5, _, rfl, by decide, by decide, ?_, pen16, fun r H17 r0 r1 b17 pen17 => ⟨_, _, rfl, rfl, ?_⟩⟩
    · omega
    obtain ⟨px4, hpx4⟩ := pen16.some
    have tab17 := tabs_but tab16 b17 hpx4
    have hl17 := b17 _ _ lp hl16
    have ht17 := b17 _ _ tp ht16'
    have hfo17 := b17 _ _ nfp hfo16
    show gName 7 (V.int (1 + r)) _ _ _
    generalize htm : 1 + r = tm
    refine ⟨fun σ' H' => σ' = [some (.ref a), some (.ref p), some (.int (0 + (i : Int))), some (.ref l), some (.ref fo), some (.ref he), some (.ref t), some (.int tm), none, none, none] ∧ ExtN H17 H' ∧ Tabs (T2 P1 P2) H', ?_, ?_⟩
    · refine ⟨_, rfl, l, ls, rfl, SqL.of hl17, by omega, fun mx mxm mxl => ⟨_, rfl, _, _, rfl, rfl, .inr ⟨by omega, by omega⟩, _, _, rfl, rfl, _, rfl, ?_⟩⟩
      by_cases c : mx * tm ≤ 1000000
      · refine iteDT c ?_
        refine ⟨_, rfl, l, rfl, ⟨_, SqL.of hl17⟩, fun D18 hD18 => ?_⟩
        refine lc_list (K := K) (a := l) (xs := ls.map V.int) (fun j H' => Same H17 H' ∧ H' D18 = some (.lst (((ls.take j).map fun z => z * tm).map V.int))) ⟨(Same.refl H17).new hD18, upd_same⟩ (fun j H' _ q => q.1.seq (SqL.of hl17)) ?_ ?_
        · rintro j y H' hj ⟨s18, h18⟩
          obtain ⟨z, hz, rfl⟩ := int_at hj
          have hjl : j < ls.length := (List.getElem?_eq_some_iff.mp hz).1
          refine ⟨rfl, _, rfl, _, rfl, z, tm, rfl, rfl, .inr ⟨by omega, by omega⟩, _, h18, by rw [List.length_map, List.length_map, List.length_take]; exact sm (by omega), s18.mut hD18, ?_⟩
          rw [upd_same, ← take_snoc hz, List.map_append, List.map_append]
          rfl
        rintro H18 ⟨s18, h18⟩
        rw [List.length_map, List.take_length] at h18
        have bd18 : Bd 1000000 (ls.map fun z => z * tm) := fun y hy => by
          obtain ⟨z, hz, rfl⟩ := List.mem_map.mp hy
          have z1 := (bd z hz).1
          have m1 := Int.mul_le_mul_of_nonneg_right (mxl z hz) (show 0 ≤ tm by omega)
          have m2 := Int.mul_le_mul_of_nonneg_right z1 (show 0 ≤ tm by omega)
          constructor <;> omega
        have tab18 := tab17.ext s18
        refine ⟨.ref D18, _, rfl, ⟨D18, rfl, .inl h18, by rw [List.length_map]; exact l2, by rw [List.length_map]; exact l7, bd18⟩, tab18, fun t4 W4 H19 e19 tab19 ht19 iw4 => ?_⟩
        have ew := iw4.uniq (iw.mul (show 0 < tm by omega))
        subst ew
        have ht19' := e19 _ _ (s18 _ _ ht17) (fun _ z => nomatch z)
        refine ⟨_, rfl, t, rfl, ⟨_, .inl (.inl ht19')⟩, fun D20 hD20 => ?_⟩
        refine lc_tup (K := K) (a := t) (xs := W3.map V.int) (fun j H' => Same H19 H' ∧ H' D20 = some (.lst (((W3.take j).map fun z => z * tm).map V.int))) ⟨(Same.refl H19).new hD20, upd_same⟩ (fun j H' _ q => .inl (.inl (q.1 _ _ ht19'))) ?_ ?_
        · rintro j y H' hj ⟨s20, h20⟩
          obtain ⟨z, hz, rfl⟩ := int_at hj
          have hjl : j < W3.length := (List.getElem?_eq_some_iff.mp hz).1
          refine ⟨rfl, _, rfl, _, rfl, z, tm, rfl, rfl, .inr ⟨by omega, by omega⟩, _, h20, by rw [List.length_map, List.length_map, List.length_take]; exact sm (by omega), s20.mut hD20, ?_⟩
          rw [upd_same, ← take_snoc hz, List.map_append, List.map_append]
          rfl
        rintro H20 ⟨s20, h20⟩
        rw [List.length_map, List.take_length] at h20
        refine ⟨D20, _, rfl, .inl ⟨SqL.of h20, fun u5 nu5 => ?_⟩⟩
        have s21 : Same H19 (upd H20 u5 (.tup ((W3.map fun z => z * tm).map V.int))) := s20.new nu5
        have hu5 : upd H20 u5 (.tup ((W3.map fun z => z * tm).map V.int)) u5 = some (.tup ((W3.map fun z => z * tm).map V.int)) := upd_same
        generalize upd H20 u5 (.tup ((W3.map fun z => z * tm).map V.int)) = H21 at s21 hu5 ⊢
        exact ⟨_, _, .tup (.inl (.inl (s21 _ _ ht19))) (dp_ints _), .tup (.inl (.inl hu5)) (dp_ints _), sh_tup _, sh_tup _, _, rfl, iteBF (by rw [eqvT]; rfl) ⟨rfl, (ExtN.of s18).trans (e19.trans (ExtN.of s21)), tab19.ext s21⟩⟩
      · exact iteDF c (iteF ⟨rfl, ExtN.of (Same.refl H17), tab17⟩)
    rintro σ' H20 ⟨rfl, e20, tab20⟩
    have hl20 := e20 _ _ hl17 (fun _ z => nomatch z)
    have hfo20 := e20 _ _ hfo17 (fun _ z => nomatch z)
    have pen20 := pen17.ext e20
    obtain ⟨x0, hx0⟩ : ∃ x0, W3[0]? = some x0 := ⟨_, List.getElem?_eq_getElem w0⟩
    have at0 : atI (W3.map V.int) 0 = some (.int x0) := at_of (j := 0) rfl (by rw [List.getElem?_map, hx0]; rfl)
    -- the lots of two walls
    refine ⟨_, rfl, _, rfl, _, rfl, p, fo, e, _, _, rfl, SqL.of hfo20, nfp, by rw [List.length_map]; omega, by rw [List.length_map]; omega, ?_, pen20, fun i1 v1 H21 hv1 b21 pen21 => ?_⟩
    · omega
    obtain ⟨px5, hpx5⟩ := pen20.some
    have tab21 := tabs_but tab20 b21 hpx5
    have hl21 := b21 _ _ lp hl20
    have hfo21 := b21 _ _ nfp hfo20
    obtain ⟨x1, hx1, rfl⟩ := int_at hv1
    refine ⟨l, ls, x1, rfl, hl21, l2, l7, bd, (iw.mem x1).mp (List.mem_of_getElem? hx1), tab21, fun H22 e22 tab22 => ⟨_, rfl, iteF ?_⟩⟩
    have hl22 := e22 _ _ hl21 (fun _ z => nomatch z)
    have hfo22 := e22 _ _ hfo21 (fun _ z => nomatch z)
    refine ⟨_, rfl, _, rfl, fo, _, _, _, rfl, rfl, SqL.of hfo22, at0, l, ls, x0, rfl, hl22, l2, l7, bd, (iw.mem x0).mp (List.mem_of_getElem? hx0), tab22, fun H23 e23 tab23 => ⟨_, rfl, iteF ?_⟩⟩
    have pen23 := (pen21.ext e22).ext e23
    have hl23 := e23 _ _ hl22 (fun _ z => nomatch z)
    have hfo23 := e23 _ _ hfo22 (fun _ z => nomatch z)
    -- what is refused
    refine ⟨_, rfl, _, rfl, _, rfl, p, l, fo, e, _, ls, W3, rfl, hl23, lp, hfo23, nfp, l2, l7, bd, iw, w128, ?_, pen23, tab23, fun H24 kp24 pen24 tab24 => ⟨_, rfl, iteF ⟨_, _, _, _, _, _, rfl, pen24.mono ?_, tab24⟩⟩⟩
    · omega
    · omega
end
end K
namespace K
open PySem L2 Rg LamX
theorem kb_one {K : PySem.W.Frag} {fd : FuncData} (h : ∀ (b : Value) (s : Shared), BindsTo s fd ⟨[], [("lengths", b)]⟩ [("lengths", b)]) : KBinds K fd ["lengths"] ["lengths"] gK1 gK1 := by
  refine ⟨fun s us ws _ hl => ?_, fun {vs us zs ws} r1 r2 => ?_⟩
  · match us, ws, hl with
    | [], [b], _ => exact h b s
  · cases r1 with
    | nil =>
      cases r2 with
      | nil => exact .nil
      | cons x t =>
        cases t with
        | nil => exact .cons x .nil
        | cons _ _ => exact .nil
    | cons _ _ => exact .nil
theorem kb_lw {K : PySem.W.Frag} {fd : FuncData} (h : ∀ (b c : Value) (s : Shared), BindsTo s fd ⟨[], [("wall", b), ("lengths", c)]⟩ [("lengths", c), ("wall", b)]) : KBinds K fd ["lengths", "wall"] ["wall", "lengths"] gKW gKW := by
  refine ⟨fun s us ws _ hl => ?_, fun {vs us zs ws} r1 r2 => ?_⟩
  · match us, ws, hl with
    | [], [b, c], _ => exact h b c s
  · cases r1 with
    | nil =>
      cases r2 with
      | nil => exact .nil
      | cons x t =>
        cases t with
        | nil => exact .nil
        | cons y t2 =>
          cases t2 with
          | nil => exact .cons y (.cons x .nil)
          | cons _ _ => exact .nil
    | cons _ _ => exact .nil
section
variable {P : Program} {w : World} {K : PySem.W.Frag} {mg : Str → Option Value} {base : Heap}
theorem scBadRing : FnScope ["self", "part"] ["self", "part"] (defScope sBadRingInit) := ⟨rfl, rfl, rfl, by decide +kernel, rfl, by decide +kernel, by decide +kernel⟩
theorem ok_badRingI {f : Addr} {fd : FuncData} (F : Fun K "__init__" "BadRing.__init__" sBadRingInit f fd) : FnOk P w K mg base CX0 1 f fd ["self", "part"] (spIni K "part") := by
  refine F.ok scBadRing (fun vs H Q E h => ?_) (fun cdv A outer s H vs Q E hr h => ?_)
  · obtain ⟨a, C, v, rfl, _⟩ := h
    rfl
  · refine ⟨_, pss_one (ps_ost (pv 0) (pv 1)), ?_⟩
    obtain ⟨a, C, v, rfl, o, n, ha, k⟩ := h
    exact ⟨_, rfl, _, rfl, a, C, rfl, o, n, .inl ⟨ha, fun d h1 h2 => k d h1 h2⟩⟩
theorem scBadNumber : FnScope ["self", "part"] ["self", "part"] (defScope sBadNumberInit) := ⟨rfl, rfl, rfl, by decide +kernel, rfl, by decide +kernel, by decide +kernel⟩
theorem ok_badNumberI {f : Addr} {fd : FuncData} (F : Fun K "__init__" "BadNumber.__init__" sBadNumberInit f fd) : FnOk P w K mg base CX0 1 f fd ["self", "part"] (spIni K "part") := by
  refine F.ok scBadNumber (fun vs H Q E h => ?_) (fun cdv A outer s H vs Q E hr h => ?_)
  · obtain ⟨a, C, v, rfl, _⟩ := h
    rfl
  · refine ⟨_, pss_one (ps_ost (pv 0) (pv 1)), ?_⟩
    obtain ⟨a, C, v, rfl, o, n, ha, k⟩ := h
    exact ⟨_, rfl, _, rfl, a, C, rfl, o, n, .inl ⟨ha, fun d h1 h2 => k d h1 h2⟩⟩
end
theorem code_hd {K : PySem.W.Frag} {c P : Addr} {o : Obj} (l : K.lookup c = some o) (h : PySem.W.codeHdIn [(c, o)] c P = true) : PySem.W.codeHdIn K c P = true := by
  have e : List.lookup c [(c, o)] = some o := by simp [List.lookup]
  unfold PySem.W.codeHdIn at h ⊢
  rw [e] at h
  rw [l]
  exact h
theorem lookup_out {K : PySem.W.Frag} {P : Addr} : ∀ {as : List Addr}, as = K.map (·.1) → P ∉ as → K.lookup P = none := by
  intro as e h
  subst e
  induction K with
  | nil => rfl
  | cons x r ih =>
    obtain ⟨a, o⟩ := x
    rw [List.map_cons, List.mem_cons, not_or] at h
    have hne : (P == a) = false := by simpa using h.1
    rw [List.lookup_cons, hne]
    exact ih h.2
theorem out_of {K : Params → PySem.W.Frag} {as : List Addr} {e : ∀ P, as = (K P).map (·.1)} {ts : List Addr} {w : World} {h : Heap} (_ : (PySem.W.kmHook K as e ts).says w h) {P : Addr} (hP : P ∉ as) : (K w.params).lookup P = none := lookup_out (e w.params) hP


theorem all_mk {l : PySem.W.OpenLaw} {w : World} {K : PySem.W.Frag} {h : Heap} {mg : Str → Option Value} {fa : Addr} (X : K.In h) (G : h.Ns mainGlobals mg) (hfa : mg "law" = some (.ref fa))
    {C eX eR eL eN eT eB f0 f1 f2 f3 f4 f5 f6 f7 f8 f9 f10 f11 f12 f13 f14 f15 f16 f17 cIO f18 f19 f20 f21 f22 f23 f24 f25 f26 f27 f28 f29 f30 f31 f32 f33 f34 f35 cRR f36 fm0 fm1 fm2 fm3 fm4 fm5 fm6 fm7 fm8 P1 P2 : Addr} {od0 an0 od1 an1 od2 an2 od3 an3 od4 an4 od5 an5 od6 an6 od7 an7 od8 an8 od9 an9 od10 an10 od11 an11 od12 an12 od13 an13 od14 an14 od15 an15 od16 an16 od17 an17 od18 an18 od19 an19 od20 an20 od21 an21 od22 an22 od23 an23 od24 an24 od25 an25 od26 an26 od27 an27 od28 an28 od29 an29 od30 an30 od31 an31 od32 an32 od33 an33 od34 an34 od35 an35 od36 an36 odm0 anm0 odm1 anm1 odm2 anm2 odm3 anm3 odm4 anm4 odm5 anm5 odm6 anm6 odm7 anm7 odm8 anm8 odc1 odc2 : Option Addr} {sl0 sl1 sl2 sl3 sl4 sl5 sl6 sl7 sl8 sl9 sl10 sl11 sl12 sl13 sl14 sl15 sl16 sl17 sl18 sl19 sl20 sl21 sl22 sl23 sl24 sl25 sl26 sl27 sl28 sl29 sl30 sl31 sl32 sl33 sl34 sl35 sl36 slm0 slm1 slm2 slm3 slm4 slm5 slm6 slm7 slm8 slc1 slc2 : Array (Option Value)} {oc0 kV0 dc0 pm0 ct0 cd0 oc1 kV1 dc1 pm1 ct1 cd1 oc2 kV2 dc2 pm2 ct2 cd2 oc3 kV3 dc3 pm3 ct3 cd3 oc4 kV4 dc4 pm4 ct4 cd4 oc5 kV5 dc5 pm5 ct5 cd5 oc6 kV6 dc6 pm6 ct6 cd6 oc7 kV7 dc7 pm7 ct7 cd7 oc8 kV8 dc8 pm8 ct8 cd8 oc9 kV9 dc9 pm9 ct9 cd9 oc10 kV10 dc10 pm10 ct10 cd10 oc11 kV11 dc11 pm11 ct11 cd11 oc12 kV12 dc12 pm12 ct12 cd12 oc13 kV13 dc13 pm13 ct13 cd13 oc14 kV14 dc14 pm14 ct14 cd14 oc15 kV15 dc15 pm15 ct15 cd15 oc16 kV16 dc16 pm16 ct16 cd16 oc17 kV17 dc17 pm17 ct17 oc18 kV18 dc18 pm18 ct18 cd18 oc19 kV19 dc19 pm19 ct19 cd19 oc20 kV20 dc20 pm20 ct20 cd20 oc21 kV21 dc21 pm21 ct21 cd21 oc22 kV22 dc22 pm22 ct22 cd22 oc23 kV23 dc23 pm23 ct23 cd23 oc24 kV24 dc24 pm24 ct24 cd24 oc25 kV25 dc25 pm25 ct25 cd25 oc26 kV26 dc26 pm26 ct26 cd26 oc27 kV27 dc27 pm27 ct27 cd27 oc28 kV28 dc28 pm28 ct28 cd28 oc29 kV29 dc29 pm29 ct29 cd29 oc30 kV30 dc30 pm30 ct30 cd30 oc31 kV31 dc31 pm31 ct31 cd31 oc32 kV32 dc32 pm32 ct32 cd32 oc33 kV33 dc33 pm33 ct33 cd33 oc34 kV34 dc34 pm34 ct34 cd34 oc35 kV35 dc35 pm35 ct35 oc36 kV36 dc36 pm36 ct36 cd36 ocm0 kVm0 dcm0 pmm0 ctm0 cdm0 ocm1 kVm1 dcm1 pmm1 ctm1 cdm1 ocm2 kVm2 dcm2 pmm2 ctm2 cdm2 ocm3 kVm3 dcm3 pmm3 ctm3 cdm3 ocm4 kVm4 dcm4 pmm4 ctm4 cdm4 ocm5 kVm5 dcm5 pmm5 ctm5 cdm5 ocm6 kVm6 dcm6 pmm6 ctm6 cdm6 ocm7 kVm7 dcm7 pmm7 ctm7 cdm7 ocm8 kVm8 dcm8 pmm8 ctm8 cdm8 : Value} {tkMOST_LENGTH tkLEAST_BARS tkMOST_BARS tkLEAST_TOLD tkMOST_TOLD : Tok} {vsc1 vsc2 : Array Value}
    {nmeR nmeL nmeN nmeT nmeB qqeR qqeL qqeN qqeT qqeB : Str} {NeR NeL NeN NeT NeB : Addr} {bseR bseL bseN bseT bseB : List Value} {bmeR bmeL bmeN bmeT bmeB : List Value} {sneR sneL sneN sneT sneB : List Str} {subeR subeL subeN subeT subeB : List Value} {abeR abeL abeN abeT abeB : Bool} {coleR coleL coleN coleT coleB : Option Bool} {ddeR ddeL ddeN ddeT ddeB : Option Addr} {k0eR k1eR k2eR k3eR k5eR k0eL k1eL k2eL k3eL k5eL k0eN k1eN k2eN k3eN k5eN k0eT k1eT k2eT k3eT k5eT k0eB k1eB k2eB k3eB k5eB : Option Value}
    (aC : PySem.W.nsIn K mainGlobals "Ring" = some (some (.ref C)))
    (aeX : PySem.W.nsIn K mainGlobals "RingError" = some (some (.ref eX)))
    (aeR : PySem.W.nsIn K mainGlobals "BadRing" = some (some (.ref eR)))
    (aeL : PySem.W.nsIn K mainGlobals "BadLot" = some (some (.ref eL)))
    (aeN : PySem.W.nsIn K mainGlobals "NoBar" = some (some (.ref eN)))
    (aeT : PySem.W.nsIn K mainGlobals "Twice" = some (some (.ref eT)))
    (aeB : PySem.W.nsIn K mainGlobals "BadNumber" = some (some (.ref eB)))
    (a0 : PySem.W.nsIn K mainGlobals "is_integer" = some (some (.ref f0)))
    (l0 : K.lookup f0 = some ⟨oc0, od0, .func (PySem.W.fnOf "is_integer" "is_integer" (defArgs sIsInteger) (defBody sIsInteger) (defScope sIsInteger) .none kV0 dc0 pm0 an0 cd0 ct0), sl0⟩)
    (c0 : PySem.W.codeIn K cd0 "is_integer" = true)
    (k0 : PySem.W.keepIn K (.ref f0) = true)
    (a1 : PySem.W.nsIn K mainGlobals "is_within" = some (some (.ref f1)))
    (l1 : K.lookup f1 = some ⟨oc1, od1, .func (PySem.W.fnOf "is_within" "is_within" (defArgs sIsWithin) (defBody sIsWithin) (defScope sIsWithin) .none kV1 dc1 pm1 an1 cd1 ct1), sl1⟩)
    (c1 : PySem.W.codeIn K cd1 "is_within" = true)
    (k1 : PySem.W.keepIn K (.ref f1) = true)
    (a2 : PySem.W.nsIn K mainGlobals "is_list" = some (some (.ref f2)))
    (l2 : K.lookup f2 = some ⟨oc2, od2, .func (PySem.W.fnOf "is_list" "is_list" (defArgs sIsList) (defBody sIsList) (defScope sIsList) .none kV2 dc2 pm2 an2 cd2 ct2), sl2⟩)
    (c2 : PySem.W.codeIn K cd2 "is_list" = true)
    (k2 : PySem.W.keepIn K (.ref f2) = true)
    (a3 : PySem.W.nsIn K mainGlobals "is_numbers" = some (some (.ref f3)))
    (l3 : K.lookup f3 = some ⟨oc3, od3, .func (PySem.W.fnOf "is_numbers" "is_numbers" (defArgs sIsNumbers) (defBody sIsNumbers) (defScope sIsNumbers) .none kV3 dc3 pm3 an3 cd3 ct3), sl3⟩)
    (c3 : PySem.W.codeIn K cd3 "is_numbers" = true)
    (k3 : PySem.W.keepIn K (.ref f3) = true)
    (a4 : PySem.W.nsIn K mainGlobals "fixed" = some (some (.ref f4)))
    (l4 : K.lookup f4 = some ⟨oc4, od4, .func (PySem.W.fnOf "fixed" "fixed" (defArgs sFixed) (defBody sFixed) (defScope sFixed) .none kV4 dc4 pm4 an4 cd4 ct4), sl4⟩)
    (c4 : PySem.W.codeIn K cd4 "fixed" = true)
    (k4 : PySem.W.keepIn K (.ref f4) = true)
    (a5 : PySem.W.nsIn K mainGlobals "first_twice" = some (some (.ref f5)))
    (l5 : K.lookup f5 = some ⟨oc5, od5, .func (PySem.W.fnOf "first_twice" "first_twice" (defArgs sFirstTwice) (defBody sFirstTwice) (defScope sFirstTwice) .none kV5 dc5 pm5 an5 cd5 ct5), sl5⟩)
    (c5 : PySem.W.codeIn K cd5 "first_twice" = true)
    (k5 : PySem.W.keepIn K (.ref f5) = true)
    (a6 : PySem.W.nsIn K mainGlobals "twice_at" = some (some (.ref f6)))
    (l6 : K.lookup f6 = some ⟨oc6, od6, .func (PySem.W.fnOf "twice_at" "twice_at" (defArgs sTwiceAt) (defBody sTwiceAt) (defScope sTwiceAt) .none kV6 dc6 pm6 an6 cd6 ct6), sl6⟩)
    (c6 : PySem.W.codeIn K cd6 "twice_at" = true)
    (k6 : PySem.W.keepIn K (.ref f6) = true)
    (a7 : PySem.W.nsIn K mainGlobals "want_number" = some (some (.ref f7)))
    (l7 : K.lookup f7 = some ⟨oc7, od7, .func (PySem.W.fnOf "want_number" "want_number" (defArgs sWantNumber) (defBody sWantNumber) (defScope sWantNumber) .none kV7 dc7 pm7 an7 cd7 ct7), sl7⟩)
    (c7 : PySem.W.codeIn K cd7 "want_number" = true)
    (k7 : PySem.W.keepIn K (.ref f7) = true)
    (a8 : PySem.W.nsIn K mainGlobals "want_bar" = some (some (.ref f8)))
    (l8 : K.lookup f8 = some ⟨oc8, od8, .func (PySem.W.fnOf "want_bar" "want_bar" (defArgs sWantBar) (defBody sWantBar) (defScope sWantBar) .none kV8 dc8 pm8 an8 cd8 ct8), sl8⟩)
    (c8 : PySem.W.codeIn K cd8 "want_bar" = true)
    (k8 : PySem.W.keepIn K (.ref f8) = true)
    (a9 : PySem.W.nsIn K mainGlobals "want_lot" = some (some (.ref f9)))
    (l9 : K.lookup f9 = some ⟨oc9, od9, .func (PySem.W.fnOf "want_lot" "want_lot" (defArgs sWantLot) (defBody sWantLot) (defScope sWantLot) .none kV9 dc9 pm9 an9 cd9 ct9), sl9⟩)
    (c9 : PySem.W.codeIn K cd9 "want_lot" = true)
    (k9 : PySem.W.keepIn K (.ref f9) = true)
    (a10 : PySem.W.nsIn K mainGlobals "sort_by" = some (some (.ref f10)))
    (l10 : K.lookup f10 = some ⟨oc10, od10, .func (PySem.W.fnOf "sort_by" "sort_by" (defArgs sSortBy) (defBody sSortBy) (defScope sSortBy) .none kV10 dc10 pm10 an10 cd10 ct10), sl10⟩)
    (c10 : PySem.W.codeIn K cd10 "sort_by" = true)
    (k10 : PySem.W.keepIn K (.ref f10) = true)
    (a11 : PySem.W.nsIn K mainGlobals "excess_of" = some (some (.ref f11)))
    (l11 : K.lookup f11 = some ⟨oc11, od11, .func (PySem.W.fnOf "excess_of" "excess_of" (defArgs sExcessOf) (defBody sExcessOf) (defScope sExcessOf) .none kV11 dc11 pm11 an11 cd11 ct11), sl11⟩)
    (c11 : PySem.W.codeIn K cd11 "excess_of" = true)
    (k11 : PySem.W.keepIn K (.ref f11) = true)
    (a12 : PySem.W.nsIn K mainGlobals "are_lengths" = some (some (.ref f12)))
    (l12 : K.lookup f12 = some ⟨oc12, od12, .func (PySem.W.fnOf "are_lengths" "are_lengths" (defArgs sAreLengths) (defBody sAreLengths) (defScope sAreLengths) .none kV12 dc12 pm12 an12 cd12 ct12), sl12⟩)
    (c12 : PySem.W.codeIn K cd12 "are_lengths" = true)
    (k12 : PySem.W.keepIn K (.ref f12) = true)
    (a13 : PySem.W.nsIn K mainGlobals "has_level" = some (some (.ref f13)))
    (l13 : K.lookup f13 = some ⟨oc13, od13, .func (PySem.W.fnOf "has_level" "has_level" (defArgs sHasLevel) (defBody sHasLevel) (defScope sHasLevel) .none kV13 dc13 pm13 an13 cd13 ct13), sl13⟩)
    (c13 : PySem.W.codeIn K cd13 "has_level" = true)
    (k13 : PySem.W.keepIn K (.ref f13) = true)
    (a14 : PySem.W.nsIn K mainGlobals "want_ring" = some (some (.ref f14)))
    (l14 : K.lookup f14 = some ⟨oc14, od14, .func (PySem.W.fnOf "want_ring" "want_ring" (defArgs sWantRing) (defBody sWantRing) (defScope sWantRing) .none kV14 dc14 pm14 an14 cd14 ct14), sl14⟩)
    (c14 : PySem.W.codeIn K cd14 "want_ring" = true)
    (k14 : PySem.W.keepIn K (.ref f14) = true)
    (a15 : PySem.W.nsIn K mainGlobals "lots_of" = some (some (.ref f15)))
    (l15 : K.lookup f15 = some ⟨oc15, od15, .func (PySem.W.fnOf "lots_of" "lots_of" (defArgs sLotsOf) (defBody sLotsOf) (defScope sLotsOf) .none kV15 dc15 pm15 an15 cd15 ct15), sl15⟩)
    (c15 : PySem.W.codeIn K cd15 "lots_of" = true)
    (k15 : PySem.W.keepIn K (.ref f15) = true)
    (a16 : PySem.W.nsIn K mainGlobals "level_lots" = some (some (.ref f16)))
    (l16 : K.lookup f16 = some ⟨oc16, od16, .func (PySem.W.fnOf "level_lots" "level_lots" (defArgs sLevelLots) (defBody sLevelLots) (defScope sLevelLots) .none kV16 dc16 pm16 an16 cd16 ct16), sl16⟩)
    (c16 : PySem.W.codeIn K cd16 "level_lots" = true)
    (k16 : PySem.W.keepIn K (.ref f16) = true)
    (a17 : PySem.W.nsIn K mainGlobals "in_order" = some (some (.ref f17)))
    (l17 : K.lookup f17 = some ⟨oc17, od17, .func (PySem.W.fnOf "in_order" "in_order" (defArgs sInOrder) (defBody sInOrder) (defScope sInOrder) .none kV17 dc17 pm17 an17 (.ref cIO) ct17), sl17⟩)
    (c17 : PySem.W.codeIn K (.ref cIO) "in_order" = true)
    (k17 : PySem.W.keepIn K (.ref f17) = true)
    (a18 : PySem.W.nsIn K mainGlobals "lots_by_sort" = some (some (.ref f18)))
    (l18 : K.lookup f18 = some ⟨oc18, od18, .func (PySem.W.fnOf "lots_by_sort" "lots_by_sort" (defArgs sLotsBySort) (defBody sLotsBySort) (defScope sLotsBySort) .none kV18 dc18 pm18 an18 cd18 ct18), sl18⟩)
    (c18 : PySem.W.codeIn K cd18 "lots_by_sort" = true)
    (k18 : PySem.W.keepIn K (.ref f18) = true)
    (a19 : PySem.W.nsIn K mainGlobals "walls" = some (some (.ref f19)))
    (l19 : K.lookup f19 = some ⟨oc19, od19, .func (PySem.W.fnOf "walls" "walls" (defArgs sWalls) (defBody sWalls) (defScope sWalls) .none kV19 dc19 pm19 an19 cd19 ct19), sl19⟩)
    (c19 : PySem.W.codeIn K cd19 "walls" = true)
    (k19 : PySem.W.keepIn K (.ref f19) = true)
    (a20 : PySem.W.nsIn K mainGlobals "wall_lots" = some (some (.ref f20)))
    (l20 : K.lookup f20 = some ⟨oc20, od20, .func (PySem.W.fnOf "wall_lots" "wall_lots" (defArgs sWallLots) (defBody sWallLots) (defScope sWallLots) .none kV20 dc20 pm20 an20 cd20 ct20), sl20⟩)
    (c20 : PySem.W.codeIn K cd20 "wall_lots" = true)
    (k20 : PySem.W.keepIn K (.ref f20) = true)
    (a21 : PySem.W.nsIn K mainGlobals "walls_of" = some (some (.ref f21)))
    (l21 : K.lookup f21 = some ⟨oc21, od21, .func (PySem.W.fnOf "walls_of" "walls_of" (defArgs sWallsOf) (defBody sWallsOf) (defScope sWallsOf) .none kV21 dc21 pm21 an21 cd21 ct21), sl21⟩)
    (c21 : PySem.W.codeIn K cd21 "walls_of" = true)
    (k21 : PySem.W.keepIn K (.ref f21) = true)
    (a22 : PySem.W.nsIn K mainGlobals "want_told" = some (some (.ref f22)))
    (l22 : K.lookup f22 = some ⟨oc22, od22, .func (PySem.W.fnOf "want_told" "want_told" (defArgs sWantTold) (defBody sWantTold) (defScope sWantTold) .none kV22 dc22 pm22 an22 cd22 ct22), sl22⟩)
    (c22 : PySem.W.codeIn K cd22 "want_told" = true)
    (k22 : PySem.W.keepIn K (.ref f22) = true)
    (a23 : PySem.W.nsIn K mainGlobals "want_last" = some (some (.ref f23)))
    (l23 : K.lookup f23 = some ⟨oc23, od23, .func (PySem.W.fnOf "want_last" "want_last" (defArgs sWantLast) (defBody sWantLast) (defScope sWantLast) .none kV23 dc23 pm23 an23 cd23 ct23), sl23⟩)
    (c23 : PySem.W.codeIn K cd23 "want_last" = true)
    (k23 : PySem.W.keepIn K (.ref f23) = true)
    (a24 : PySem.W.nsIn K mainGlobals "_law_reel" = some (some (.ref f24)))
    (l24 : K.lookup f24 = some ⟨oc24, od24, .func (PySem.W.fnOf "_law_reel" "_law_reel" (defArgs sLwReel) (defBody sLwReel) (defScope sLwReel) .none kV24 dc24 pm24 an24 cd24 ct24), sl24⟩)
    (c24 : PySem.W.codeIn K cd24 "_law_reel" = true)
    (k24 : PySem.W.keepIn K (.ref f24) = true)
    (a25 : PySem.W.nsIn K mainGlobals "_law_wind" = some (some (.ref f25)))
    (l25 : K.lookup f25 = some ⟨oc25, od25, .func (PySem.W.fnOf "_law_wind" "_law_wind" (defArgs sLwWind) (defBody sLwWind) (defScope sLwWind) .none kV25 dc25 pm25 an25 cd25 ct25), sl25⟩)
    (c25 : PySem.W.codeIn K cd25 "_law_wind" = true)
    (k25 : PySem.W.keepIn K (.ref f25) = true)
    (a26 : PySem.W.nsIn K mainGlobals "_law_pick" = some (some (.ref f26)))
    (l26 : K.lookup f26 = some ⟨oc26, od26, .func (PySem.W.fnOf "_law_pick" "_law_pick" (defArgs sLwPick) (defBody sLwPick) (defScope sLwPick) .none kV26 dc26 pm26 an26 cd26 ct26), sl26⟩)
    (c26 : PySem.W.codeIn K cd26 "_law_pick" = true)
    (k26 : PySem.W.keepIn K (.ref f26) = true)
    (a27 : PySem.W.nsIn K mainGlobals "_law_lots" = some (some (.ref f27)))
    (l27 : K.lookup f27 = some ⟨oc27, od27, .func (PySem.W.fnOf "_law_lots" "_law_lots" (defArgs sLwLots) (defBody sLwLots) (defScope sLwLots) .none kV27 dc27 pm27 an27 cd27 ct27), sl27⟩)
    (c27 : PySem.W.codeIn K cd27 "_law_lots" = true)
    (k27 : PySem.W.keepIn K (.ref f27) = true)
    (a28 : PySem.W.nsIn K mainGlobals "_law_gap" = some (some (.ref f28)))
    (l28 : K.lookup f28 = some ⟨oc28, od28, .func (PySem.W.fnOf "_law_gap" "_law_gap" (defArgs sLwGap) (defBody sLwGap) (defScope sLwGap) .none kV28 dc28 pm28 an28 cd28 ct28), sl28⟩)
    (c28 : PySem.W.codeIn K cd28 "_law_gap" = true)
    (k28 : PySem.W.keepIn K (.ref f28) = true)
    (a29 : PySem.W.nsIn K mainGlobals "_law_others" = some (some (.ref f29)))
    (l29 : K.lookup f29 = some ⟨oc29, od29, .func (PySem.W.fnOf "_law_others" "_law_others" (defArgs sLwOthers) (defBody sLwOthers) (defScope sLwOthers) .none kV29 dc29 pm29 an29 cd29 ct29), sl29⟩)
    (c29 : PySem.W.codeIn K cd29 "_law_others" = true)
    (k29 : PySem.W.keepIn K (.ref f29) = true)
    (a30 : PySem.W.nsIn K mainGlobals "_law_lengths" = some (some (.ref f30)))
    (l30 : K.lookup f30 = some ⟨oc30, od30, .func (PySem.W.fnOf "_law_lengths" "_law_lengths" (defArgs sLwLengths) (defBody sLwLengths) (defScope sLwLengths) .none kV30 dc30 pm30 an30 cd30 ct30), sl30⟩)
    (c30 : PySem.W.codeIn K cd30 "_law_lengths" = true)
    (k30 : PySem.W.keepIn K (.ref f30) = true)
    (a31 : PySem.W.nsIn K mainGlobals "_law_heard" = some (some (.ref f31)))
    (l31 : K.lookup f31 = some ⟨oc31, od31, .func (PySem.W.fnOf "_law_heard" "_law_heard" (defArgs sLwHeard) (defBody sLwHeard) (defScope sLwHeard) .none kV31 dc31 pm31 an31 cd31 ct31), sl31⟩)
    (c31 : PySem.W.codeIn K cd31 "_law_heard" = true)
    (k31 : PySem.W.keepIn K (.ref f31) = true)
    (a32 : PySem.W.nsIn K mainGlobals "_law_sums" = some (some (.ref f32)))
    (l32 : K.lookup f32 = some ⟨oc32, od32, .func (PySem.W.fnOf "_law_sums" "_law_sums" (defArgs sLwSums) (defBody sLwSums) (defScope sLwSums) .none kV32 dc32 pm32 an32 cd32 ct32), sl32⟩)
    (c32 : PySem.W.codeIn K cd32 "_law_sums" = true)
    (k32 : PySem.W.keepIn K (.ref f32) = true)
    (a33 : PySem.W.nsIn K mainGlobals "_law_order" = some (some (.ref f33)))
    (l33 : K.lookup f33 = some ⟨oc33, od33, .func (PySem.W.fnOf "_law_order" "_law_order" (defArgs sLwOrder) (defBody sLwOrder) (defScope sLwOrder) .none kV33 dc33 pm33 an33 cd33 ct33), sl33⟩)
    (c33 : PySem.W.codeIn K cd33 "_law_order" = true)
    (k33 : PySem.W.keepIn K (.ref f33) = true)
    (a34 : PySem.W.nsIn K mainGlobals "_law_lots_right" = some (some (.ref f34)))
    (l34 : K.lookup f34 = some ⟨oc34, od34, .func (PySem.W.fnOf "_law_lots_right" "_law_lots_right" (defArgs sLwLotsRight) (defBody sLwLotsRight) (defScope sLwLotsRight) .none kV34 dc34 pm34 an34 cd34 ct34), sl34⟩)
    (c34 : PySem.W.codeIn K cd34 "_law_lots_right" = true)
    (k34 : PySem.W.keepIn K (.ref f34) = true)
    (a35 : PySem.W.nsIn K mainGlobals "_law_refused_right" = some (some (.ref f35)))
    (l35 : K.lookup f35 = some ⟨oc35, od35, .func (PySem.W.fnOf "_law_refused_right" "_law_refused_right" (defArgs sLwRefusedRight) (defBody sLwRefusedRight) (defScope sLwRefusedRight) .none kV35 dc35 pm35 an35 (.ref cRR) ct35), sl35⟩)
    (c35 : PySem.W.codeIn K (.ref cRR) "_law_refused_right" = true)
    (k35 : PySem.W.keepIn K (.ref f35) = true)
    (a36 : PySem.W.nsIn K mainGlobals "law" = some (some (.ref f36)))
    (l36 : K.lookup f36 = some ⟨oc36, od36, .func (PySem.W.fnOf "law" "law" (defArgs sLaw) (defBody sLaw) (defScope sLaw) .none kV36 dc36 pm36 an36 cd36 ct36), sl36⟩)
    (c36 : PySem.W.codeIn K cd36 "law" = true)
    (k36 : PySem.W.keepIn K (.ref f36) = true)
    (am0 : PySem.W.findIn K (.ref C) "__init__" = some (some (.ref fm0)))
    (im0 : PySem.W.isFn K (.ref fm0) = true)
    (lm0 : K.lookup fm0 = some ⟨ocm0, odm0, .func (PySem.W.fnOf "__init__" "Ring.__init__" (defArgs sRingInit) (defBody sRingInit) (defScope sRingInit) .none kVm0 dcm0 pmm0 anm0 cdm0 ctm0), slm0⟩)
    (cm0 : PySem.W.codeIn K cdm0 "Ring.__init__" = true)
    (km0 : PySem.W.keepIn K (.ref fm0) = true)
    (am1 : PySem.W.findIn K (.ref C) "__len__" = some (some (.ref fm1)))
    (im1 : PySem.W.isFn K (.ref fm1) = true)
    (lm1 : K.lookup fm1 = some ⟨ocm1, odm1, .func (PySem.W.fnOf "__len__" "Ring.__len__" (defArgs sRingLen) (defBody sRingLen) (defScope sRingLen) .none kVm1 dcm1 pmm1 anm1 cdm1 ctm1), slm1⟩)
    (cm1 : PySem.W.codeIn K cdm1 "Ring.__len__" = true)
    (km1 : PySem.W.keepIn K (.ref fm1) = true)
    (am2 : PySem.W.findIn K (.ref C) "length_of" = some (some (.ref fm2)))
    (im2 : PySem.W.isFn K (.ref fm2) = true)
    (lm2 : K.lookup fm2 = some ⟨ocm2, odm2, .func (PySem.W.fnOf "length_of" "Ring.length_of" (defArgs sRingLengthOf) (defBody sRingLengthOf) (defScope sRingLengthOf) .none kVm2 dcm2 pmm2 anm2 cdm2 ctm2), slm2⟩)
    (cm2 : PySem.W.codeIn K cdm2 "Ring.length_of" = true)
    (km2 : PySem.W.keepIn K (.ref fm2) = true)
    (am3 : PySem.W.findIn K (.ref C) "sort_of" = some (some (.ref fm3)))
    (im3 : PySem.W.isFn K (.ref fm3) = true)
    (lm3 : K.lookup fm3 = some ⟨ocm3, odm3, .func (PySem.W.fnOf "sort_of" "Ring.sort_of" (defArgs sRingSortOf) (defBody sRingSortOf) (defScope sRingSortOf) .none kVm3 dcm3 pmm3 anm3 cdm3 ctm3), slm3⟩)
    (cm3 : PySem.W.codeIn K cdm3 "Ring.sort_of" = true)
    (km3 : PySem.W.keepIn K (.ref fm3) = true)
    (am4 : PySem.W.findIn K (.ref eR) "__init__" = some (some (.ref fm4)))
    (im4 : PySem.W.isFn K (.ref fm4) = true)
    (lm4 : K.lookup fm4 = some ⟨ocm4, odm4, .func (PySem.W.fnOf "__init__" "BadRing.__init__" (defArgs sBadRingInit) (defBody sBadRingInit) (defScope sBadRingInit) .none kVm4 dcm4 pmm4 anm4 cdm4 ctm4), slm4⟩)
    (cm4 : PySem.W.codeIn K cdm4 "BadRing.__init__" = true)
    (km4 : PySem.W.keepIn K (.ref fm4) = true)
    (tim4 : PySem.W.typeIn K (.ref fm4) = some (.type "function"))
    (am5 : PySem.W.findIn K (.ref eL) "__init__" = some (some (.ref fm5)))
    (im5 : PySem.W.isFn K (.ref fm5) = true)
    (lm5 : K.lookup fm5 = some ⟨ocm5, odm5, .func (PySem.W.fnOf "__init__" "BadLot.__init__" (defArgs sBadLotInit) (defBody sBadLotInit) (defScope sBadLotInit) .none kVm5 dcm5 pmm5 anm5 cdm5 ctm5), slm5⟩)
    (cm5 : PySem.W.codeIn K cdm5 "BadLot.__init__" = true)
    (km5 : PySem.W.keepIn K (.ref fm5) = true)
    (tim5 : PySem.W.typeIn K (.ref fm5) = some (.type "function"))
    (am6 : PySem.W.findIn K (.ref eN) "__init__" = some (some (.ref fm6)))
    (im6 : PySem.W.isFn K (.ref fm6) = true)
    (lm6 : K.lookup fm6 = some ⟨ocm6, odm6, .func (PySem.W.fnOf "__init__" "Missing.__init__" (defArgs sMissingInit) (defBody sMissingInit) (defScope sMissingInit) .none kVm6 dcm6 pmm6 anm6 cdm6 ctm6), slm6⟩)
    (cm6 : PySem.W.codeIn K cdm6 "Missing.__init__" = true)
    (km6 : PySem.W.keepIn K (.ref fm6) = true)
    (tim6 : PySem.W.typeIn K (.ref fm6) = some (.type "function"))
    (am7 : PySem.W.findIn K (.ref eT) "__init__" = some (some (.ref fm7)))
    (im7 : PySem.W.isFn K (.ref fm7) = true)
    (lm7 : K.lookup fm7 = some ⟨ocm7, odm7, .func (PySem.W.fnOf "__init__" "Twice.__init__" (defArgs sTwiceInit) (defBody sTwiceInit) (defScope sTwiceInit) .none kVm7 dcm7 pmm7 anm7 cdm7 ctm7), slm7⟩)
    (cm7 : PySem.W.codeIn K cdm7 "Twice.__init__" = true)
    (km7 : PySem.W.keepIn K (.ref fm7) = true)
    (tim7 : PySem.W.typeIn K (.ref fm7) = some (.type "function"))
    (am8 : PySem.W.findIn K (.ref eB) "__init__" = some (some (.ref fm8)))
    (im8 : PySem.W.isFn K (.ref fm8) = true)
    (lm8 : K.lookup fm8 = some ⟨ocm8, odm8, .func (PySem.W.fnOf "__init__" "BadNumber.__init__" (defArgs sBadNumberInit) (defBody sBadNumberInit) (defScope sBadNumberInit) .none kVm8 dcm8 pmm8 anm8 cdm8 ctm8), slm8⟩)
    (cm8 : PySem.W.codeIn K cdm8 "BadNumber.__init__" = true)
    (km8 : PySem.W.keepIn K (.ref fm8) = true)
    (tim8 : PySem.W.typeIn K (.ref fm8) = some (.type "function"))
    (rpg : PySem.W.plainGet K C Str.empty = true)
    (rhd : PySem.W.hasDictIn K C = true)
    (rpo : PySem.W.plainOver K C = true)
    (rsa : PySem.W.findIn K (.ref C) "__setattr__" = some (some (.builtin "object.__setattr__")))
    (rmk : PySem.W.makesIn K C = true)
    (rkc : PySem.W.keepIn K (.ref C) = true)
    (rn1 : PySem.W.findIn K (.ref C) "lengths" = some none)
    (rn2 : PySem.W.findIn K (.ref C) "total" = some none)
    (rn3 : PySem.W.findIn K (.ref C) "closes" = some none)
    (rn4 : PySem.W.findIn K (.ref C) "is_clear" = some none)
    (rha : PySem.W.findIn K (.ref C) "__class__" = some (some (.builtin "object.__class__")))
    (rhn : PySem.W.specialIn K (.builtin "object.__class__") "__get__" = some (some (.builtin "getset_descriptor.__get__")))
    (rht : PySem.W.takesIn K (.builtin "object.__class__") = some true)
    (rhm : PySem.W.mroIn K C (.type "object") = some true)
    (kRl : PySem.W.kitOne K (.ref C) (.type "list") = some false)
    (kRt : PySem.W.kitOne K (.ref C) (.type "tuple") = some false)
    (knr : PySem.W.kitOne K (.ref eB) (.ref eR) = some false)
    (z_int : PySem.W.nsIn K mainGlobals "int" = some none)
    (z_len : PySem.W.nsIn K mainGlobals "len" = some none)
    (z_abs : PySem.W.nsIn K mainGlobals "abs" = some none)
    (z_list : PySem.W.nsIn K mainGlobals "list" = some none)
    (z_tuple : PySem.W.nsIn K mainGlobals "tuple" = some none)
    (z_bool : PySem.W.nsIn K mainGlobals "bool" = some none)
    (z_range : PySem.W.nsIn K mainGlobals "range" = some none)
    (z_sum : PySem.W.nsIn K mainGlobals "sum" = some none)
    (z_max : PySem.W.nsIn K mainGlobals "max" = some none)
    (z_all : PySem.W.nsIn K mainGlobals "all" = some none)
    (z_any : PySem.W.nsIn K mainGlobals "any" = some none)
    (z_sorted : PySem.W.nsIn K mainGlobals "sorted" = some none)
    (z_enumerate : PySem.W.nsIn K mainGlobals "enumerate" = some none)
    (z_isinstance : PySem.W.nsIn K mainGlobals "isinstance" = some none)
    (z_set : PySem.W.nsIn K mainGlobals "set" = some none)
    (z_str : PySem.W.nsIn K mainGlobals "str" = some none)
    (g_MOST_LENGTH : PySem.W.nsIn K mainGlobals "MOST_LENGTH" = some (some (.int 1000000 tkMOST_LENGTH)))
    (g_LEAST_BARS : PySem.W.nsIn K mainGlobals "LEAST_BARS" = some (some (.int 3 tkLEAST_BARS)))
    (g_MOST_BARS : PySem.W.nsIn K mainGlobals "MOST_BARS" = some (some (.int 8 tkMOST_BARS)))
    (g_LEAST_TOLD : PySem.W.nsIn K mainGlobals "LEAST_TOLD" = some (some (.int 2 tkLEAST_TOLD)))
    (g_MOST_TOLD : PySem.W.nsIn K mainGlobals "MOST_TOLD" = some (some (.int 7 tkMOST_TOLD)))
    (xeR : K.lookup eR = some (excClassObj nmeR qqeR eR NeR bseR bmeR true sneR subeR abeR coleR ddeR k0eR k1eR k2eR k3eR k5eR "ValueError.__new__"))
    (rveR : PySem.HandSPX.refsVE bmeR = true)
    (saeR : PySem.W.findIn K (.ref eR) "__setattr__" = some (some (.builtin "object.__setattr__")))
    (eCeR : PySem.W.subIn K (.ref eR) (.type "BaseException") = some true)
    (tCeR : PySem.W.typeIn K (.ref eR) = some (.type "type"))
    (kCeR : PySem.W.keepIn K (.ref eR) = true)
    (nfeRpart : PySem.W.findIn K (.ref eR) "part" = some none)
    (gaeR : PySem.W.findIn K (.ref eR) "__getattribute__" = some (some (.builtin "BaseException.__getattribute__")))
    (ggeR : PySem.W.findIn K (.ref eR) "__getattr__" = some none)
    (hdeR : PySem.W.hasDictIn K eR = true)
    (haeR : PySem.W.findIn K (.ref eR) "__class__" = some (some (.builtin "object.__class__")))
    (hmeR : PySem.W.mroIn K eR (.type "object") = some true)
    (sbeR : PySem.W.subIn K (.ref eR) (.ref eX) = some true)
    (xeL : K.lookup eL = some (excClassObj nmeL qqeL eL NeL bseL bmeL true sneL subeL abeL coleL ddeL k0eL k1eL k2eL k3eL k5eL "ValueError.__new__"))
    (rveL : PySem.HandSPX.refsVE bmeL = true)
    (saeL : PySem.W.findIn K (.ref eL) "__setattr__" = some (some (.builtin "object.__setattr__")))
    (eCeL : PySem.W.subIn K (.ref eL) (.type "BaseException") = some true)
    (tCeL : PySem.W.typeIn K (.ref eL) = some (.type "type"))
    (kCeL : PySem.W.keepIn K (.ref eL) = true)
    (nfeLpart : PySem.W.findIn K (.ref eL) "part" = some none)
    (xeN : K.lookup eN = some (excClassObj nmeN qqeN eN NeN bseN bmeN true sneN subeN abeN coleN ddeN k0eN k1eN k2eN k3eN k5eN "ValueError.__new__"))
    (rveN : PySem.HandSPX.refsVE bmeN = true)
    (saeN : PySem.W.findIn K (.ref eN) "__setattr__" = some (some (.builtin "object.__setattr__")))
    (eCeN : PySem.W.subIn K (.ref eN) (.type "BaseException") = some true)
    (tCeN : PySem.W.typeIn K (.ref eN) = some (.type "type"))
    (kCeN : PySem.W.keepIn K (.ref eN) = true)
    (nfeNvalue : PySem.W.findIn K (.ref eN) "value" = some none)
    (xeT : K.lookup eT = some (excClassObj nmeT qqeT eT NeT bseT bmeT true sneT subeT abeT coleT ddeT k0eT k1eT k2eT k3eT k5eT "ValueError.__new__"))
    (rveT : PySem.HandSPX.refsVE bmeT = true)
    (saeT : PySem.W.findIn K (.ref eT) "__setattr__" = some (some (.builtin "object.__setattr__")))
    (eCeT : PySem.W.subIn K (.ref eT) (.type "BaseException") = some true)
    (tCeT : PySem.W.typeIn K (.ref eT) = some (.type "type"))
    (kCeT : PySem.W.keepIn K (.ref eT) = true)
    (nfeTvalue : PySem.W.findIn K (.ref eT) "value" = some none)
    (xeB : K.lookup eB = some (excClassObj nmeB qqeB eB NeB bseB bmeB true sneB subeB abeB coleB ddeB k0eB k1eB k2eB k3eB k5eB "ValueError.__new__"))
    (rveB : PySem.HandSPX.refsVE bmeB = true)
    (saeB : PySem.W.findIn K (.ref eB) "__setattr__" = some (some (.builtin "object.__setattr__")))
    (eCeB : PySem.W.subIn K (.ref eB) (.type "BaseException") = some true)
    (tCeB : PySem.W.typeIn K (.ref eB) = some (.type "type"))
    (kCeB : PySem.W.keepIn K (.ref eB) = true)
    (nfeBpart : PySem.W.findIn K (.ref eB) "part" = some none)
    (gaeB : PySem.W.findIn K (.ref eB) "__getattribute__" = some (some (.builtin "BaseException.__getattribute__")))
    (ggeB : PySem.W.findIn K (.ref eB) "__getattr__" = some none)
    (hdeB : PySem.W.hasDictIn K eB = true)
    (haeB : PySem.W.findIn K (.ref eB) "__class__" = some (some (.builtin "object.__class__")))
    (hmeB : PySem.W.mroIn K eB (.type "object") = some true)
    (sbeB : PySem.W.subIn K (.ref eB) (.ref eX) = some true)
    (eCeX : PySem.W.subIn K (.ref eX) (.type "BaseException") = some true)
    (hdeX : PySem.W.hasDictIn K eX = true)
    (tCeX : PySem.W.typeIn K (.ref eX) = some (.type "type"))
    (lc1 : K.lookup cRR = some ⟨.type "code", odc1, .fields vsc1, slc1⟩)
    (hdc1 : PySem.W.codeHdIn [(cRR, ⟨.type "code", odc1, .fields vsc1, slc1⟩)] cRR P1 = true)
    (nT1 : K.lookup P1 = none)
    (hT1 : h.get? P1 = some { cls := .none, data := .fields #[] })
    (lc2 : K.lookup cIO = some ⟨.type "code", odc2, .fields vsc2, slc2⟩)
    (hdc2 : PySem.W.codeHdIn [(cIO, ⟨.type "code", odc2, .fields vsc2, slc2⟩)] cIO P2 = true)
    (nT2 : K.lookup P2 = none)
    (hT2 : h.get? P2 = some { cls := .none, data := .fields #[] })
    (nP : P1 ≠ P2) :
    LawAtS l w K CX0 11 63 "_law_script" mg fa h := by
  have e := hfa.symm.trans (PySem.W.mg_of X G a36)
  cases e
  have gl : ∀ {x : Str} {v : Value}, PySem.W.nsIn K mainGlobals x = some (some v) → mg x = some v := fun q => PySem.W.mg_of X G q
  have T : Bi mg := ⟨PySem.W.mg_none_of X G z_int, PySem.W.mg_none_of X G z_len, PySem.W.mg_none_of X G z_abs, PySem.W.mg_none_of X G z_list, PySem.W.mg_none_of X G z_tuple, PySem.W.mg_none_of X G z_bool, PySem.W.mg_none_of X G z_range, PySem.W.mg_none_of X G z_sum, PySem.W.mg_none_of X G z_max, PySem.W.mg_none_of X G z_all, PySem.W.mg_none_of X G z_any, PySem.W.mg_none_of X G z_sorted, PySem.W.mg_none_of X G z_enumerate, PySem.W.mg_none_of X G z_isinstance⟩
  have N : Nm mg := ⟨⟨_, gl g_MOST_LENGTH⟩, ⟨_, gl g_LEAST_BARS⟩, ⟨_, gl g_MOST_BARS⟩⟩
  have R : RingC K mg C := ⟨⟨rpg, rhd, rpo, rsa⟩, rn1, rn2, rn3, rn4, gl aC, rha, rhn, rht, rhm⟩
  have KC : KitC K C := ⟨kRl, kRt⟩
  have N2 : Nm2 mg := ⟨⟨_, gl g_LEAST_TOLD⟩, ⟨_, gl g_MOST_TOLD⟩⟩
  have B2 : Bi2 mg := ⟨PySem.W.mg_none_of X G z_set, PySem.W.mg_none_of X G z_str⟩
  have oeR : OexC K eR := ⟨⟨_, _, _, _, _, _, _, _, _, _, _, _, _, _, _, xeR, rveR⟩, saeR, eCeR, tCeR, kCeR⟩
  have oeL : OexC K eL := ⟨⟨_, _, _, _, _, _, _, _, _, _, _, _, _, _, _, xeL, rveL⟩, saeL, eCeL, tCeL, kCeL⟩
  have oeN : OexC K eN := ⟨⟨_, _, _, _, _, _, _, _, _, _, _, _, _, _, _, xeN, rveN⟩, saeN, eCeN, tCeN, kCeN⟩
  have oeT : OexC K eT := ⟨⟨_, _, _, _, _, _, _, _, _, _, _, _, _, _, _, xeT, rveT⟩, saeT, eCeT, tCeT, kCeT⟩
  have oeB : OexC K eB := ⟨⟨_, _, _, _, _, _, _, _, _, _, _, _, _, _, _, xeB, rveB⟩, saeB, eCeB, tCeB, kCeB⟩
  have Hc : HeardC K mg eR eB eX := ⟨gl aeX, gl aeR, ⟨gaeR, ggeR, eCeR, hdeR, haeR, rhn, rht, hmeR⟩, ⟨gaeR, ggeR, eCeR, hdeR⟩, PySem.W.exm_ref eCeX hdeX tCeX sbeR, nfeRpart, gl aeB, ⟨gaeB, ggeB, eCeB, hdeB, haeB, rhn, rht, hmeB⟩, ⟨gaeB, ggeB, eCeB, hdeB⟩, PySem.W.exm_ref eCeX hdeX tCeX sbeB, nfeBpart, knr⟩
  have F0 := fun_mk (st := sIsInteger) l0 c0 k0
  have b0 := F0.binds (ps := ["value"]) fun _ _ _ _ _ _ us hl => match us, hl with | [_], _ => rfl
  have F1 := fun_mk (st := sIsWithin) l1 c1 k1
  have b1 := F1.binds (ps := ["value", "least", "most"]) fun _ _ _ _ _ _ us hl => match us, hl with | [_, _, _], _ => rfl
  have F2 := fun_mk (st := sIsList) l2 c2 k2
  have b2 := F2.binds (ps := ["value"]) fun _ _ _ _ _ _ us hl => match us, hl with | [_], _ => rfl
  have F3 := fun_mk (st := sIsNumbers) l3 c3 k3
  have b3 := F3.binds (ps := ["value"]) fun _ _ _ _ _ _ us hl => match us, hl with | [_], _ => rfl
  have F4 := fun_mk (st := sFixed) l4 c4 k4
  have b4 := F4.binds (ps := ["value"]) fun _ _ _ _ _ _ us hl => match us, hl with | [_], _ => rfl
  have F5 := fun_mk (st := sFirstTwice) l5 c5 k5
  have b5 := F5.binds (ps := ["values"]) fun _ _ _ _ _ _ us hl => match us, hl with | [_], _ => rfl
  have F6 := fun_mk (st := sTwiceAt) l6 c6 k6
  have b6 := F6.binds (ps := ["values"]) fun _ _ _ _ _ _ us hl => match us, hl with | [_], _ => rfl
  have F7 := fun_mk (st := sWantNumber) l7 c7 k7
  have b7 := F7.binds (ps := ["value", "least", "most", "part"]) fun _ _ _ _ _ _ us hl => match us, hl with | [_, _, _, _], _ => rfl
  have F8 := fun_mk (st := sWantBar) l8 c8 k8
  have b8 := F8.binds (ps := ["value", "many"]) fun _ _ _ _ _ _ us hl => match us, hl with | [_, _], _ => rfl
  have F9 := fun_mk (st := sWantLot) l9 c9 k9
  have b9 := F9.binds (ps := ["value", "many", "part"]) fun _ _ _ _ _ _ us hl => match us, hl with | [_, _, _], _ => rfl
  have F10 := fun_mk (st := sSortBy) l10 c10 k10
  have b10 := F10.binds (ps := ["excess"]) fun _ _ _ _ _ _ us hl => match us, hl with | [_], _ => rfl
  have F11 := fun_mk (st := sExcessOf) l11 c11 k11
  have b11 := F11.binds (ps := ["lengths", "lot"]) fun _ _ _ _ _ _ us hl => match us, hl with | [_, _], _ => rfl
  have F12 := fun_mk (st := sAreLengths) l12 c12 k12
  have b12 := F12.binds (ps := ["value"]) fun _ _ _ _ _ _ us hl => match us, hl with | [_], _ => rfl
  have F13 := fun_mk (st := sHasLevel) l13 c13 k13
  have b13 := F13.binds (ps := ["lengths"]) fun _ _ _ _ _ _ us hl => match us, hl with | [_], _ => rfl
  have F14 := fun_mk (st := sWantRing) l14 c14 k14
  have b14 := F14.binds (ps := ["value", "part"]) fun _ _ _ _ _ _ us hl => match us, hl with | [_, _], _ => rfl
  have F15 := fun_mk (st := sLotsOf) l15 c15 k15
  have b15 := F15.binds (ps := ["many"]) fun _ _ _ _ _ _ us hl => match us, hl with | [_], _ => rfl
  have F16 := fun_mk (st := sLevelLots) l16 c16 k16
  have b16 := F16.binds (ps := ["ring"]) fun _ _ _ _ _ _ us hl => match us, hl with | [_], _ => rfl
  have F17 : FunC K "in_order" "in_order" sInOrder f17 _ cIO := ⟨⟨_, _, _, _, _, _, _, _, rfl, l17, c17⟩⟩
  have F170 := fun_mk (st := sInOrder) l17 c17 k17
  have b17 := F170.binds (ps := ["lots"]) fun _ _ _ _ _ _ us hl => match us, hl with | [_], _ => rfl
  have F18 := fun_mk (st := sLotsBySort) l18 c18 k18
  have b18 := F18.binds (ps := ["ring", "sort"]) fun _ _ _ _ _ _ us hl => match us, hl with | [_, _], _ => rfl
  have F19 := fun_mk (st := sWalls) l19 c19 k19
  have b19 := F19.binds (ps := ["lengths"]) fun _ _ _ _ _ _ us hl => match us, hl with | [_], _ => rfl
  have F20 := fun_mk (st := sWallLots) l20 c20 k20
  have b20 := F20.binds (ps := ["lengths", "wall"]) fun _ _ _ _ _ _ us hl => match us, hl with | [_, _], _ => rfl
  have F21 := fun_mk (st := sWallsOf) l21 c21 k21
  have b21 := F21.binds (ps := ["lengths"]) fun _ _ _ _ _ _ us hl => match us, hl with | [_], _ => rfl
  have F22 := fun_mk (st := sWantTold) l22 c22 k22
  have b22 := F22.binds (ps := ["lengths"]) fun _ _ _ _ _ _ us hl => match us, hl with | [_], _ => rfl
  have F23 := fun_mk (st := sWantLast) l23 c23 k23
  have b23 := F23.binds (ps := ["lengths", "wall"]) fun _ _ _ _ _ _ us hl => match us, hl with | [_, _], _ => rfl
  have F24 := fun_mk (st := sLwReel) l24 c24 k24
  have b24 := F24.binds (ps := ["_law_script"]) fun _ _ _ _ _ _ us hl => match us, hl with | [_], _ => rfl
  have F25 := fun_mk (st := sLwWind) l25 c25 k25
  have b25 := F25.binds (ps := ["_law_reel_here", "_law_many"]) fun _ _ _ _ _ _ us hl => match us, hl with | [_, _], _ => rfl
  have F26 := fun_mk (st := sLwPick) l26 c26 k26
  have b26 := F26.binds (ps := ["_law_reel_here", "_law_some"]) fun _ _ _ _ _ _ us hl => match us, hl with | [_, _], _ => rfl
  have F27 := fun_mk (st := sLwLots) l27 c27 k27
  have b27 := F27.binds (ps := ["_law_many"]) fun _ _ _ _ _ _ us hl => match us, hl with | [_], _ => rfl
  have F28 := fun_mk (st := sLwGap) l28 c28 k28
  have b28 := F28.binds (ps := ["_law_lengths_here", "_law_lot"]) fun _ _ _ _ _ _ us hl => match us, hl with | [_, _], _ => rfl
  have F29 := fun_mk (st := sLwOthers) l29 c29 k29
  have b29 := F29.binds (ps := ["_law_many", "_law_lot"]) fun _ _ _ _ _ _ us hl => match us, hl with | [_, _], _ => rfl
  have F30 := fun_mk (st := sLwLengths) l30 c30 k30
  have b30 := F30.binds (ps := ["_law_reel_here", "_law_many"]) fun _ _ _ _ _ _ us hl => match us, hl with | [_, _], _ => rfl
  have F31 := fun_mk (st := sLwHeard) l31 c31 k31
  have b31 := F31.binds (ps := ["_law_ask"]) fun _ _ _ _ _ _ us hl => match us, hl with | [_], _ => rfl
  have F32 := fun_mk (st := sLwSums) l32 c32 k32
  have b32 := F32.binds (ps := ["_law_lengths_here"]) fun _ _ _ _ _ _ us hl => match us, hl with | [_], _ => rfl
  have F33 := fun_mk (st := sLwOrder) l33 c33 k33
  have b33 := F33.binds (ps := ["_law_reel_here", "_law_many"]) fun _ _ _ _ _ _ us hl => match us, hl with | [_, _], _ => rfl
  have F34 := fun_mk (st := sLwLotsRight) l34 c34 k34
  have b34 := F34.binds (ps := ["_law_lengths_here", "_law_shut"]) fun _ _ _ _ _ _ us hl => match us, hl with | [_, _], _ => rfl
  have F35 : FunC K "_law_refused_right" "_law_refused_right" sLwRefusedRight f35 _ cRR := ⟨⟨_, _, _, _, _, _, _, _, rfl, l35, c35⟩⟩
  have F350 := fun_mk (st := sLwRefusedRight) l35 c35 k35
  have b35 := F350.binds (ps := ["_law_reel_here", "_law_lengths_here", "_law_found"]) fun _ _ _ _ _ _ us hl => match us, hl with | [_, _, _], _ => rfl
  have F36 := fun_mk (st := sLaw) l36 c36 k36
  have b36 := F36.binds (ps := ["_law_script"]) fun _ _ _ _ _ _ us hl => match us, hl with | [_], _ => rfl
  have Fm0 := fun_mk (st := sRingInit) lm0 cm0 km0
  have bm0 := Fm0.binds (ps := ["self", "lengths"]) fun _ _ _ _ _ _ us hl => match us, hl with | [_, _], _ => rfl
  have Fm1 := fun_mk (st := sRingLen) lm1 cm1 km1
  have bm1 := Fm1.binds (ps := ["self"]) fun _ _ _ _ _ _ us hl => match us, hl with | [_], _ => rfl
  have Fm2 := fun_mk (st := sRingLengthOf) lm2 cm2 km2
  have bm2 := Fm2.binds (ps := ["self", "lot"]) fun _ _ _ _ _ _ us hl => match us, hl with | [_, _], _ => rfl
  have Fm3 := fun_mk (st := sRingSortOf) lm3 cm3 km3
  have bm3 := Fm3.binds (ps := ["self", "lot"]) fun _ _ _ _ _ _ us hl => match us, hl with | [_, _], _ => rfl
  have Fm4 := fun_mk (st := sBadRingInit) lm4 cm4 km4
  have bm4 := Fm4.binds (ps := ["self", "part"]) fun _ _ _ _ _ _ us hl => match us, hl with | [_, _], _ => rfl
  have Fm5 := fun_mk (st := sBadLotInit) lm5 cm5 km5
  have bm5 := Fm5.binds (ps := ["self", "part"]) fun _ _ _ _ _ _ us hl => match us, hl with | [_, _], _ => rfl
  have Fm6 := fun_mk (st := sMissingInit) lm6 cm6 km6
  have bm6 := Fm6.binds (ps := ["self", "value"]) fun _ _ _ _ _ _ us hl => match us, hl with | [_, _], _ => rfl
  have Fm7 := fun_mk (st := sTwiceInit) lm7 cm7 km7
  have bm7 := Fm7.binds (ps := ["self", "value"]) fun _ _ _ _ _ _ us hl => match us, hl with | [_, _], _ => rfl
  have Fm8 := fun_mk (st := sBadNumberInit) lm8 cm8 km8
  have bm8 := Fm8.binds (ps := ["self", "part"]) fun _ _ _ _ _ _ us hl => match us, hl with | [_, _], _ => rfl
  refine ⟨PySem.W.fnOf "law" "law" (defArgs sLaw) (defBody sLaw) (defScope sLaw) .none kV36 dc36 pm36 an36 cd36 ct36, [(cRR, P1), (cIO, P2)], spLaw K P1 P2, fun p hp => ?_, fun p hp => ?_, fun p hp => ?_, fun s v => .of_eq rfl, fun H a ns hl _ hT' hs => ?_, fun base KB GB TB => ?_⟩
  · rcases List.mem_cons.mp hp with e | e
    · rw [e]; exact hT1
    · rw [List.mem_singleton.mp e]; exact hT2
  · rcases List.mem_cons.mp hp with e | e
    · rw [e]; exact nT1
    · rw [List.mem_singleton.mp e]; exact nT2
  · rcases List.mem_cons.mp hp with e | e
    · rw [e]; exact PySem.W.codeHd_of_K X (code_hd lc1 hdc1)
    · rw [List.mem_singleton.mp e]; exact PySem.W.codeHd_of_K X (code_hd lc2 hdc2)
  · refine ⟨a, ns, rfl, hs, by omega, fun p hp => ?_, fun _ => rfl⟩
    rcases List.mem_cons.mp hp with e | e
    · rw [e]; exact TabS.nil (hT' _ (List.mem_cons_self ..))
    · rw [List.mem_singleton.mp e]; exact TabS.nil (hT' _ (List.mem_cons_of_mem _ (List.mem_singleton.mpr rfl)))
  · have tb1 := TB _ (List.mem_cons_self ..)
    have tb2 := TB _ (List.mem_cons_of_mem _ (List.mem_singleton.mpr rfl))
    have hm1 : (P1, qLaw) ∈ T2 P1 P2 := List.mem_cons_self ..
    have hm2 : (P2, qIO) ∈ T2 P1 P2 := List.mem_cons_of_mem _ (List.mem_singleton.mpr rfl)
    have hu1 : ∀ p ∈ T2 P1 P2, p.1 = P1 → p.2 = qLaw := fun p hp e => by
      rcases List.mem_cons.mp hp with z | z
      · rw [z]
      · rw [List.mem_singleton.mp z] at e
        exact absurd e.symm nP
    have hu2 : ∀ p ∈ T2 P1 P2, p.1 = P2 → p.2 = qIO := fun p hp e => by
      rcases List.mem_cons.mp hp with z | z
      · rw [z] at e
        exact absurd e nP
      · rw [List.mem_singleton.mp z]
    have dInt := (⟨ok_isInt F0 T, gl a0, k0, b0⟩ : DefAt l.prog w K mg base _ _ "is_integer" _ _ _ _)
    have dList := (⟨ok_isList F2 T, gl a2, k2, b2⟩ : DefAt l.prog w K mg base _ _ "is_list" _ _ _ _)
    have dWith := (⟨ok_within F1 dInt, gl a1, k1, b1⟩ : DefAt l.prog w K mg base _ _ "is_within" _ _ _ _)
    have dNO := (⟨ok_numsO F3 T dInt dList, gl a3, k3, b3⟩ : DefAt l.prog w K mg base _ _ "is_numbers" _ _ _ _)
    have dNL := (⟨ok_numsL F3 T dInt dList, gl a3, k3, b3⟩ : DefAt l.prog w K mg base _ _ "is_numbers" _ _ _ _)
    have dNT := (⟨ok_numsT F3 T dInt dList, gl a3, k3, b3⟩ : DefAt l.prog w K mg base _ _ "is_numbers" _ _ _ _)
    have eR' : ErrAt l.prog w K mg base "BadRing" "part" eR fm4 _ := ⟨oeR, am4, tim4, nfeRpart, gl aeR, bm4, ok_badRingI Fm4⟩
    have eL' : ErrAt l.prog w K mg base "BadLot" "part" eL fm5 _ := ⟨oeL, am5, tim5, nfeLpart, gl aeL, bm5, ok_badLotI Fm5⟩
    have eN' : ErrAt l.prog w K mg base "NoBar" "value" eN fm6 _ := ⟨oeN, am6, tim6, nfeNvalue, gl aeN, bm6, ok_missingI Fm6⟩
    have eT' : ErrAt l.prog w K mg base "Twice" "value" eT fm7 _ := ⟨oeT, am7, tim7, nfeTvalue, gl aeT, bm7, ok_twiceI Fm7⟩
    have eB' : ErrAt l.prog w K mg base "BadNumber" "part" eB fm8 _ := ⟨oeB, am8, tim8, nfeBpart, gl aeB, bm8, ok_badNumberI Fm8⟩
    have dFx := (⟨ok_fixed F4 T, gl a4, k4, b4⟩ : DefAt l.prog w K mg base _ _ "fixed" _ _ _ _)
    have dAtL := (⟨ok_taL F6 T dFx, gl a6, k6, b6⟩ : DefAt l.prog w K mg base _ _ "twice_at" _ _ _ _)
    have dAtT := (⟨ok_taT F6 T dFx, gl a6, k6, b6⟩ : DefAt l.prog w K mg base _ _ "twice_at" _ _ _ _)
    have dTwL := (⟨ok_twL F5 dFx dAtL, gl a5, k5, b5⟩ : DefAt l.prog w K mg base _ _ "first_twice" _ _ _ _)
    have dTwT := (⟨ok_twT F5 dFx dAtT, gl a5, k5, b5⟩ : DefAt l.prog w K mg base _ _ "first_twice" _ _ _ _)
    have dWB := (⟨ok_wantBar F8 dWith eN', gl a8, k8, b8⟩ : DefAt l.prog w K mg base _ _ "want_bar" _ _ _ _)
    have w1 := ok_wlO (c := ⟨eL, eN, eT⟩) F9 T dNO dWB dTwL eL' eT'
    have w2 := ok_wlL (c := ⟨eL, eN, eT⟩) F9 T dNL dWB dTwL eL' eT'
    have w3 := ok_wlT (c := ⟨eL, eN, eT⟩) F9 T dNT dWB dTwT eL' eT'
    have dWL := (⟨ok_wl w1 w2 w3, gl a9, k9, b9⟩ : DefAt l.prog w K mg base _ _ "want_lot" _ _ _ _)
    have dSB := (⟨ok_sortBy F10, gl a10, k10, b10⟩ : DefAt l.prog w K mg base _ _ "sort_by" _ _ _ _)
    have dAL := (⟨ok_areL F12 T N dWith dList, gl a12, k12, b12⟩ : DefAt l.prog w K mg base _ _ "are_lengths" _ _ _ _)
    have dHL := (⟨ok_hasL F13 T, gl a13, k13, b13⟩ : DefAt l.prog w K mg base _ _ "has_level" _ _ _ _)
    have dNum := (⟨ok_numV F7 dWith, gl a7, k7, b7⟩ : DefAt l.prog w K mg base _ _ "want_number" _ _ _ _)
    have Gp : RingP l.prog w K mg base C fm0 _ := ⟨⟨rmk, am0, im0, rkc⟩, ok_ri (P := l.prog) (w := w) (base := base) Fm0 T N R dAL dHL, bm0⟩
    have NL := ok_rlen (P := l.prog) (w := w) (base := base) Fm1 T R
    have gLO := ok_lenOf (P := l.prog) (w := w) (base := base) Fm2 T R dWL
    have gSO := ok_sortOf (P := l.prog) (w := w) (base := base) Fm3 R ⟨am2, im2, km2⟩ gLO bm2 dSB
    have MS : MethV l.prog w K mg base C "sort_of" _ _ fm3 _ := ⟨⟨am3, im3, km3⟩, ok_sortVal gSO, bm3⟩
    have dWR := (⟨ok_wantR F14 T R eR', gl a14, k14, b14⟩ : DefAt l.prog w K mg base _ _ "want_ring" _ _ _ _)
    have dIO := (⟨ok_inOrd F17 T tb2 hm2 hu2, gl a17, k17, b17⟩ : DefAt l.prog w K mg base _ _ "in_order" _ _ _ _)
    have dLO := (⟨ok_lotsOf F15 T N dNum dIO, gl a15, k15, b15⟩ : DefAt l.prog w K mg base _ _ "lots_of" _ _ _ _)
    have dBY := (⟨ok_by F18 T R dLO MS ⟨am1, im1, km1⟩ NL bm1, gl a18, k18, b18⟩ : DefAt l.prog w K mg base _ _ "lots_by_sort" _ _ _ _)
    have dS1 := (⟨ok_level F16 dWR dBY, gl a16, k16, b16⟩ : DefAt l.prog w K mg base _ _ "level_lots" _ _ _ _)
    have dT1 := (⟨ok_tc dS1.ok, gl a16, k16, b16⟩ : DefAt l.prog w K mg base _ _ "level_lots" _ _ _ _)
    have dEx := (⟨ok_ex F11 T, gl a11, k11, b11⟩ : DefAt l.prog w K mg base _ _ "excess_of" _ _ _ _)
    have dWG := (⟨ok_withinG F1 dInt, gl a1, k1, b1⟩ : DefAt l.prog w K mg base _ _ "is_within" _ _ _ _)
    have dAG := (⟨ok_areG F12 T N dWG dList, gl a12, k12, b12⟩ : DefAt l.prog w K mg base _ _ "are_lengths" _ _ _ _)
    have dListA := (⟨fn_or (ok_isList F2 T) (ok_isListN F2 T), gl a2, k2, b2⟩ : DefAt l.prog w K mg base _ _ "is_list" _ _ _ _)
    have dWT := (⟨ok_wt F22 T N2 dAG dListA eR', gl a22, k22, b22⟩ : DefAt l.prog w K mg base _ _ "want_told" _ _ _ _)
    have dWO := (⟨ok_wo F21 T dLO dEx, gl a21, k21, b21⟩ : DefAt l.prog w K mg base _ _ "walls_of" _ _ _ _)
    have dWS := (⟨ok_ws F19 dWT dWO, gl a19, k19, b19⟩ : DefAt l.prog w K mg base _ _ "walls" _ _ _ _)
    have dWSc := (⟨ok_wsC dWS.ok, gl a19, k19, b19⟩ : DefAt l.prog w K mg base _ _ "walls" _ _ _ _)
    have dLA := (⟨ok_last F23 dWT dWO dInt eB', gl a23, k23, b23⟩ : DefAt l.prog w K mg base _ _ "want_last" _ _ _ _)
    have dWlo := (⟨ok_wlo F20 T dLA dLO dEx, gl a20, k20, b20⟩ : DefAt l.prog w K mg base _ _ "wall_lots" _ _ _ _)
    have dWloC := (⟨ok_wloC dWlo.ok, gl a20, k20, b20⟩ : DefAt l.prog w K mg base _ _ "wall_lots" _ _ _ _)
    have kb1 : KBinds K _ ["lengths"] ["lengths"] gK1 gK1 := kb_one (fun b s => .of_eq rfl) (fd := PySem.W.fnOf "walls" "walls" (defArgs sWalls) (defBody sWalls) (defScope sWalls) .none kV19 dc19 pm19 an19 cd19 ct19)
    have kbw : KBinds K _ ["lengths", "wall"] ["wall", "lengths"] gKW gKW := kb_lw (fun b c s => .of_eq rfl) (fd := PySem.W.fnOf "wall_lots" "wall_lots" (defArgs sWallLots) (defBody sWallLots) (defScope sWallLots) .none kV20 dc20 pm20 an20 cd20 ct20)
    have dDr : DrawAt l.prog w K mg base _ _ := ⟨ok_draw F25 T, gl a25, k25, b25⟩
    have dPn := (⟨ok_pen F24 T, gl a24, k24, b24⟩ : DefAt l.prog w K mg base _ _ "_law_reel" _ _ _ _)
    have dPk := (⟨ok_pick F26 T dDr, gl a26, k26, b26⟩ : DefAt l.prog w K mg base _ _ "_law_pick" _ _ _ _)
    have dLn := (⟨ok_lengths F30 T dDr, gl a30, k30, b30⟩ : DefAt l.prog w K mg base _ _ "_law_lengths" _ _ _ _)
    have dLs := (⟨ok_lots F27 T, gl a27, k27, b27⟩ : DefAt l.prog w K mg base _ _ "_law_lots" _ _ _ _)
    have dGp := (⟨ok_gap F28 T, gl a28, k28, b28⟩ : DefAt l.prog w K mg base _ _ "_law_gap" _ _ _ _)
    have dOt := (⟨ok_oth F29 T, gl a29, k29, b29⟩ : DefAt l.prog w K mg base _ _ "_law_others" _ _ _ _)
    have dSm := (⟨ok_sums F32 T B2, gl a32, k32, b32⟩ : DefAt l.prog w K mg base _ _ "_law_sums" _ _ _ _)
    have dOd := (⟨ok_order F33 T dDr, gl a33, k33, b33⟩ : DefAt l.prog w K mg base _ _ "_law_order" _ _ _ _)
    have dLR := (⟨ok_lr F34 T dLs dGp dWloC kbw dOt R Gp dT1, gl a34, k34, b34⟩ : DefAt l.prog w K mg base _ _ "_law_lots_right" _ _ _ _)
    have dRR := (⟨ok_rr F35 T B2 R KC Gp dPk dWS dWlo Hc tb1 hm1 hu1 F31 b31 (gl a31), gl a35, k35, b35⟩ : DefAt l.prog w K mg base _ _ "_law_refused_right" _ _ _ _)
    exact ok_law F36 T B2 dPn dLn dPk dDr dSm dWSc kb1 dOd dLR dRR
end K
open PySem PySem.W PyProof.Rows in
set_option maxRecDepth 100000 in
set_option maxHeartbeats 0 in
theorem PySem.Challenge.cw_ringbars_k57_walls_all_told_holds : PySem.Challenge.rw_ringbars_k57_walls_all_told.Holds := by
  w_on; o_law; k_head; (case hw => w_witness2)
  k_fill
  refine LamX.walk_ofTs (l := PySem.Challenge.rw_ringbars_k57_walls_all_told) (n := 63) (k := 11) (x := "_law_script") (CX := fun _ => L2.CX0) rfl (by decide) rfl ⟨rfl, by decide, by decide⟩ (fun w h Y => PySem.W.km_in_of Y) ?F (fun _ _ _ _ _ z => z)
  case F =>
    intro w mg fa h Y KX G hmg
    refine' K.all_mk KX G hmg ?aC ?aeX ?aeR ?aeL ?aeN ?aeT ?aeB ?a0 ?l0 ?c0 ?k0 ?a1 ?l1 ?c1 ?k1 ?a2 ?l2 ?c2 ?k2 ?a3 ?l3 ?c3 ?k3 ?a4 ?l4 ?c4 ?k4 ?a5 ?l5 ?c5 ?k5 ?a6 ?l6 ?c6 ?k6 ?a7 ?l7 ?c7 ?k7 ?a8 ?l8 ?c8 ?k8 ?a9 ?l9 ?c9 ?k9 ?a10 ?l10 ?c10 ?k10 ?a11 ?l11 ?c11 ?k11 ?a12 ?l12 ?c12 ?k12 ?a13 ?l13 ?c13 ?k13 ?a14 ?l14 ?c14 ?k14 ?a15 ?l15 ?c15 ?k15 ?a16 ?l16 ?c16 ?k16 ?a17 ?l17 ?c17 ?k17 ?a18 ?l18 ?c18 ?k18 ?a19 ?l19 ?c19 ?k19 ?a20 ?l20 ?c20 ?k20 ?a21 ?l21 ?c21 ?k21 ?a22 ?l22 ?c22 ?k22 ?a23 ?l23 ?c23 ?k23 ?a24 ?l24 ?c24 ?k24 ?a25 ?l25 ?c25 ?k25 ?a26 ?l26 ?c26 ?k26 ?a27 ?l27 ?c27 ?k27 ?a28 ?l28 ?c28 ?k28 ?a29 ?l29 ?c29 ?k29 ?a30 ?l30 ?c30 ?k30 ?a31 ?l31 ?c31 ?k31 ?a32 ?l32 ?c32 ?k32 ?a33 ?l33 ?c33 ?k33 ?a34 ?l34 ?c34 ?k34 ?a35 ?l35 ?c35 ?k35 ?a36 ?l36 ?c36 ?k36 ?am0 ?im0 ?lm0 ?cm0 ?km0 ?am1 ?im1 ?lm1 ?cm1 ?km1 ?am2 ?im2 ?lm2 ?cm2 ?km2 ?am3 ?im3 ?lm3 ?cm3 ?km3 ?am4 ?im4 ?lm4 ?cm4 ?km4 ?tim4 ?am5 ?im5 ?lm5 ?cm5 ?km5 ?tim5 ?am6 ?im6 ?lm6 ?cm6 ?km6 ?tim6 ?am7 ?im7 ?lm7 ?cm7 ?km7 ?tim7 ?am8 ?im8 ?lm8 ?cm8 ?km8 ?tim8 ?rpg ?rhd ?rpo ?rsa ?rmk ?rkc ?rn1 ?rn2 ?rn3 ?rn4 ?rha ?rhn ?rht ?rhm ?kRl ?kRt ?knr ?z_int ?z_len ?z_abs ?z_list ?z_tuple ?z_bool ?z_range ?z_sum ?z_max ?z_all ?z_any ?z_sorted ?z_enumerate ?z_isinstance ?z_set ?z_str ?g_MOST_LENGTH ?g_LEAST_BARS ?g_MOST_BARS ?g_LEAST_TOLD ?g_MOST_TOLD ?xeR ?rveR ?saeR ?eCeR ?tCeR ?kCeR ?nfeRpart ?gaeR ?ggeR ?hdeR ?haeR ?hmeR ?sbeR ?xeL ?rveL ?saeL ?eCeL ?tCeL ?kCeL ?nfeLpart ?xeN ?rveN ?saeN ?eCeN ?tCeN ?kCeN ?nfeNvalue ?xeT ?rveT ?saeT ?eCeT ?tCeT ?kCeT ?nfeTvalue ?xeB ?rveB ?saeB ?eCeB ?tCeB ?kCeB ?nfeBpart ?gaeB ?ggeB ?hdeB ?haeB ?hmeB ?sbeB ?eCeX ?hdeX ?tCeX ?lc1 ?hdc1 ?nT1 ?hT1 ?lc2 ?hdc2 ?nT2 ?hT2 ?nP
    (case hT1 => exact PySem.W.km_tabs_of Y _ (List.mem_cons_self ..))
    (case hT2 => exact PySem.W.km_tabs_of Y _ (List.mem_cons_of_mem _ (List.mem_cons_self ..)))
    (case aC => k_is)
    (case aeX => k_is)
    (case aeR => k_is)
    (case aeL => k_is)
    (case aeN => k_is)
    (case aeT => k_is)
    (case aeB => k_is)
    (case a0 => k_is)
    (case l0 => k_is)
    (case c0 => k_is)
    (case k0 => k_is)
    (case a1 => k_is)
    (case l1 => k_is)
    (case c1 => k_is)
    (case k1 => k_is)
    (case a2 => k_is)
    (case l2 => k_is)
    (case c2 => k_is)
    (case k2 => k_is)
    (case a3 => k_is)
    (case l3 => k_is)
    (case c3 => k_is)
    (case k3 => k_is)
    (case a4 => k_is)
    (case l4 => k_is)
    (case c4 => k_is)
    (case k4 => k_is)
    (case a5 => k_is)
    (case l5 => k_is)
    (case c5 => k_is)
    (case k5 => k_is)
    (case a6 => k_is)
    (case l6 => k_is)
    (case c6 => k_is)
    (case k6 => k_is)
    (case a7 => k_is)
    (case l7 => k_is)
    (case c7 => k_is)
    (case k7 => k_is)
    (case a8 => k_is)
    (case l8 => k_is)
    (case c8 => k_is)
    (case k8 => k_is)
    (case a9 => k_is)
    (case l9 => k_is)
    (case c9 => k_is)
    (case k9 => k_is)
    (case a10 => k_is)
    (case l10 => k_is)
    (case c10 => k_is)
    (case k10 => k_is)
    (case a11 => k_is)
    (case l11 => k_is)
    (case c11 => k_is)
    (case k11 => k_is)
    (case a12 => k_is)
    (case l12 => k_is)
    (case c12 => k_is)
    (case k12 => k_is)
    (case a13 => k_is)
    (case l13 => k_is)
    (case c13 => k_is)
    (case k13 => k_is)
    (case a14 => k_is)
    (case l14 => k_is)
    (case c14 => k_is)
    (case k14 => k_is)
    (case a15 => k_is)
    (case l15 => k_is)
    (case c15 => k_is)
    (case k15 => k_is)
    (case a16 => k_is)
    (case l16 => k_is)
    (case c16 => k_is)
    (case k16 => k_is)
    (case a17 => k_is)
    (case l17 => k_is)
    (case c17 => k_is)
    (case k17 => k_is)
    (case a18 => k_is)
    (case l18 => k_is)
    (case c18 => k_is)
    (case k18 => k_is)
    (case a19 => k_is)
    (case l19 => k_is)
    (case c19 => k_is)
    (case k19 => k_is)
    (case a20 => k_is)
    (case l20 => k_is)
    (case c20 => k_is)
    (case k20 => k_is)
    (case a21 => k_is)
    (case l21 => k_is)
    (case c21 => k_is)
    (case k21 => k_is)
    (case a22 => k_is)
    (case l22 => k_is)
    (case c22 => k_is)
    (case k22 => k_is)
    (case a23 => k_is)
    (case l23 => k_is)
    (case c23 => k_is)
    (case k23 => k_is)
    (case a24 => k_is)
    (case l24 => k_is)
    (case c24 => k_is)
    (case k24 => k_is)
    (case a25 => k_is)
    (case l25 => k_is)
    (case c25 => k_is)
    (case k25 => k_is)
    (case a26 => k_is)
    (case l26 => k_is)
    (case c26 => k_is)
    (case k26 => k_is)
    (case a27 => k_is)
    (case l27 => k_is)
    (case c27 => k_is)
    (case k27 => k_is)
    (case a28 => k_is)
    (case l28 => k_is)
    (case c28 => k_is)
    (case k28 => k_is)
    (case a29 => k_is)
    (case l29 => k_is)
    (case c29 => k_is)
    (case k29 => k_is)
    (case a30 => k_is)
    (case l30 => k_is)
    (case c30 => k_is)
    (case k30 => k_is)
    (case a31 => k_is)
    (case l31 => k_is)
    (case c31 => k_is)
    (case k31 => k_is)
    (case a32 => k_is)
    (case l32 => k_is)
    (case c32 => k_is)
    (case k32 => k_is)
    (case a33 => k_is)
    (case l33 => k_is)
    (case c33 => k_is)
    (case k33 => k_is)
    (case a34 => k_is)
    (case l34 => k_is)
    (case c34 => k_is)
    (case k34 => k_is)
    (case a35 => k_is)
    (case l35 => k_is)
    (case c35 => k_is)
    (case k35 => k_is)
    (case a36 => k_is)
    (case l36 => k_is)
    (case c36 => k_is)
    (case k36 => k_is)
    (case am0 => k_is)
    (case im0 => k_is)
    (case lm0 => k_is)
    (case cm0 => k_is)
    (case km0 => k_is)
    (case am1 => k_is)
    (case im1 => k_is)
    (case lm1 => k_is)
    (case cm1 => k_is)
    (case km1 => k_is)
    (case am2 => k_is)
    (case im2 => k_is)
    (case lm2 => k_is)
    (case cm2 => k_is)
    (case km2 => k_is)
    (case am3 => k_is)
    (case im3 => k_is)
    (case lm3 => k_is)
    (case cm3 => k_is)
    (case km3 => k_is)
    (case am4 => k_is)
    (case im4 => k_is)
    (case lm4 => k_is)
    (case cm4 => k_is)
    (case km4 => k_is)
    (case tim4 => k_is)
    (case am5 => k_is)
    (case im5 => k_is)
    (case lm5 => k_is)
    (case cm5 => k_is)
    (case km5 => k_is)
    (case tim5 => k_is)
    (case am6 => k_is)
    (case im6 => k_is)
    (case lm6 => k_is)
    (case cm6 => k_is)
    (case km6 => k_is)
    (case tim6 => k_is)
    (case am7 => k_is)
    (case im7 => k_is)
    (case lm7 => k_is)
    (case cm7 => k_is)
    (case km7 => k_is)
    (case tim7 => k_is)
    (case am8 => k_is)
    (case im8 => k_is)
    (case lm8 => k_is)
    (case cm8 => k_is)
    (case km8 => k_is)
    (case tim8 => k_is)
    (case rpg => k_is)
    (case rhd => k_is)
    (case rpo => k_is)
    (case rsa => k_is)
    (case rmk => k_is)
    (case rkc => k_is)
    (case rn1 => k_is)
    (case rn2 => k_is)
    (case rn3 => k_is)
    (case rn4 => k_is)
    (case rha => k_is)
    (case rhn => k_is)
    (case rht => k_is)
    (case rhm => k_is)
    (case kRl => kit_is)
    (case kRt => kit_is)
    (case knr => kit_is)
    (case z_int => k_is)
    (case z_len => k_is)
    (case z_abs => k_is)
    (case z_list => k_is)
    (case z_tuple => k_is)
    (case z_bool => k_is)
    (case z_range => k_is)
    (case z_sum => k_is)
    (case z_max => k_is)
    (case z_all => k_is)
    (case z_any => k_is)
    (case z_sorted => k_is)
    (case z_enumerate => k_is)
    (case z_isinstance => k_is)
    (case z_set => k_is)
    (case z_str => k_is)
    (case g_MOST_LENGTH => k_is)
    (case g_LEAST_BARS => k_is)
    (case g_MOST_BARS => k_is)
    (case g_LEAST_TOLD => k_is)
    (case g_MOST_TOLD => k_is)
    (case xeR => k_is)
    (case rveR => first | (with_reducible rfl) | decide +kernel | k_is)
    (case saeR => k_is)
    (case eCeR => k_is)
    (case tCeR => k_is)
    (case kCeR => k_is)
    (case nfeRpart => k_is)
    (case gaeR => k_is)
    (case ggeR => k_is)
    (case hdeR => k_is)
    (case haeR => k_is)
    (case hmeR => k_is)
    (case sbeR => k_is)
    (case xeL => k_is)
    (case rveL => first | (with_reducible rfl) | decide +kernel | k_is)
    (case saeL => k_is)
    (case eCeL => k_is)
    (case tCeL => k_is)
    (case kCeL => k_is)
    (case nfeLpart => k_is)
    (case xeN => k_is)
    (case rveN => first | (with_reducible rfl) | decide +kernel | k_is)
    (case saeN => k_is)
    (case eCeN => k_is)
    (case tCeN => k_is)
    (case kCeN => k_is)
    (case nfeNvalue => k_is)
    (case xeT => k_is)
    (case rveT => first | (with_reducible rfl) | decide +kernel | k_is)
    (case saeT => k_is)
    (case eCeT => k_is)
    (case tCeT => k_is)
    (case kCeT => k_is)
    (case nfeTvalue => k_is)
    (case xeB => k_is)
    (case rveB => first | (with_reducible rfl) | decide +kernel | k_is)
    (case saeB => k_is)
    (case eCeB => k_is)
    (case tCeB => k_is)
    (case kCeB => k_is)
    (case nfeBpart => k_is)
    (case gaeB => k_is)
    (case ggeB => k_is)
    (case hdeB => k_is)
    (case haeB => k_is)
    (case hmeB => k_is)
    (case sbeB => k_is)
    (case eCeX => k_is)
    (case hdeX => k_is)
    (case tCeX => k_is)
    (case lc1 => k_is)
    (case hdc1 => first | rfl | decide +kernel | with_unfolding_all rfl)
    (case nT1 => exact K.out_of Y (by decide +kernel))
    (case lc2 => k_is)
    (case hdc2 => first | rfl | decide +kernel | with_unfolding_all rfl)
    (case nT2 => exact K.out_of Y (by decide +kernel))
    (case nP => decide)
