import PyProof.Rows.All
import Wide.All
import OpenK.AllK
import Wide.FinOn
import HandS.ForMost
import HandS.IsInst
import HandS.Strs
import HandS.ExcInit
import HandS.ExcField
import HandS.ExcIs
import HandS.TryOnly
import HandS.Lambda
import HandS.EndTab
import HandS.Flow
import HandS.SortInts
import HandS.SortRule
import HandS.SortKw
import KE.KTupSum
import HandS.NamedTupSort
import PyProof.P3Eq
import HandS.ReCall
import KE.SortKeyHeap
import HandS.Walk
import KE.GoesEnum
import HandS.Deep
import PyProof.P3In
import KE.KDictPairs
import HandS.Dict
import KE.KExcIs
import HandS.DictComp
import KE.GoesZip
import KE.KDictZip
import HandS.Zip
import HandS.SetFor
import PyProof.Rows.SetFrom
import HandS.Evl
import HandS.WordsExc
import HandS.TupAny
import HandS.Conv
import HandS.Style
import KE.SortData
import KE.KNestM
import PySem.Challenge.RW_ringbars_k55_lineups_counted
set_option Elab.async false
set_option linter.all false
set_option maxRecDepth 100000
set_option maxHeartbeats 4000000
/-! ## rules of our own, for what the rings' program says and the layer has no rule for -/
namespace Rg
open PySem PySem.Spec PyProof.Rows L2

/-! ### f(k = v, ..), oj.m(k = v, ..) -/
section
variable {X : Cx} {CX : CXT} {k : Nat} {f C : Addr} {fd : FuncData} {ps ks : List Str} {sp : Sp} {E : XK} {x m : Str} {p pos apos : Pos} {oj : Expr} {kws : List Keyword} {ta : TE} {tkn : TA}
variable {g : List Value → List Value → List Value} {gV : List V → List V → List V}
theorem pe_callK0 (F : FnOk X.prog X.w X.K X.mg X.base CX k f fd ps sp) (hr : Room k X.A) (hg : Gl X x) (hmm : X.mg x = some (.ref f)) (hk : PySem.W.keepIn X.K (.ref f) = true) (hb : KBinds X.K fd ps ks g gV) (hx : Passes CX X E)
    (hkw : PK X kws tkn) (hall : (backToKw pos (keywordEach kws X.env)).all (·.1.isSome) = true := by rfl) (hks : (backToKw pos (keywordEach kws X.env)).filterMap (·.1) = ks := by rfl)
    (hdb : (x == ("__debug__" : Str)) = false := by decide)
    (hpl : ((backTo pos (starEach [] X.env)).any (·.1) || (backToKw pos (keywordEach kws X.env)).any (·.1.isNone)) = false := by rfl) :
    PE X (.Call (.Name x p) [] kws pos) (tCallK sp gV E tNil tkn) := by
  refine ⟨fun pns s σs Hh Qq Iv h => ?_⟩
  refine wpAny_Call_Name_kw (ld_glob Iv hg hmm ?_ hdb)
  refine PySem.W.callWith_KW0 (h₀ := X.base) Iv.ok.mod.kin hk hall ?_ hpl
  refine thn (hkw.run pos pns s σs Hh _ Iv h) fun kvs2 sh2 ⟨zvs, H2, I2, rlz, q2⟩ => ⟨I2.kIn, ?_⟩
  rw [hks]
  exact run_fnk (us := []) (vs := []) F hr hb hx I2 .nil rlz q2
/-- oj.m(k = v, ..) -/
def tMethK (C : Addr) (m : Str) (sp : Sp) (gV : List V → List V → List V) (E : XK) (ta : TE) (tkn : TA) : TE := fun σs Hh Qq => ta σs Hh fun x H1 => ∃ a dx fs, x = .ref a ∧ H1 a = some (.ins C dx fs) ∧ fs.lookup m = none ∧
  tkn σs H1 fun zvs H2 => sp (gV [.ref a] zvs) H2 Qq E
theorem pe_methK0 {pl : Sem Bool} (he : PE X oj ta) (c : Cls X.K C) (hmm : Meth X.K C m f) (F : FnOk X.prog X.w X.K X.mg X.base CX k f fd ps sp) (hr : Room k X.A) (hb : KBinds X.K fd ps ks g gV) (hx : Passes CX X E)
    (hkw : PK X kws tkn) (hall : (backToKw pos (keywordEach kws X.env)).all (·.1.isSome) = true := by rfl) (hks : (backToKw pos (keywordEach kws X.env)).filterMap (·.1) = ks := by rfl)
    (hpl : ((backTo pos (starEach [] X.env)).any (·.1) || (backToKw pos (keywordEach kws X.env)).any (·.1.isNone)) = false := by rfl)
    (ht : eval (.Call (.Attribute oj m apos) [] kws pos) X.env = (do
      let ov ← eval oj X.env
      standAt apos.atName
      let (f, first) ← holding [ov] (getMethod ov m pl)
      callWith pos f first (backTo pos (starEach [] X.env)) (backToKw pos (keywordEach kws X.env))) := by rfl) :
    PE X (.Call (.Attribute oj m apos) [] kws pos) (tMethK C m sp gV E ta tkn) := by
  refine ⟨fun pns s σs Hh Qq Iv h => ?_⟩
  refine PySem.W.methodCall_KW (pl := pl) (thn (he.run pns s σs Hh _ Iv h) fun u sh1 ⟨x, H1, I1, rlx, a, dx, fs, ex, eqa, l, qq⟩ => ?_) ht
  subst ex
  obtain rfl : u = Value.ref a := rlx
  refine getmeth_ok I1 eqa c hmm l ?_
  refine PySem.W.callWith_KW0 (first := [.ref a]) (h₀ := X.base) Iv.ok.mod.kin hmm.kp hall ?_ hpl
  refine thn (hkw.run pos pns sh1 σs H1 _ I1 qq) fun kvs2 sh2 ⟨zvs, H2, I2, rlz, q2⟩ => ⟨I2.kIn, ?_⟩
  rw [hks]
  exact run_fnk (us := [.ref a]) (vs := [.ref a]) F hr hb hx I2 (.cons rfl .nil) rlz q2
end

/-! ### len(oj), the instance's own __len__ -/
section
variable {X : Cx} {k : Nat} {f : Addr} {fd : FuncData} {sp : Sp}
def rLenO (K : PySem.W.Frag) (f : Addr) (sp : Sp) : List V → Hp → VK → Prop := fun vxs Hh Qq => ∃ a C dx fs, vxs = [.ref a] ∧ Hh a = some (.ins C dx fs) ∧ PySem.W.findIn K (.ref C) "__len__" = some (some (.ref f)) ∧ PySem.W.isFn K (.ref f) = true ∧
  sp [.ref a] Hh (fun v H' => ∃ n : Int, v = .int n ∧ 0 ≤ n ∧ n < 2 ^ 63 ∧ Qq (.int n) H') E0
theorem call_lenO (F : FnOk X.prog X.w X.K X.mg X.base CX0 k f fd ["self"] sp) (hr : Room (k + 1) X.A) (hb : Binds X.K fd ["self"] []) : CallR X (.builtin "len") (rLenO X.K f sp) := by
  intro pns s σs Hh vxs uvs Qq Iv r h
  obtain ⟨a, C, dx, fs, rfl, eqa, hs, hf, qq⟩ := h
  obtain ⟨u, rfl, rlu⟩ := vals1 r
  obtain rfl : u = Value.ref a := rlu
  obtain ⟨mA, O, _, _, _, _⟩ := ins_get Iv.hok eqa
  obtain ⟨m, fr⟩ := Iv.fr
  obtain ⟨od, hod⟩ : ∃ od, s.heap.get? dx = some od := let ⟨oj, _, _, e', _⟩ := O.ns; ⟨oj, e'⟩
  refine PySem.W.len_K fr Iv.ok.mod.kin (ox := PySem.W.instObj C dx) (C := C) (od := some od) ⟨O.obj, rfl, rfl, hod⟩ hs hf ?_
  have hlst : ([Value.ref a] ++ []).length = (["self"] : List Str).length := rfl
  refine wpAny_call (codeAny_mono (F.run X.A.in1 X.stack s Hh ⟨[.ref a], []⟩ [.ref a] [.ref a] _ E0 hr.in1 Iv.env0.in1 (hb s [.ref a] Iv.kIn hlst) (.cons rfl .nil) qq) fun r s' hsq => ?_)
  cases r with
  | error e => exact hsq.elim
  | ok fl =>
    cases fl with
    | ret u =>
      obtain ⟨v, H', I3, rlv, n, ev, h0, hh1, q3⟩ := Iv.after hsq
      subst ev
      obtain ⟨t, rfl⟩ := rlv
      exact ⟨⟨h0, hh1⟩, ⟨.int n, H', I3.tok _, ⟨_, rfl⟩, q3⟩⟩
    | next => exact False.elim hsq
    | brk => exact False.elim hsq
    | cont => exact False.elim hsq
end

/-! ### sum, max of a tuple of ints; vls index -/
section
variable {prog : Program} {w : World} {A : Around} {E : Value → Shared → Prop} {s : Shared} {l : Addr} {vls : List Value} {nms : List Int} {Qq : Value → Shared → Prop}
theorem isTuple_of {h : Heap} (x : IsTup h l vls.toArray) : h.IsTuple l vls.toArray := x
theorem sumT_raw (hcal : A.handled = none) (hlst : s.heap.IsTuple l vls.toArray) (hint : IntsAre vls nms)
    (h : ∀ h' tkn t', (∀ b oj, s.heap.get? b = some oj → h'.get? b = some oj) → Qq (.int nms.sum t') { s with heap := h', toks := tkn }) : wpAny (model prog w) A (call (.builtin "sum") [.ref l]) Qq E s := by
  obtain ⟨vxs, e⟩ := hint.allInts.items
  have hnn : numsOf (intItems vxs).toList = nms := by rw [← e]; exact hint.numsOf
  rw [nums_intItems] at hnn
  rw [e] at hlst
  refine PySem.W.ktm_sumG hcal hlst fun h' tkn t' hk => ?_
  have := h h' tkn t' hk
  rw [preSum_eq, List.take_of_length_le (by simp), hnn]; exact this
end
section
variable {X : Cx}
def rSumT (K : PySem.W.Frag) : List V → Hp → VK → Prop := fun vs Hh Qq => ∃ (a : Addr) (nms : List Int), vs = [V.ref a] ∧ SqT K Hh a (nms.map V.int) ∧ Qq (.int nms.sum) Hh
theorem cr_sumT (hc : X.calm = true) : CallR X (.builtin "sum") (rSumT X.K) := by
  intro pns s σs Hh vs uvs Qq Iv r h
  obtain ⟨a, nms, rfl, hs, qq⟩ := h
  obtain ⟨vls, rlv, hlst, _⟩ := Iv.tuple hs
  rw [Vals.ref1 r]
  exact sumT_raw (Iv.ok.hd hc) (isTuple_of hlst) rlv.ints fun h' tkn t' hk => ⟨.int _, Hh, Iv.kept hk, ⟨_, rfl⟩, qq⟩
end
end Rg
namespace Rg
open PySem PySem.Spec PyProof.Rows L2
/-! ### max of a tuple of ints, vls index, isinstance of a caught error with fields -/
section
variable {prog : Program} {w : World} {A : Around} {E : Value → Shared → Prop} {s : Shared} {l : Addr} {vls : List Value} {nms : List Int} {Qq : Value → Shared → Prop}
theorem max_intTup {vxs : Array (Int × Tok)} (hcal : A.handled = none) (ht : s.heap.IsTuple l (intItems vxs)) (hpos : 0 < vxs.size)
    (h : ∀ v h' tkn, (intItems vxs)[argBest (fun i j => decide (numAt vxs i > numAt vxs j)) (vxs.size - 1)]? = some v → (∀ b oj, s.heap.get? b = some oj → h'.get? b = some oj) → Qq v { s with heap := h', toks := tkn }) :
    wpAny (model prog w) A (call (.builtin "max") [.ref l]) Qq E s := by
  obtain ⟨oj, hob, hc, n, hd⟩ := id ht
  have hI : l ≠ s.heap.objs.size := Nat.ne_of_lt (Heap.lt_size hob)
  refine call_max_walk (wpAny_pyIter_tuple ht ?_)
  refine ⟨s.heap.objs.size, _, _, _, _, _, _, rfl, Walks.tuple (A := A.in1) hcal _ l hI (intItems vxs), ⟨⟨_, Heap.get?_push_size _ rfl, rfl, rfl⟩, ht.at fun oj e => Heap.get?_push_of_some _ e⟩, fun b hb => ?_, by simpa [intItems] using hpos, CmpOf.ints_gt (numAt vxs) (fun _ _ => intItems_at), fun v h' tkn hP hk => ?_⟩
  · rcases List.mem_cons.mp hb with rfl | hb
    · exact Heap.lt_size (Heap.get?_push_size _ rfl)
    · obtain rfl := List.mem_singleton.mp hb
      exact Heap.lt_size (Heap.get?_push_of_some _ hob)
  · refine h v h' tkn (by simpa [intItems] using hP) fun b oj e => ?_
    exact hk b oj (fun hb => absurd (Heap.lt_size e) ((List.mem_singleton.mp hb) ▸ Nat.lt_irrefl _)) (Heap.get?_push_of_some _ e)
theorem maxT_raw (hcal : A.handled = none) (hlst : s.heap.IsTuple l vls.toArray) (hint : IntsAre vls nms) (hpos : 0 < nms.length)
    (h : ∀ h' tkn M t', (∀ b oj, s.heap.get? b = some oj → h'.get? b = some oj) → M ∈ nms → (∀ a, a ∈ nms → a ≤ M) → Qq (.int M t') { s with heap := h', toks := tkn }) : wpAny (model prog w) A (call (.builtin "max") [.ref l]) Qq E s := by
  obtain ⟨vxs, e⟩ := hint.allInts.items
  have hnn : numsOf (intItems vxs).toList = nms := by rw [← e]; exact hint.numsOf
  rw [nums_intItems] at hnn
  subst hnn
  rw [e] at hlst
  have hsz : 0 < vxs.size := by simpa using hpos
  refine max_intTup hcal hlst hsz fun v h' tkn hval hk => ?_
  obtain ⟨t, rfl⟩ := intItems_at hval
  obtain ⟨hh1, hh2⟩ := argBest_gt (numAt vxs) (vxs.size - 1)
  refine h h' tkn _ t hk ?_ fun a ha => ?_
  · rw [numAt_eq]; exact PySem.getD_mem (by rw [List.length_map, Array.length_toList]; omega)
  · obtain ⟨j, hjj, rfl⟩ := mem_getD ha
    rw [List.length_map, Array.length_toList] at hjj
    rw [← numAt_eq]; exact hh2 j (by omega)
end
section
variable {X : Cx}
def rMaxT (K : PySem.W.Frag) : List V → Hp → VK → Prop := fun vs Hh Qq => ∃ (a : Addr) (nms : List Int), vs = [V.ref a] ∧ SqT K Hh a (nms.map V.int) ∧ 0 < nms.length ∧ ∀ m, m ∈ nms → (∀ y, y ∈ nms → y ≤ m) → Qq (.int m) Hh
theorem cr_maxT (hc : X.calm = true) : CallR X (.builtin "max") (rMaxT X.K) := by
  intro pns s σs Hh vs uvs Qq Iv r h
  obtain ⟨a, nms, rfl, hs, hpos, qq⟩ := h
  obtain ⟨vls, rlv, hlst, _⟩ := Iv.tuple hs
  rw [Vals.ref1 r]
  exact maxT_raw (Iv.ok.hd hc) (isTuple_of hlst) rlv.ints hpos fun h' tkn m t' hk hh1 hh2 => ⟨.int _, Hh, Iv.kept hk, ⟨_, rfl⟩, qq m hh1 hh2⟩
theorem flat_ints (yms : List Int) : (yms.map V.int).all flatV = true := by
  rw [List.all_map]
  exact List.all_eq_true.mpr fun _ _ => rfl
def rTIdx (K : PySem.W.Frag) : V → List V → Hp → VK → Prop := fun x vxs Hh Qq => ∃ (p : Addr) (yms : List Int) (z : Int) (j : Nat), x = .ref p ∧ vxs = [.int z] ∧ SqT K Hh p (yms.map V.int) ∧ yms[j]? = some z ∧ (∀ m, m < j → yms[m]? ≠ some z) ∧ Qq (.int (j : Nat)) Hh
theorem mt_tupIdx : MtR X "tuple.index" (rTIdx X.K) := by
  intro pns s σs Hh x vxs v uvs Qq Iv rlx rs h
  obtain ⟨p, yms, z, j, rfl, rfl, hsq, hatj, hnot, qq⟩ := h
  cases rlx
  obtain ⟨u, rfl, t, rfl⟩ := vals1 rs
  obtain ⟨vls, r, pl, hszz⟩ := Iv.tuple hsq
  obtain ⟨⟨cls, dct, dta, slt⟩, hob, hc, n, hd⟩ := pl
  simp only at hc hd
  subst hc
  subst hd
  have hlst : vls.toArray.size = yms.length := by rw [List.size_toArray, ← r.length, List.length_map]
  have hjj : j < vls.toArray.size := by rw [hlst]; exact (List.getElem?_eq_some_iff.mp hatj).1
  have at' : ∀ (m : Nat) (hmm : m < vls.toArray.size), ∃ y t', yms[m]? = some y ∧ vls.toArray[m] = Value.int y t' := fun m hmm => by
    have hm' : m < yms.length := by rw [← hlst]; exact hmm
    obtain ⟨w, hwv, t', hw'⟩ := r.get (i := m) (x := .int yms[m]) (by simp [hm'])
    refine ⟨yms[m], t', List.getElem?_eq_getElem hm', ?_⟩
    have e := (List.getElem?_eq_some_iff.mp hwv).2
    rw [← hw', ← e]
    simp
  refine call_meets PySem.F.slot_tuple_index ⟨_, hob, rfl⟩ PySem.F.entry_tuple_index (PySem.F.args_tuple_index_2 _ _) (TI.tuple_indexAt p vls.toArray n dct slt (.int z t) (eqU (.int z)) j hjj ?_ ?_)
    ⟨hob, fun w hwv => mem_eqAt (x := .int z) ⟨t, rfl⟩ rfl r (flat_ints yms) w (by simpa using hwv), ⟨.int (j : Nat), Hh, Iv.tok _, ⟨_, rfl⟩, qq⟩⟩
  · obtain ⟨y, t', hh1, hh2⟩ := at' j hjj
    rw [hatj] at hh1
    cases hh1
    rw [hh2]
    simp [eqU, eqV]
  · intro m hmm hlt
    obtain ⟨y, t', hh1, hh2⟩ := at' m hmm
    rw [hh2]
    have : y ≠ z := fun e => hnot m hlt (by rw [hh1, e])
    simp [eqU, eqV, this]
end
/-! isinstance(e, c), e the exception that the suite holds, with vls dict -/
def rIsED (K : PySem.W.Frag) (D a : Addr) : List V → Hp → VK → Prop := fun vxs Hh Qq => ∃ (c : V) (cv : Value) (b : Bool), vxs = [.ref a, c] ∧ (∀ u, RelV c u → u = cv) ∧ PySem.W.kitOne K (.ref D) cv = some b ∧ Qq (.bl b) Hh
end Rg
namespace Rg
open PySem PySem.Spec PyProof.Rows L2 SrtO
/-! ### sorted(t), t a tuple -/
section
variable {prog : Program} {w : World} {A : Around} {E : Value → Shared → Prop} {s : Shared} {l : Addr} {vs : List Value}
/-- the heap behind the collecting -/
abbrev colHeap (h : Heap) (vs : List Value) : Heap := (h.push (seqObj "list" #[] 0)).update h.objs.size (Obj.mapSeq (· ++ vs.toArray))
theorem col_tup {Qq : List Value → Shared → Prop} (hlst : s.heap.IsTuple l vs.toArray) (hszz : vs.length ≤ sizeLine) (h : Qq vs { s with heap := colHeap s.heap vs }) : wpAny (model prog w) A (collect (.ref l)) Qq E s := by
  obtain ⟨oj, hob, hc, n, hd⟩ := hlst
  have hnew : (s.heap.push (seqObj "list" #[] 0)).get? s.heap.objs.size = some (seqObj "list" #[] 0) := Heap.get?_push_size _ rfl
  have hold : (s.heap.push (seqObj "list" #[] 0)).get? l = some oj := Heap.get?_push_of_some _ hob
  have tt : (Value.type "tuple" == Value.type "tuple") = true := by rfl
  unfold collect
  refine wpAny_bind (wpAny_runValue (codeAny_builtin entry_proto_collect' ?_))
  show wpAny _ _ (do again (.builtin "list.__iadd__" ⟨[← newList [], .ref l], []⟩)) _ _ s
  refine wpAny_bind (wpAny_newList (wpAny_pure ⟨Code.quiet_builtin _ (by decide +kernel), codeAny_builtin entry_list_iadd' ?_⟩))
  show wpAny _ _ (Builtin.List.listExtendWith (.ref s.heap.objs.size) (.ref l) (.ref s.heap.objs.size)) _ _ { s with heap := s.heap.push (seqObj "list" #[] 0) }
  unfold Builtin.List.listExtendWith
  refine wpAny_bind (wpAny_typeOf (T := "tuple") ⟨oj, hold, hc⟩ ?_)
  rw [if_pos (by rw [tt]; simp)]
  refine wpAny_bind (listItems_at hold hd (wpAny_bind (listItems_at (xs := #[]) (n := 0) hnew rfl ?_)))
  rw [if_neg (by simp)]
  refine wpAny_bind (listUpdate_at (xs := #[]) (n := 0) hnew rfl (wpAny_pure ?_) (Nat.zero_le _) (by show (#[] ++ vs.toArray).size ≤ sizeLine + 1; simp only [Array.size_append, List.size_toArray, List.length_nil]; omega))
  show wpAny (model prog w) A (do
      let oj ← load s.heap.objs.size
      match oj.data with
      | .seq vxs _ => pure vxs.toList
      | _ => unsupported "internal:collect") Qq E { s with heap := colHeap s.heap vs }
  refine wpAny_bind (wpAny_load (get?_update_seq hnew _) ?_)
  show wpAny _ _ (pure ((#[] : Array Value) ++ vs.toArray).toList) Qq E _
  have e : ((#[] : Array Value) ++ vs.toArray).toList = vs := by simp
  rw [e]
  exact wpAny_pure h
theorem sorted_tup {ltv : Value → Value → Bool} {Qq : Value → Shared → Prop} (O : Swo ltv) (hlst : s.heap.IsTuple l vs.toArray) (hszz : vs.length ≤ sizeLine)
    (hS : 2 ≤ vs.length → ∀ (h₁ : Heap) (a : Addr), h₁.get? a = some (seqObj "list" vs.toArray 0) → (∀ b oj, s.heap.get? b = some oj → b ≠ a ∧ h₁.get? b = some oj) → SortableO prog w A.in1.in1 { s with heap := h₁ } a vs ltv)
    (h : ∀ out : List Value, Srtd ltv out → Stb ltv out vs → Qq (.ref (s.heap.objs.size + 1)) { s with heap := sortedAll s.heap vs out.toArray }) : wpAny (model prog w) A (call (.builtin "sorted") [.ref l]) Qq E s := by
  have size1 : (colHeap s.heap vs).objs.size = s.heap.objs.size + 1 := by rw [Heap.size_update, size_push']
  have at1 : ((colHeap s.heap vs).push (seqObj "list" vs.toArray 0)).get? (s.heap.objs.size + 1) = some (seqObj "list" vs.toArray 0) := size1 ▸ Heap.get?_push_size (colHeap s.heap vs) rfl
  have old : ∀ b oj, s.heap.get? b = some oj → b ≠ s.heap.objs.size + 1 ∧ ((colHeap s.heap vs).push (seqObj "list" vs.toArray 0)).get? b = some oj := fun b oj qq => by
    have lt : b < s.heap.objs.size := Heap.lt_size qq
    exact ⟨Nat.ne_of_lt (Nat.lt_succ_of_lt lt), Heap.get?_push_of_some _ ((Heap.get?_update_ne _ _ _ _ (Nat.ne_of_lt lt)).trans (Heap.get?_push_of_some _ qq))⟩
  refine Calls.call_function_entry kind_sorted plain_sorted entry_sorted (args_sorted1 _) ?_
  unfold Builtin.«sorted»
  refine wpAny_bind (m := checkCount "sorted" 1 1 _) (wpAny_pure (wpAny_bind (col_tup hlst hszz (wpAny_bind (wpAny_newList ?_ hszz)))))
  show wpAny _ _ _ _ _ { s with heap := (colHeap s.heap vs).push (seqObj "list" vs.toArray 0) }
  rw [size1]
  exact wpAny_bind (wpAny_holding (wpAny_call_entry slot_list_sort ⟨_, at1, rfl⟩ entry_list_sort (list_sort_ord O at1 hszz (fun hh2 => hS hh2 _ _ at1 old) fun out hs hb => ⟨_, rfl, wpAny_pure ⟨_, rfl, h out hs hb⟩⟩) (args_list_sort _)))
end
section
variable {X : Cx}
def rSortedT (K : PySem.W.Frag) : List V → Hp → VK → Prop := fun vs Hh Qq => ∃ (a : Addr) (nms : List Int), vs = [V.ref a] ∧ SqT K Hh a (nms.map V.int) ∧
  ∀ (ns' : List Int) (p : Addr), ns'.Perm nms → ns'.Pairwise (· ≤ ·) → Hh p = none → Qq (.ref p) (upd Hh p (.lst (ns'.map V.int)))
theorem cr_sortedT : CallR X (.builtin "sorted") (rSortedT X.K) := by
  intro pns s σs Hh vs uvs Qq Iv r h
  obtain ⟨a, nms, rfl, hs, qq⟩ := h
  obtain ⟨vls, rlv, hlst, hszz⟩ := Iv.tuple hs
  have hint := rlv.ints
  rw [List.length_map] at hszz
  rw [Vals.ref1 r]
  refine sorted_tup swo_int (isTuple_of hlst) (by rw [hint.length]; exact hszz) (fun hh2 h₁ a' _ _ => ints_sortable hint hh2) fun out hh1 hh2 => ?_
  obtain ⟨k1, k2, k3⟩ := ints_out hint hh1 hh2
  obtain ⟨ep, he'⟩ := PyProof.Rows.sortedAll_at s.heap vls out.toArray
  exact ⟨.ref _, upd Hh (s.heap.objs.size + 1) (.lst ((out.map iv).map V.int)), Iv.laid (t' := s.toks) (fun _ _ => PyProof.Rows.sortedAll_old) (Nat.le_succ _) ⟨by rw [List.length_map, k2.length_eq]; exact hszz, out, ep, vals_of_ints k1, he'⟩, rfl, qq _ _ k2 k3 (Iv.hok.fresh (Nat.le_succ _))⟩
end
end Rg
namespace Rg
open PySem PySem.Spec PyProof.Rows L2 SrtO
/-! ### sorted(vxs), vxs a list of pairs (k, t): k an int, t a tuple of ints -/
/-- at v a pair of x and a tuple of the ints nms -/
def Nest (h : Heap) (v : Value) (x : Int) (nms : List Int) : Prop := ∃ (a b : Addr) (oj : Obj) (t : Tok) (n : Nat) (vls : List Value), v = .ref a ∧ h.get? a = some oj ∧ oj.cls = .type "tuple" ∧ oj.data = .seq #[.int x t, .ref b] n ∧ IsTup h b vls.toArray ∧ IntsAre vls nms
theorem Nest.kept {h h' : Heap} {v : Value} {x : Int} {nms : List Int} (p : Nest h v x nms) (k : ∀ b oj, h.get? b = some oj → oj.cls = .type "tuple" → h'.get? b = some oj) : Nest h' v x nms := by
  obtain ⟨a, b, oj, t, n, vls, e, hob, hc, hd, ⟨ob, hb, hbc, hbd⟩, hint⟩ := p
  exact ⟨a, b, oj, t, n, vls, e, k _ _ hob hc, hc, hd, ⟨ob, k _ _ hb hbc, hbc, hbd⟩, hint⟩
theorem reads_ints {h : Heap} : ∀ {vs : List Value} {nms : List Int}, IntsAre vs nms → ∃ as, ReadsAll h vs (nms.map PyData.int) as
  | _, _, .nil => ⟨_, .nil⟩
  | _, _, .cons i t r => by
    obtain ⟨as, qq⟩ := reads_ints (h := h) r
    exact ⟨_, .cons (.int i t) qq⟩
theorem eqvA_ints : ∀ vxs yms : List Int, PyData.eqvAll (vxs.map PyData.int) (yms.map PyData.int) = decide (vxs = yms)
  | [], [] => by simp [PyData.eqvAll]
  | [], y :: yms => by simp [PyData.eqvAll]
  | x :: vxs, [] => by simp [PyData.eqvAll]
  | x :: vxs, y :: yms => by
    simp only [List.map_cons, PyData.eqvAll, eqvA_ints vxs yms, PyData.eqv]
    by_cases e : x = y <;> by_cases f : vxs = yms <;> simp [e, f]
theorem layA_ints : ∀ l : List Int, PyData.canLayAll0 (l.map PyData.int) = true
  | [] => by simp [PyData.canLayAll0]
  | i :: l => by simp [PyData.canLayAll0, PyData.canLay0, layA_ints l]
theorem depA_ints : ∀ l : List Int, PyData.depthAll (l.map PyData.int) = 0
  | [] => by simp [PyData.depthAll]
  | i :: l => by simp [PyData.depthAll, PyData.depth, depA_ints l]
theorem lex_self : ∀ l : List Int, HT.lexLt l l = false
  | [] => rfl
  | x :: l => by rw [HT.lexLt_cons, if_pos rfl]; exact lex_self l
section
variable {prog : Program} {w : World} {A : Around} {E : Value → Shared → Prop} {s : Shared}
theorem eq_tupInts {b c : Addr} {vls jts : List Value} {nms ms : List Int} (hb : IsTup s.heap b vls.toArray) (hc : IsTup s.heap c jts.toArray) (hint : IntsAre vls nms) (hjj : IntsAre jts ms) (hu : A.units + 1 < cLine) :
    SeqAt.EqAt A s (.ref b) (.ref c) (decide (nms = ms)) := by
  obtain ⟨o1, hh1, c1, n1, d1⟩ := hb
  obtain ⟨o2, hh2, c2, n2, d2⟩ := hc
  obtain ⟨as, r1⟩ := reads_ints (h := s.heap) hint
  obtain ⟨bs, r2⟩ := reads_ints (h := s.heap) hjj
  have qq := SeqAt.eqAt_reads (.tuple (nms.map PyData.int)) (.tuple (ms.map PyData.int)) A s (.ref b) (.ref c) _ _ (Reads.tuple hh1 c1 d1 r1) (Reads.tuple hh2 c2 d2 r2) (by simp only [PyData.canLay0]; exact layA_ints nms) (by simp only [PyData.canLay0]; exact layA_ints ms)
    (by simp only [PyData.depth, depA_ints]; omega)
  have e : PyData.eqv (.tuple (nms.map PyData.int)) (.tuple (ms.map PyData.int)) = decide (nms = ms) := by
    simp only [PyData.eqv]
    exact eqvA_ints nms ms
  rwa [e] at qq
theorem nest_cmp {vs : List Value} {k : Value → Int × List Int} (hp : ∀ v ∈ vs, Nest s.heap v (k v).1 (k v).2) (hu : A.units + 1 < cLine) :
    SrtO.Cmp prog w A s (tuples' true) (fun p => p.1 ∈ vs) (lt2 fun v u => HT.lexLt ((k v).1 :: (k v).2) ((k u).1 :: (k u).2)) := by
  intro p qq hmm hm'
  have hh1 := hp _ hmm
  have hh2 := hp _ hm'
  show wpAny (model prog w) A (keyLt' (tuples' true) p.1 qq.1) (fun r s' => s' = s ∧ r = HT.lexLt ((k p.1).1 :: (k p.1).2) ((k qq.1).1 :: (k qq.1).2)) (fun _ _ => False) s
  generalize (k p.1).1 = x at hh1 ⊢
  generalize (k p.1).2 = nms at hh1 ⊢
  generalize (k qq.1).1 = y at hh2 ⊢
  generalize (k qq.1).2 = ms at hh2 ⊢
  obtain ⟨a, b, oj, t, n, vls, e, hob, hc, hd, hb, hint⟩ := hh1
  obtain ⟨a', b', o', t', n', its', e', ho', hc', hd', hb', hi'⟩ := hh2
  rw [e, e', HT.lexLt_cons]
  refine PySem.W.kat_lt hob hd ho' hd' ?_
  show PySem.W.KatLex prog w A true (decide (2 < 2)) _ [(.int x t, .int y t'), (.ref b, .ref b')] 0 s
  refine PySem.W.kat_cons (SeqAt.EqAt.int_int x t y t' prog w _ _ (PySem.W.kat_go (fun e1 => PySem.W.kat_yes (PySem.W.kat_cons (eq_tupInts hb hb' hint hi' hu prog w _ _ (PySem.W.kat_go (fun ee2 => ?_) (fun ee2 => ?_))))) (fun e1 => ?_)))
  · have ex : x = y := by simpa using e1
    have ey : nms = ms := of_decide_eq_true ee2
    refine PySem.W.kat_yes (PySem.W.kat_nil ⟨rfl, ?_⟩)
    rw [if_pos ex, ey, lex_self]
    rfl
  · have ex : x = y := by simpa using e1
    rw [if_pos ex]
    exact PySem.W.kat_no (PySem.W.kat_one _ _ (HT.lt_tupInts hb hb' hint hi' (by omega) ⟨rfl, rfl⟩))
  · have ex : ¬ x = y := by simpa using e1
    rw [if_neg ex]
    exact PySem.W.kat_no (oneLt_int ⟨rfl, rfl⟩)
theorem nest_firsts {h : Heap} {k : Value → Int × List Int} : ∀ {vs : List Value}, (∀ v ∈ vs, Nest h v (k v).1 (k v).2) → ∃ fs : List Value, PySem.W.KatTups h vs fs ∧ fs.length = vs.length ∧ ∀ f ∈ fs, ∃ x t, f = Value.int x t
  | [], _ => ⟨[], PySem.W.KatTups.nil, rfl, fun _ z => nomatch z⟩
  | v :: vs, hp => by
    obtain ⟨fs, q1, q2, q3⟩ := nest_firsts fun v' z => hp v' (List.mem_cons_of_mem _ z)
    obtain ⟨a, b, oj, t, n, vls, e, hob, hc, hd, _⟩ := hp v (List.mem_cons_self ..)
    rw [e]
    refine ⟨.int _ t :: fs, PySem.W.KatTups.cons hob hc hd rfl q1, congrArg (· + 1) q2, fun f z => ?_⟩
    rcases List.mem_cons.mp z with z | z
    · exact ⟨_, t, z⟩
    · exact q3 f z
theorem nest_sortable {a : Addr} {vs : List Value} {k : Value → Int × List Int} (h0 : 0 < vs.length) (hu : A.units + 1 < cLine) (hp : ∀ v ∈ vs, Nest s.heap v (k v).1 (k v).2) (ha : ∀ oj, s.heap.get? a = some oj → oj.cls ≠ .type "tuple") :
    SortableO prog w A s a vs fun v u => HT.lexLt ((k v).1 :: (k v).2) ((k u).1 :: (k u).2) := by
  intro h' keep
  have hp' : ∀ v ∈ vs, Nest h' v (k v).1 (k v).2 := fun v z => (hp v z).kept fun b oj e c => keep b oj (fun z => ha oj (z ▸ e) c) e
  obtain ⟨fs, q1, q2, q3⟩ := nest_firsts hp'
  refine ⟨tuples' true, fun Qq E hsq => PySem.W.kat_kind (T := .type "int") q1 (by omega) (fun f z => ?_) (by rfl) ?_, nest_cmp hp' hu⟩
  · obtain ⟨x, t, e⟩ := q3 f z
    rw [e]
    exact PySem.W.Looks.now
  · rw [show (Value.type "int" != Value.type "tuple") = true by decide +kernel]
    exact hsq
end
section
variable {X : Cx}
/-- k says what stands at each item -/
def rSortedN (K : PySem.W.Frag) : List V → Hp → VK → Prop := fun vs Hh Qq => ∃ (a : Addr) (vxs : List V) (k : V → Int × List Int), vs = [V.ref a] ∧ SqL K Hh a vxs ∧ (∀ x ∈ vxs, ∃ t b, x = V.ref t ∧ Hh t = some (.tup [.int (k x).1, .ref b]) ∧ Hh b = some (.tup ((k x).2.map V.int))) ∧
  ∀ yms p, Srtd (fun v u => HT.lexLt ((k v).1 :: (k v).2) ((k u).1 :: (k u).2)) yms → yms.Perm vxs → Hh p = none → Qq (.ref p) (upd Hh p (.lst yms))
theorem cr_sortedN (hu : X.A.units + 64 < cLine) : CallR X (.builtin "sorted") (rSortedN X.K) := by
  intro pns s σs Hh vs uvs Qq Iv r h
  obtain ⟨a, vxs, k, rfl, hs, hx, qq⟩ := h
  obtain ⟨vls, rlv, hlst, hszz⟩ := Iv.list hs
  rw [Vals.ref1 r]
  obtain ⟨e1, ee2⟩ := refs_back rlv fun x m => let ⟨t, _, e, _⟩ := hx x m; ⟨t, e⟩
  have nst : ∀ v ∈ vls, Nest s.heap v (k (backV v)).1 (k (backV v)).2 := fun v hval => by
    obtain ⟨t, rfl⟩ := ee2 v hval
    obtain ⟨t', b, et, hh1, hh2⟩ := hx (V.ref t) (by rw [e1]; exact List.mem_map.mpr ⟨_, hval, rfl⟩)
    cases et
    obtain ⟨_, jts, r2, oj, hob, hc, n, hd⟩ := Iv.hok _ _ hh1
    obtain ⟨u1, u2, rfl, ⟨t1, rfl⟩, r3⟩ := vals2 r2
    obtain rfl : u2 = Value.ref b := r3
    obtain ⟨_, kts, r4, p4⟩ := Iv.hok _ _ hh2
    exact ⟨t, b, oj, t1, n, kts, rfl, hob, hc, hd, p4, r4.ints⟩
  refine sorted_ord (NtL.swo_lexL fun u : Value => (k (backV u)).1 :: (k (backV u)).2) hlst.isList (by rw [← rlv.length]; exact hszz) (fun hh2 h₁ a' ha kk => ?_) fun out hh1 hh2 => ?_
  · refine nest_sortable (s := { s with heap := h₁ }) (k := fun u => k (backV u)) (by omega) (show X.A.units + 1 + 1 + 1 < cLine by omega) (fun v hval => (nst v hval).kept fun b oj e _ => (kk b oj e).2) fun oj e c => ?_
    cases e.symm.trans ha
    exact absurd (Value.type.inj c) (by decide)
  · have h3 : ∀ u ∈ out, ∃ a, u = Value.ref a := fun u hu => ee2 u (hh2.perm.mem_iff.mp hu)
    have hp : (out.map backV).Perm vxs := by rw [e1]; exact hh2.perm.map backV
    obtain ⟨n, hnn⟩ := PyProof.Rows.sortedAll_at s.heap vls out.toArray
    exact ⟨.ref _, upd Hh (s.heap.objs.size + 1) (.lst (out.map backV)), Iv.laid (t' := s.toks) (fun _ _ => PyProof.Rows.sortedAll_old) (Nat.le_succ _) ⟨by rw [hp.length_eq]; exact hszz, out, n, vals_back h3, hnn⟩, rfl,
      qq _ _ (List.pairwise_map.mpr hh1) hp (Iv.hok.fresh (Nat.le_succ _))⟩
end
end Rg
namespace Rg
open PySem PySem.Spec PyProof.Rows L2
/-! tuple(list), whose object is known to have no dict: so that vls methods can be called -/
section
variable {X : Cx}
def rTupF (K : PySem.W.Frag) : List V → Hp → VK → Prop := fun vxs Hh Qq => ∃ p yms, vxs = [V.ref p] ∧ SqL K Hh p yms ∧ ∀ l oj, Hh l = none → oj.dict = none → Qq (.ref l) (upd Hh l (.frz oj (.tup yms)))
theorem cr_tupF : CallR X (.type "tuple") (rTupF X.K) := by
  intro pns s σs Hh vxs uvs Qq Iv r ⟨p, yms, e, hsq, qq⟩
  subst e
  obtain ⟨u, rfl, rlx⟩ := vals1 r
  cases rlx
  obtain ⟨vls, rlv, pl, sz⟩ := Iv.list hsq
  have hnn := rlv.length
  refine call_tuple_list pl.isList (fun hh1 kp => ?_) (by rw [List.size_toArray]; omega)
  have J : Inv X pns σs Hh { s with heap := hh1 } := Iv.kept (t' := s.toks) kp
  have J2 : Inv X pns σs (upd Hh hh1.objs.size (.frz { cls := .type "tuple", data := .seq vls.toArray } (.tup yms))) { s with heap := hh1.push { cls := .type "tuple", data := .seq vls.toArray } } :=
    J.laid (t' := s.toks) (fun b oj e => Heap.get?_push_of_some _ e) (Nat.le_refl _)
      (show ObjOk X.prog X.w _ _ _ (.frz _ (.tup yms)) from ⟨Heap.get?_push_size _ rfl, sz, vls, rlv, IsTup.new _ _⟩)
  exact ⟨.ref hh1.objs.size, _, J2, rfl, qq _ _ (J.hok.fresh (Nat.le_refl _)) rfl⟩
def tyTF (x : V) (Hh : Hp) : Prop := ∃ a oj yms, x = .ref a ∧ Hh a = some (.frz oj (.tup yms)) ∧ oj.dict = none
theorem ty_tf : TyOk X "tuple" tyTF := by
  intro pns σs Hh s x v Iv r ⟨a, oj, yms, e, h, hd⟩
  subst e
  cases r
  obtain ⟨e, _, vls, _, o2, ee2, hc, _⟩ := (show ObjOk X.prog X.w Hh s.heap a (.frz oj (.tup yms)) from Iv.hok a _ h)
  refine ⟨⟨_, ee2, hc⟩, fun b qq => ?_⟩
  cases qq
  exact ⟨oj, e, hd⟩
end
end Rg
namespace Rg
open PySem PySem.Spec PyProof.Rows L2 LamX
/-! ### sorted(lots, key=lambda lot: (len(lot), lot)), lots tuples of ints -/
theorem reads_intsN {h : Heap} : ∀ {vs : List Value} {nms : List Int}, IntsAre vs nms → ReadsAll h vs (nms.map PyData.int) []
  | _, _, .nil => .nil
  | _, _, .cons i t r => .cons (.int i t) (reads_intsN r)
def lotKey (l : List Int) : PyData := .tuple [.int (l.length : Nat), .tuple (l.map PyData.int)]
theorem alike_lotKey (a b : List Int) : PySem.W.alike (lotKey a) (lotKey b) = true := by
  simp [lotKey, PySem.W.alike, PySem.W.alikeAll, PySem.W.alike_ints]
theorem depth_lotKey (a : List Int) : (lotKey a).depth ≤ 4 := by
  simp [lotKey, PyData.depth, PyData.depthAll, PySem.W.depth_ints]
theorem eqvA_ints8 : ∀ vxs yms : List Int, PyData.eqvAll (vxs.map PyData.int) (yms.map PyData.int) = decide (vxs = yms)
  | [], [] => by simp [PyData.eqvAll]
  | [], y :: yms => by simp [PyData.eqvAll]
  | x :: vxs, [] => by simp [PyData.eqvAll]
  | x :: vxs, y :: yms => by
    simp only [List.map_cons, PyData.eqvAll, eqvA_ints8 vxs yms, PyData.eqv]
    by_cases e : x = y <;> by_cases f : vxs = yms <;> simp [e, f]
/-- fewer bars first, then as tuples -/
def lotLe (a b : List Int) : Bool := !PySem.W.dataLt (lotKey b) (lotKey a)
section
variable {prog : Program} {w : World} {A : Around} {s : Shared} {h : Heap}
theorem lotkey_turn {tk : Nat} {f c' t : Addr} {q y : Str} {params : Arguments} {scope : Scope} {pm ctv : Value} {p1 p2 p3 p4 p5 : Pos} {x1 : Nat} {mg mb : Str → Option Value} {ns : List Int} {its : List Value}
    (hroom : A.depth < recursionLimit)
    (hf : h.get? f = some (PySem.W.kla_obj "<lambda>" q params (.Tuple [.Call (.Name "len" p1) [.Name y p2] [] p3, .Name y p4] x1 p5) scope [] pm c' ctv))
    (hco : scope.isCoroutine = false) (hgen : scope.isGenerator = false) (hk : scope.kind = .function)
    (hcell : ∀ x ∈ scope.names, x.2 ≠ .cell) (hy : scope.names.lookup y = some .local) (hlen : scope.names.lookup ("len" : Str) = some .globalImplicit)
    (hbind : ∀ v : Value, bindArgs (PySem.W.kla_fn "<lambda>" q params (.Tuple [.Call (.Name "len" p1) [.Name y p2] [] p3, .Name y p4] x1 p5) scope [] pm (.ref c') ctv) ⟨[v], []⟩ = pure [(y, v)])
    (hcd : h.CodeRec (.ref c') q) (hg : h.Ns mainGlobals mg) (hm : mg ("len" : Str) = none) (hb : h.Ns builtinsNs mb) (hmb : mb ("len" : Str) = some (.builtin "len")) (hnl : h.NoLimit)
    (ht : IsTup h t its.toArray) (hi : IntsAre its ns) (hz : its.length ≤ sizeLine) (hyd : (y == ("__debug__" : Str)) = false) :
    wpAny (model prog w) A (call (.ref f) [.ref t]) (PySem.W.KeyPure (lotKey ns) { s with heap := h, toks := tk }) (fun _ _ => False) { s with heap := h, toks := tk } := by
  refine wpAny_call (PySem.W.kla_callFunE hroom hf rfl hco hgen rfl hcd ?_)
  rw [hbind]
  refine wpAny_pure (wpAny_newFunctionEnv hcell (fun z hz => by rw [List.mem_singleton.mp hz]; exact hy) (fun h₁ hns hsb => ⟨hnl.fresh _ hsb, ?_⟩) hk)
  have kp : ∀ b o, h.get? b = some o → h₁.get? b = some o := fun b o e => hsb.extBut b o (Nat.ne_of_lt (Heap.lt_size e)) (Heap.get?_push_of_some _ e)
  show codeAny _ _ (.expr _ (PySem.W.envX q scope h.objs.size f (.ref c') [])) _ _
  refine PySem.W.kla_codeExpr ?_
  refine wpAny_Tuple_spliced ?_
  have rd : ∀ (A' : Around) (tk' : Nat) (pos : Pos) (Q : Value → Shared → Prop) (E : Value → Shared → Prop), Q (.ref t) { s with heap := h₁, toks := tk' } → wpAny (model prog w) A' (eval (.Name y pos) (PySem.W.envX q scope h.objs.size f (.ref c') [])) Q E { s with heap := h₁, toks := tk' } := fun A' tk' pos Q E hQ =>
    wpAny_Name (wpAny_loadName_local hk hy hns (by show ([(y, Value.ref t)].reverse).lookup y = _; simp) hQ) hyd
  refine Calls.spliced_cons (wpAny_Call_Name_kw (Calls.Name_function_global hk hlen (Calls.loadGlobal_builtin (hg.keeps kp) hm (hb.keeps kp) hmb ?_)))
  refine PyProof.Rows.callWith_builtin1 (Calls.spliced_cons (rd _ _ _ _ _ (Calls.spliced_nil ?_))) rfl rfl
  refine len_tuple (ht.keeps kp) ?_ ?_
  · have := line63
    simp only [List.size_toArray]
    omega
  refine Calls.spliced_cons (rd _ _ _ _ _ (Calls.spliced_nil ⟨by show 2 ≤ sizeLine; decide, ?_⟩))
  refine ⟨_, _, rfl, fun b o e => Heap.get?_push_of_some _ (kp b o e), ?_⟩
  obtain ⟨o, ho, hc, n, hd⟩ := ht.keeps kp
  refine Reads.tuple (Heap.get?_push_size _ rfl) rfl rfl ?_
  show ReadsAll _ [.int (its.toArray.size : Nat) _, .ref t] [.int (ns.length : Nat), .tuple (ns.map .int)] []
  have e1 : its.toArray.size = ns.length := by rw [List.size_toArray, hi.length]
  rw [e1]
  exact ReadsAll.cons (.int _ _) (ReadsAll.cons (Reads.tuple (Heap.get?_push_of_some _ ho) hc hd (reads_intsN hi)) .nil)
end
theorem each_vals : ∀ {out : List Value} {ys : List V}, PySem.W.EachIs (fun u x => RelV x u) out ys → Vals ys out
  | _, _, .nil => .nil
  | _, _, .cons r t => .cons r (each_vals t)
theorem vals_each : ∀ {ys : List V} {out : List Value}, Vals ys out → PySem.W.EachIs (fun u x => RelV x u) out ys
  | _, _, .nil => .nil
  | _, _, .cons r t => .cons r (vals_each t)
section
variable {X : Cx}
/-- sorted(e, key=the lambda) -/
def tSortLots (K : PySem.W.Frag) (T : List (Addr × Str)) (te : TE) : TE := fun σ H Q => te σ H fun v H1 => ∃ (a : Addr) (xs : List V) (k : V → List Int), v = .ref a ∧ SqL K H1 a xs ∧ (∀ x ∈ xs, ∃ t, x = V.ref t ∧ H1 t = some (.tup ((k x).map V.int))) ∧ Tabs T H1 ∧
  ∀ (H2 : Hp) (p : Addr) (ys : List V), ExtN H1 H2 → Tabs T H2 → ys.Perm xs → (ys.Pairwise fun u v => lotLe (k u) (k v) = true) → H2 p = none → Q (.ref p) (upd H2 p (.lst ys))
theorem pe_sortLots {T : List (Addr × Str)} {c P : Addr} {y : Str} {params : Arguments} {scope : Scope} {p p1 p2 p3 p4 p5 lpos kpos pos : Pos} {x1 : Nat} {e : Expr} {te : TE}
    (hdp : X.A.depth < recursionLimit) (hu : X.A.units + 64 < cLine) (hgS : Gl X ("sorted" : Str)) (hmS : X.mg ("sorted" : Str) = none) (hmL : X.mg ("len" : Str) = none) (he : PE X e te)
    (TB : TabB X.base X.mg c P) (hcode : X.env.code = .ref c) (hmT : (P, X.env.qual ++ "<lambda>") ∈ T) (huT : ∀ p ∈ T, p.1 = P → p.2 = X.env.qual ++ "<lambda>")
    (hdef : defaultsOf params X.env = ([], [])) (hco : scope.isCoroutine = false) (hgen : scope.isGenerator = false) (hk : scope.kind = .function)
    (hcell : ∀ x ∈ scope.names, x.2 ≠ .cell ∧ x.2 ≠ .free) (hy : scope.names.lookup y = some .local) (hlen : scope.names.lookup ("len" : Str) = some .globalImplicit) (hclo : cloFrom X.env.cells scope.names [] = [])
    (hbind : ∀ (q : Str) (pm cv ctv v : Value), bindArgs (PySem.W.kla_fn "<lambda>" q params (.Tuple [.Call (.Name "len" p1) [.Name y p2] [] p3, .Name y p4] x1 p5) scope [] pm cv ctv) ⟨[v], []⟩ = pure [(y, v)])
    (hyd : (y == ("__debug__" : Str)) = false := by decide)
    (hes : backTo pos (starEach [e] X.env) = [(false, eval e X.env)] := by rfl) :
    PE X (.Call (.Name "sorted" p) [e] [⟨some "key", .Lambda params (.Tuple [.Call (.Name "len" p1) [.Name y p2] [] p3, .Name y p4] x1 p5) scope lpos, kpos⟩] pos) (tSortLots X.K T te) := by
  refine ⟨fun pins s σ H Q I h => ?_⟩
  refine wpAny_Call_Name_kw (ld_blt I hgS hmS (u := .builtin "sorted") (by decide +kernel) ?_ (by decide) (by decide))
  refine PyProof.Rows.callWith_kw ?_ hes (by rw [hes]; rfl) rfl rfl
  rw [hes]
  refine Calls.spliced_cons (thn (he.run pins s σ H _ I h) fun u s1 ⟨v, H1, I1, r1, q1⟩ => Calls.spliced_nil ?_)
  obtain ⟨a, xs, k, rfl, hs, hx, hT, q⟩ := q1
  obtain rfl : u = Value.ref a := r1
  show wpAny _ _ (evalAll [do let v ← eval (.Lambda params (.Tuple [.Call (.Name "len" p1) [.Name y p2] [] p3, .Name y p4] x1 p5) scope lpos) X.env; standAt pos; pure v]) _ _ _
  refine wpAny_evalAll_cons (wpAny_bind ?_)
  refine lam_make2 I1 TB hcode hmT huT hT hdef (fun z hz ef => absurd ef (hcell z hz).2) fun f c' pm ctv H2 s2 I2 eN T2 hf hfn hfr hco2 => ?_
  rw [hclo] at hf
  refine wpAny_bind (wpAny_standAt (wpAny_pure ?_))
  refine wpAny_evalAll_nil ?_
  show wpAny _ _ (call (.builtin "sorted") [.ref a] [(Str.ofString "key", .ref f)]) _ _ s2
  have hs2 : SqL X.K H2 a xs := by
    rcases hs with (hs | ⟨o, hs⟩) | hs
    · exact .inl (.inl (eN _ _ hs (fun _ z => nomatch z)))
    · exact .inl (.inr ⟨o, eN _ _ hs (fun _ z => nomatch z)⟩)
    · exact .inr hs
  obtain ⟨its, rv, hl, hsz⟩ := I2.list hs2
  have hx2 : ∀ x ∈ xs, ∃ t, x = V.ref t ∧ H2 t = some (.tup ((k x).map V.int)) := fun x m => let ⟨t, e1, e2⟩ := hx x m; ⟨t, e1, eN _ _ e2 (fun _ z => nomatch z)⟩
  obtain ⟨⟨oc, cvs, ct, hoc, hdc, hvc⟩, _, _⟩ := I2.hok c' _ hco2
  obtain ⟨mb, hb1, hb2⟩ := I2.mod.blt
  refine PySem.W.sorted_key_data (β := V) (R := fun u x => RelV x u) (fun x => lotKey (k x)) hl.isList (vals_each rv) (PySem.W.AllAlike.of fun b b' => alike_lotKey _ _) (PySem.W.Sortable.tuples fun b => ⟨_, _, rfl⟩) hsz
    (fun x _ => by have := depth_lotKey (k x); omega) (PyProof.Rows.ksk_s1 _ _) (fun _ => PyProof.Rows.ksk_l1 _ _) (fun x => PyProof.Rows.ksk_t1 f x) ?_ ?_
  · intro v x hR hxm h' tk' hk'
    obtain ⟨t, rfl, ht⟩ := hx2 x hxm
    obtain rfl : v = Value.ref t := hR
    obtain ⟨hz, jts, rj, tj⟩ := I2.hok t _ ht
    refine lotkey_turn (hroom := hdp) (hk' _ _ hf) hco hgen hk (fun z hz => (hcell z hz).1) hy hlen (fun v => hbind _ _ _ _ v) ⟨c', oc, cvs, ct, rfl, hk' _ _ hoc, hdc, hvc⟩
      ((I2.mod.glob.keeps I2.bk).keeps hk') hmL ((hb1.keeps I2.bk).keeps hk') ((hb2 _ (by decide)).trans PySem.boot_len) (I2.nolimit.keeps hk') (tj.keeps hk') rj.ints (by rw [← rj.length]; exact hz) hyd
  · intro out cc h' tk' hk' hfr' hnew hol heach
    have hpm : (xs.mergeSort (PySem.W.dataLe false fun x => lotKey (k x))).Perm xs := List.mergeSort_perm ..
    refine ⟨.ref (s2.heap.objs.size + 1), upd H2 (s2.heap.objs.size + 1) (.lst (xs.mergeSort (PySem.W.dataLe false fun x => lotKey (k x)))), I2.laid (t' := tk') hk' (Nat.le_succ _) ?_, rfl, ?_⟩
    · exact ⟨by rw [hpm.length_eq]; exact hsz, out, cc, each_vals heach, hnew⟩
    · have nf : H2 (s2.heap.objs.size + 1) = none := I2.hok.fresh (Nat.le_succ _)
      refine q _ _ _ eN T2 hpm ?_ nf
      have z := PySem.W.sortLe_total (listOrd itemOrd) false (fun x : V => PySem.W.keyToks (lotKey (k x)))
      exact List.pairwise_mergeSort (le := PySem.W.dataLe false fun x => lotKey (k x)) (fun a b c => z.trans a b c) (fun a b => Bool.or_eq_true _ _ |>.mpr (z.total a b)) xs
end
end Rg
namespace Rg
open PySem PySem.Spec PyProof.Rows L2
/-! ### enumerate(t), t a tuple -/
theorem meets_enum1 {v : Value} {ob : Obj} {Hz : Heap → Prop} (B : Begins v ob Hz) :
    Meets (Builtin.«enumerate.__new__» ⟨[.type "enumerate", v], []⟩) (fun _ R s => Hz s.heap ∧
      R (.ok (.ret (.ref (s.heap.push ob).objs.size))) { s with heap := (s.heap.push ob).push { cls := .type "enumerate", data := .fields #[.none, .bool false, .ref s.heap.objs.size, rawInt 0, .none, .none] } }) :=
  .of_wp fun prog w A R s h => by
    obtain ⟨hp, gg, dd, tk, os⟩ := s
    obtain ⟨hz, h⟩ := h
    have hsub := sub_enumerate
    have go : ∀ {A' : Around} {E' : Value → Shared → Prop} {Q' : Value → Shared → Prop}, Q' (.ref hp.objs.size) ⟨hp.push ob, gg, dd, tk, os⟩ → wpAny (model prog w) A' (pyIter v) Q' E' ⟨hp, gg, dd, tk, os⟩ :=
      fun q => B.iter prog w _ _ ⟨hp, gg, dd, tk, os⟩ _ hz q
    wp_walk using go
    refine wpAny_stack_any fun st => wpAny_pure ?_
    split
    · rename_i c _ _ _ _ _
      cases (c == Value.type "enumerate")
      · wp_walk using go
        exact ⟨_, rfl, h⟩
      · wp_walk using go
        exact ⟨_, rfl, h⟩
    · wp_walk using go
      exact ⟨_, rfl, h⟩
section
variable {prog : Program} {w : World} {A : Around} {E : Value → Shared → Prop} {s : Shared}
theorem call_enum1 {v : Value} {ob : Obj} {Hz : Heap → Prop} {Q : Value → Shared → Prop} (B : Begins v ob Hz) (hz : Hz s.heap)
    (k : ∀ g, IsEnum g (s.heap.objs.size + 1) s.heap.objs.size 0 .none → g.get? s.heap.objs.size = some ob → (∀ c u, s.heap.get? c = some u → g.get? c = some u) → Q (.ref (s.heap.objs.size + 1)) { s with heap := g }) :
    wpAny (model prog w) A (call (.type "enumerate") [v]) Q E s := by
  refine callType_new F.called_enumerate (by decide) (F.typeCall_enumerate_1 _) (F.newCall_enumerate_1 _) (fun obj => F.args_object_init_2 obj _) F.entry_enumerate_new (meets_enum1 B) ⟨hz, ?_⟩
  have sz : (s.heap.push ob).objs.size = s.heap.objs.size + 1 := Heap.size_push ..
  show _ ∧ _
  rw [sz]
  have ie : IsEnum ((s.heap.push ob).push { cls := .type "enumerate", data := .fields #[.none, .bool false, .ref s.heap.objs.size, rawInt 0, .none, .none] }) (s.heap.objs.size + 1) s.heap.objs.size 0 .none := by
    have z := Heap.get?_push_size (s.heap.push ob) (o := { cls := .type "enumerate", data := .fields #[.none, .bool false, .ref s.heap.objs.size, rawInt 0, .none, .none] }) rfl
    rw [sz] at z
    exact z
  exact ⟨⟨_, ie, rfl⟩, k _ ie (Heap.get?_push_of_some _ (Heap.get?_push_size _ B.free)) fun c u x => Heap.get?_push_of_some _ (Heap.get?_push_of_some _ x)⟩
end
/-- the tuple at a as it stands at each turn, each item in a new pair -/
def IteT (K : PySem.W.Frag) (a : Addr) : It :=
  ⟨fun i H => ∃ (xs : List V) (x : V), SqT K H a xs ∧ xs[i]? = some x, fun i H v H' => ∃ T x, v = .ref T ∧ H T = none ∧ H' = upd H T (.tup [.int (i : Nat), x]) ∧ ∀ xs, SqT K H a xs → xs[i]? = some x, fun i H => ∃ xs : List V, SqT K H a xs ∧ xs.length ≤ i⟩
theorem turn_enumT {P : Program} {w : World} {K : PySem.W.Frag} {elts : List Expr} {kk : Nat} {tpos : Pos} (a e it : Addr) :
    Turn P w K (.Tuple elts kk tpos) (IteT K a) [e, it] e (fun i h => (∃ old, IsEnum h e it ((i : Nat) : Int) old) ∧ h.IsTupleIter it a i ∧ e ≠ it) where
  mem := List.mem_cons_self ..
  obj := by
    rintro i h ⟨⟨old, he⟩, ⟨o, ho, hc, hd⟩, _⟩ b hb
    rcases List.mem_cons.mp hb with z | z
    · rw [z]; exact ⟨_, he, fun v q => nomatch q⟩
    · rw [List.mem_singleton.mp z]; exact ⟨o, ho, fun v q => by rw [hd] at q; cases q⟩
  keep := by
    rintro i h h' ⟨⟨old, he⟩, hi, hne⟩ k
    exact ⟨⟨old, k e (by simp) _ he⟩, hi.at fun o q => k it (by simp) o q, hne⟩
  item := by
    intro X hP hw hK hc i pins s σ H E I hf st hg
    subst hP hw hK
    obtain ⟨⟨old, he⟩, hit, hne⟩ := st
    obtain ⟨xs, x, hq, hx⟩ := hg
    obtain ⟨its, rv, tp, hz⟩ := I.tuple hq
    obtain ⟨u, hu, ru⟩ := rv.get hx
    have hel : e < s.heap.objs.size := Heap.lt_size he
    have hil : it < s.heap.objs.size := by obtain ⟨_, q, _⟩ := hit; exact Heap.lt_size q
    obtain ⟨ot, hot, hct, nt, hdt⟩ := tp
    have nai : a ≠ it := fun z => by
      obtain ⟨oi, hoi, hci, _⟩ := hit
      rw [← z, hot] at hoi
      cases hoi
      rw [hct] at hci
      exact absurd (Value.type.inj hci) (by decide)
    have nae : a ≠ e := fun z => by
      have he' := he
      rw [IsEnum, ← z, hot] at he'
      cases he'
      exact absurd (Value.type.inj hct) (by decide)
    have hlt : i < its.toArray.size := by
      rw [List.size_toArray]
      exact (List.getElem?_eq_some_iff.mp hu).1
    refine wpAny_pyNext_enum_itemD (Draws.tuple (A := X.A.in1) (I.ok.hd hc) it a nai its.toArray) he ⟨hit, ⟨ot, hot, hct, nt, hdt⟩⟩ hlt hne (by simp [hne, Ne.symm nae]) fun u' g tk hP ho hst' hT hsz hk => ?_
    have eu : u' = u := by
      have h1 : its.toArray[i]? = some u' := hP
      rw [List.getElem?_toArray, hu] at h1
      exact (Option.some.inj h1).symm
    subst eu
    refine ⟨_, rfl, wpAny_letOwnedTupleGo_enum (s := { s with heap := g, toks := tk + 1 }) ho fun g2 he' sb => ?_⟩
    have hT2 : g2.get? s.heap.objs.size = some { cls := .type "tuple", data := .seq #[.int i tk, u'] } := (sb.2 _ (Nat.ne_of_gt hel)).trans hT
    have I1 : Inv X pins σ (upd H s.heap.objs.size (.tup [.int (i : Nat), x])) { s with heap := g2, toks := tk + 1 } :=
      I.turnedNew (ch := [e, it]) (fun b ob hb q => (sb.2 b (fun z => hb (by simp [z]))).trans (hk b ob (fun z => hb (by simp [z])) (fun z => hb (by simp [z])) q)) hf (Nat.le_refl _)
        ⟨by show 2 ≤ sizeLine; decide, [.int i tk, u'], .cons ⟨_, rfl⟩ (.cons ru .nil), ⟨_, hT2, rfl, _, rfl⟩⟩
    refine ⟨.ref s.heap.objs.size, _, I1, rfl, ⟨_, x, rfl, I.hok.fresh (Nat.le_refl _), rfl, fun ys hy => by rw [I.tuple_inj hy hq]; exact hx⟩, ⟨⟨u', ?_⟩, hst'.1.at fun o q => (sb.2 it (Ne.symm hne)).trans q, hne⟩, fun b hb => ?_⟩
    · have e1 : ((i + 1 : Nat) : Int) = (i : Int) + 1 := by omega
      rw [e1]
      exact he'
    · have hb' : b < s.heap.objs.size := by
        rcases List.mem_cons.mp hb with z | z
        · rw [z]; exact hel
        · rw [List.mem_singleton.mp z]; exact hil
      rw [upd_ne (Nat.ne_of_lt hb')]
      exact (hf b hb).1
  done := by
    intro X hP hw hK hc i pins s σ H E I hf st hg
    subst hP hw hK
    obtain ⟨⟨old, he⟩, hit, hne⟩ := st
    obtain ⟨xs, hq, hx⟩ := hg
    obtain ⟨its, rv, tp, hz⟩ := I.tuple hq
    obtain ⟨f0, f1, f2, f3, f4, f5⟩ := hf it (by simp)
    have hl := rv.length
    have hT : s.TypeIs (.ref e) "enumerate" := ⟨_, he, rfl⟩
    unfold pyNext
    refine wpAny_bind (wpAny_attempt (wpAny_callSpecial?_slot (name := Str.ofString "__next__") hT F.slot_enumerate_next
      (wpAny_call_entry F.slot_enumerate_next hT F.entry_enumerate_next ?_ (F.args_enumerate_next_1 _))))
    show wpAny _ _ (field (.ref e) 2 >>= _) _ _ _
    refine wpAny_bind (wpAny_field he rfl (x := .ref it) rfl ?_)
    refine wpAny_bind (wpAny_nextOf_tuple_end (I.ok.hd hc) hit tp (by simp; omega) fun g x eb hx' => ?_)
    obtain ⟨o, ho, hcl⟩ := hx'
    refine wpAny_bind (wpAny_isInstance (T := "StopIteration") (b := true) ⟨o, ho, hcl⟩ isSubtype_stop ?_)
    exact wpAny_pure ⟨rfl, I.turned (t' := s.toks) (fun b o hb q => eb b o hb q) f0 f1 f3 f4 f5⟩
  self := fun A i s Q E st h => let ⟨⟨_, he⟩, _⟩ := st; wpAny_pyIter_enum he h
def iEnumT (K : PySem.W.Frag) (ta : TA) : TI := fun σ H R => ta σ H fun vs H1 => ∃ a xs, vs = [.ref a] ∧ SqT K H1 a xs ∧ R (IteT K a) H1
theorem pi_enumT {X : Cx} {e : Expr} {ta : TA} {p pos tpos : Pos} {elts : List Expr} {kk : Nat} (hg : Gl X "enumerate") (hm : X.mg "enumerate" = none) (ha : PA X [e] ta) (hs : starEach [e] X.env = [(false, eval e X.env)] := by rfl) :
    PI X (.Tuple elts kk tpos) (.Call (.Name "enumerate" p) [e] [] pos) (iEnumT X.K ta) := by
  refine ⟨fun pins s σ H R I h => ?_⟩
  refine Call_ (ld_blt I hg hm boot_enumerate (PyProof.Rows.callWith_type1 (thn (ha.run pos pins s σ H _ I h) fun us s1 ⟨vs, H1, I1, r1, q1⟩ => ?_) hs rfl))
  obtain ⟨a, xs, rfl, hq, q⟩ := q1
  rw [Vals.ref1 r1]
  obtain ⟨its, rv, tp, hz⟩ := I1.tuple hq
  refine call_enum1 (begins_tuple a its.toArray) tp fun g he hit hk => wpAny_pyIter_enum he ?_
  have I2 : Inv X pins σ H1 { s1 with heap := g } := I1.kept (t' := s1.toks) hk
  refine ⟨s1.heap.objs.size + 1, [s1.heap.objs.size + 1, s1.heap.objs.size], _, _, H1, rfl, I2, turn_enumT a (s1.heap.objs.size + 1) s1.heap.objs.size, ⟨⟨.none, he⟩, ⟨_, hit, rfl, rfl⟩, Nat.succ_ne_self _⟩, fun b hb => ?_, q⟩
  have hle : s1.heap.objs.size ≤ b := by
    rcases List.mem_cons.mp hb with z | z
    · rw [z]; exact Nat.le_succ _
    · rw [List.mem_singleton.mp z]; exact Nat.le_refl _
  exact I1.fpOk hle (I1.hok.fresh hle)
theorem walk_enumT {K : PySem.W.Frag} {a : Addr} {xs : List V} : Walk (IteT K a) xs.length (fun H => SqT K H a xs) (YPair (fun i => some (.int (i : Nat))) (fun i => xs[i]?)) := by
  refine ⟨fun i _ hi q => ⟨xs, xs[i], q, List.getElem?_eq_getElem hi⟩, fun _ q => ⟨xs, q, Nat.le_refl _⟩, fun i H v H' _ q y => ?_⟩
  obtain ⟨T, x, y1, y2, y3, y4⟩ := y
  exact ⟨T, .int (i : Nat), x, y1, y2, y3, rfl, y4 xs q⟩
end Rg
namespace Rg
open PySem PySem.Spec PyProof.Rows L2
/-! ### x in a tuple of data -/
section
variable {X : Cx}
def rInDT (K : PySem.W.Frag) : R2 := fun x y Hh Qq => ∃ dx dxs, Dp K Hh x dx ∧ Dp K Hh y (.tuple dxs) ∧ SeqAt.shaped dx = true ∧ SeqAt.shaped (.tuple dxs) = true ∧ Qq (.bl (dxs.any fun z => PyData.eqv z dx)) Hh
theorem op_inDT (hu : X.A.units + 65 < cLine) : OpR X (compareOp .In) (rInDT X.K) := by
  intro pns s σs Hh x y v u Qq Iv rlx rly h
  obtain ⟨dx, dxs, hdx, hdy, sx, sy, qq⟩ := h
  obtain ⟨as, rd1⟩ := Dp.reads Iv dx x v hdx rlx
  obtain ⟨bs, rd2⟩ := Dp.reads Iv (.tuple dxs) y u hdy rly
  exact SeqAt.in_tuple_reads rd2 rd1 (SeqAt.canLay_of_shaped sy) (SeqAt.canLay_of_shaped sx) (room_in_shaped sx hu) ⟨.bl _, Hh, Iv, rfl, qq⟩
end
end Rg
namespace Rg
open PySem PySem.Spec PyProof.Rows L2
/-! ### dict(xs) of a list of pairs whose keys are tuples -/
section
variable {X : Cx}
def PrT (Hh : Hp) (p : Addr × Addr) (kv : List Key × V) : Prop := Hh p.1 = some (.tup [.ref p.2, kv.2]) ∧ Hh p.2 = some (.tup (kv.1.map kV))
def rDictT (K : PySem.W.Frag) : List V → Hp → VK → Prop := fun vxs Hh Qq => ∃ (a : Addr) (pps : List (Addr × Addr)) (kvs : List (List Key × V)), vxs = [.ref a] ∧ SqL K Hh a ((pps.map (·.1)).map V.ref) ∧
  Paired (PrT Hh) pps kvs ∧ (kvs.map (·.1)).Nodup ∧ ∀ d, Hh d = none → Qq (.ref d) (upd Hh d (.dT kvs))
theorem stored_fresh : ∀ (prs acc : List (List Key × Addr × Value)), ((acc ++ prs).map (·.1)).Nodup → storedAllH acc prs = acc ++ prs
  | [], acc, _ => by rw [List.append_nil]; rfl
  | p :: prs, acc, nd => by
    have e : atKey acc p.1 = none := by
      refine atKey_none_of_get fun j q hj => ?_
      rw [List.map_append, List.nodup_append] at nd
      exact nd.2.2 p.1 (List.mem_map.mpr ⟨_, List.mem_of_getElem? hj, rfl⟩) p.1 (List.mem_cons_self ..) rfl
    show storedAllH (storedH acc p.1 p.2.1 p.2.2) prs = _
    rw [storedH_new e, stored_fresh prs (acc ++ [(p.1, p.2.1, p.2.2)]) (by rw [List.append_assoc]; exact nd), List.append_assoc]
    rfl
theorem prs_of {pns : List (Addr × Obj)} {σs : L2.St} {Hh : Hp} {s : Shared} (Iv : Inv X pns σs Hh s) : ∀ {pps : List (Addr × Addr)} {kvs : List (List Key × V)}, Paired (PrT Hh) pps kvs →
    ∃ prs : List (List Key × Addr × Value), KT Hh kvs prs ∧ prs.length = pps.length ∧ ∀ (j : Nat) (q : List Key × Addr × Value), prs[j]? = some q → ∃ p, pps[j]? = some p ∧ p.2 = q.2.1 ∧ IsTup s.heap p.1 #[.ref q.2.1, q.2.2]
  | _, _, .nil => ⟨[], .nil, rfl, fun j q e => by simp at e⟩
  | _, _, .cons (a := p) (b := kv) h t => by
    obtain ⟨prs, r, hl, hp⟩ := prs_of Iv t
    obtain ⟨its, rv, ht, _⟩ := Iv.tuple (.inl (.inl h.1))
    obtain ⟨u, y, ei, ru, ry⟩ := vals2 rv
    subst ei
    cases ru
    refine ⟨(kv.1, p.2, y) :: prs, .cons ⟨rfl, h.2, ry⟩ r, by rw [List.length_cons, List.length_cons, hl], fun j q e => ?_⟩
    cases j with
    | zero =>
      have e' : (kv.1, p.2, y) = q := Option.some.inj e
      subst e'
      exact ⟨p, rfl, rfl, ht⟩
    | succ j =>
      obtain ⟨b, e1, e2, e3⟩ := hp j q (by simpa using e)
      exact ⟨b, by simpa using e1, e2, e3⟩
theorem kt_new {Hh : Hp} {d : Addr} {u : HO} (hd : Hh d = none) : ∀ {kvs : List (List Key × V)} {prs : List (List Key × Addr × Value)}, KT Hh kvs prs → KT (upd Hh d u) kvs prs
  | _, _, .nil => .nil
  | _, _, .cons ⟨h1, h2, h3⟩ t => .cons ⟨h1, by rw [upd_ne (ne_of_none h2 hd)]; exact h2, h3⟩ (kt_new hd t)
theorem kt_keys {Hh : Hp} : ∀ {kvs : List (List Key × V)} {prs : List (List Key × Addr × Value)}, KT Hh kvs prs → prs.map (·.1) = kvs.map (·.1)
  | _, _, .nil => rfl
  | _, _, .cons ⟨h1, _, _⟩ t => by rw [List.map_cons, List.map_cons, kt_keys t, h1]
theorem kt_get {Hh : Hp} : ∀ {kvs : List (List Key × V)} {prs : List (List Key × Addr × Value)}, KT Hh kvs prs → ∀ q ∈ prs, Hh q.2.1 = some (.tup (q.1.map kV))
  | _, _, .nil => fun q h => nomatch h
  | _, _, .cons ⟨h1, h2, _⟩ t => fun q h => by
    rcases List.mem_cons.mp h with e | e
    · subst e
      rw [← h1]
      exact h2
    · exact kt_get t q e
theorem call_dictT (hcalm : X.calm = true) (hu : X.A.units + 2 < cLine) : CallR X (.type "dict") (rDictT X.K) := by
  intro pns s σs Hh vxs uvs Qq Iv r q
  obtain ⟨a, pps, kvs, rfl, hq, hp, nd, q⟩ := q
  obtain ⟨u, rfl, rx⟩ := vals1 r
  cases rx
  obtain ⟨its, rv, pl, hz⟩ := Iv.list hq
  have ei := refs_at rv
  subst ei
  rw [List.length_map, List.length_map] at hz
  obtain ⟨prs, rel, hl, hpr⟩ := prs_of Iv hp
  obtain ⟨o, n, ho, hc, hd, hdat⟩ := pl
  have hk := kt_get rel
  have P := PairArg.list (prog := X.prog) (w := X.w) a ((pps.map (·.1)).map Value.ref).toArray (fun j => ((pps[j]?).map (·.1)).getD 0) (prs.map fun q => (Value.ref q.2.1, q.2.2))
  refine call_dict_pairsH (knd := tupleKind (mixKind X.prog X.w)) (ps := prs) P (Iv.ok.hd hcalm) hu ⟨⟨o, n, ho, hc, hd, hdat⟩, ?_, fun j k v hj => ?_⟩ ⟨by rw [List.length_map], fun i key v hi => ?_⟩ (fun h' hs x hx => ?_) (by rw [List.length_map, hl]; exact hz) fun h' tk hd' ks => ?_
  · simp [hl]
  · rw [List.getElem?_map] at hj
    obtain ⟨qq, hq2, e⟩ := Option.map_eq_some_iff.mp hj
    obtain ⟨p, e1, e2, e3⟩ := hpr j qq hq2
    injection e with ek ev
    subst ek ev
    refine ⟨?_, ?_⟩
    · simp [e1]
    · show PairAt s.heap (((pps[j]?).map (·.1)).getD 0) _ _
      rw [e1]
      exact .inl e3
  · rw [show PairRel (prs.map fun q => (Value.ref q.2.1, q.2.2)) i key v = ((prs.map fun q => (Value.ref q.2.1, q.2.2))[i]? = some (key, v)) from rfl, List.getElem?_map] at hi
    obtain ⟨qq, hq2, e⟩ := Option.map_eq_some_iff.mp hi
    injection e with ek ev
    subst ek ev
    exact ⟨qq.1, qq.2.1, hq2, rfl⟩
  · obtain ⟨o', items, m, h1, h2, h3, h4⟩ := key_of Iv.hok (hk x hx)
    exact ⟨o', items, m, hs _ _ (Nat.ne_of_lt (Heap.lt_size h1)) (by simp) h1, h2, h3, h4⟩
  · rw [stored_fresh prs [] (by rw [List.nil_append, kt_keys rel]; exact nd), List.nil_append] at hd'
    have hm : (s.heap.objs.size == sysModules) = false := beq_eq_false_iff_ne.mpr (Nat.ne_of_gt Iv.big)
    have hfr := Iv.hok.fresh (Nat.le_refl s.heap.objs.size)
    obtain ⟨o2, es, ep, g1, g2, g3, g4, g5, g6⟩ := hd'
    have hlen : kvs.length ≤ sizeLine := by
      have := congrArg List.length (kt_keys rel)
      rw [List.length_map, List.length_map] at this
      omega
    exact ⟨.ref s.heap.objs.size, upd Hh s.heap.objs.size (.dT kvs), Iv.laid (t' := tk) (fun b u e => ks b u (by simp) e) (Nat.le_refl _) (show ObjOk X.prog X.w _ _ _ (.dT kvs) from ⟨hlen, hm, prs, kt_new hfr rel, o2, es, ep, g1, g2, g3, g4, g6⟩), rfl, q _ hfr⟩
end
end Rg
namespace Rg
open PySem PySem.Spec PyProof.Rows L2
/-! ### an error that is kept behind its clause -/
/-- an error object of the class at C, its dict at dd -/
def errO (e C : Addr) (dd : Option Addr) : HO := .ext fun hp => ∃ (ob : Obj) (vs : Array Value), hp.get? e = some ob ∧ ob.cls = .ref C ∧ ob.dict = dd ∧ ob.data = .fields vs
theorem errO_at {P : Program} {w : World} {H : Hp} {hp : Heap} {e C : Addr} {dd : Option Addr} (hok : HOk P w H hp) (he : H e = some (errO e C dd)) : ∃ (ob : Obj) (vs : Array Value), hp.get? e = some ob ∧ ob.cls = .ref C ∧ ob.dict = dd ∧ ob.data = .fields vs := (hok e _ he).1
theorem errO_ok {P : Program} {w : World} {H : Hp} {hp : Heap} {e C : Addr} {dd : Option Addr} {ob : Obj} {vs : Array Value} (he : hp.get? e = some ob) (h1 : ob.cls = .ref C) (h2 : ob.dict = dd) (h3 : ob.data = .fields vs) : ObjOk P w H hp e (errO e C dd) :=
  ⟨⟨ob, vs, he, h1, h2, h3⟩, ⟨ob, he⟩, fun _ _ ⟨ob', vs', a, b, c, d⟩ st => ⟨ob', vs', st _ a, b, c, d⟩⟩
/-- a thing that was not tracked is tracked from now on -/
theorem inv_know {X : Cx} {pns : List (Addr × Obj)} {σs : L2.St} {Hh : Hp} {sh : Shared} {e : Addr} {u : HO} (Iv : Inv X pns σs Hh sh) (ne : Hh e = none) (old : e ∉ X.ex → ∀ ob, X.s_0.heap.get? e = some ob → False) (nl : e ≠ X.env.locals)
    (nc : ∀ y c, X.env.cells.lookup y = some c → c ≠ e) (np : ∀ p ∈ X.pn ++ pns, p.1 ≠ e) (ob : ObjOk X.prog X.w (upd Hh e u) sh.heap e u) : Inv X pns σs (upd Hh e u) sh := by
  have oth : ∀ b, b ≠ e → upd Hh e u b = Hh b := fun b hb => upd_ne hb
  have keepS : ∀ {b : Addr} {o : HO}, Hh b = some o → upd Hh e u b = some o := fun {b o} q => by rw [oth b (ne_of_none q ne)]; exact q
  refine ⟨Iv.ok, Iv.os, Iv.bare, ⟨Iv.base.keep, Iv.base.slot, fun b o a n x => ?_, Iv.base.there, fun b xs q => keepS (Iv.base.tups b xs q), fun b o z q => keepS (Iv.base.frzs b o z q), fun b ps q => ?_⟩, Iv.loc, Iv.cell, ?_, fun y c q => ?_, fun p hp => ?_, fun b o q => ?_, Iv.len⟩
  · by_cases hb : b = e
    · subst hb
      exact (old x o a).elim
    · rw [oth b hb]
      exact Iv.base.free b o a n x
  · obtain ⟨more, q'⟩ := Iv.base.tbls b ps q
    exact ⟨more, keepS q'⟩
  · rw [oth _ (Ne.symm nl)]
    exact Iv.free
  · rw [oth _ (nc y c q)]
    exact Iv.freeC y c q
  · obtain ⟨a1, a2, a3⟩ := Iv.pin p hp
    exact ⟨a1, by rw [oth _ (np p hp)]; exact a2, a3⟩
  · by_cases hb : b = e
    · subst hb
      rw [upd_same] at q
      cases q
      exact ob
    · rw [oth b hb] at q
      exact (Iv.hok b o q).stay (fun _ _ _ z => z) (fun c z => keepS z) fun c xs z => keepS z
end Rg
namespace Rg
open PySem PySem.Spec PyProof.Rows L2
/-- what the clause asks: the error is one of the class cv; it is tracked while the suite runs and from then on -/
def wKeep (K : PySem.W.Frag) (cv : Value) (ix : Nat) (tsu : TS) (De : Ends) : WX := fun cls dd σs Hh =>
  PySem.W.exmOne K cls cv = some true ∧ ∃ C : Addr, cls = .ref C ∧ ∀ e, Hh e = none → tsu { nx := fun τ J => De.nx (τ.set ix none) J, rt := De.rt, bk := fun τ J => De.bk (τ.set ix none) J, ct := fun τ J => De.ct (τ.set ix none) J } (σs.set ix (some (.ref e))) (upd Hh e (errO e C dd))
section
variable {X : Cx} {pns : List (Addr × Obj)} {σs : L2.St} {Hh : Hp} {sh : Shared}
theorem inv_in (Iv : Inv X pns σs Hh sh) (e : Addr) : Inv (X.suite e (X.pn ++ pns)) [] σs Hh sh :=
  ⟨Iv.ok.suite _ _, Iv.os, Iv.bare, Iv.base, Iv.loc, Iv.cell, Iv.free, Iv.freeC, fun p hp => Iv.pin p (by simpa using hp), Iv.hok, Iv.len⟩
theorem inv_out {e : Addr} (Iv : Inv (X.suite e (X.pn ++ pns)) [] σs Hh sh) (ok : X.Ok) : Inv X pns σs Hh sh :=
  ⟨ok, Iv.os, Iv.bare, Iv.base, Iv.loc, Iv.cell, Iv.free, Iv.freeC, fun p hp => Iv.pin p (by simpa using hp), Iv.hok, Iv.len⟩
end
section
variable {X : Cx} {y n : Str} {cv : Value} {ix : Nat} {bd su : List Stmt} {st0 : Stmt} {np po po' : Pos} {tbd : WX → TS} {tsu : TS}
theorem ps_try_keep (hstk : X.stack = X.env :: X.outer) (hfr0 : X.env.frame = some X.env.locals) (hnd : X.N.Nodup) (hix : X.N[ix]? = some n) (hnl : X.env.kindOf n = some .local) (hcl : Names X y cv)
    (hbd : ∀ (W : WX) (pn : List (Addr × Obj)) (xe : Value → Shared → Prop), Takes (X.tr pn xe) W → PassesOwn (model X.prog X.w) X.A X.env xe → PSs (X.tr pn xe) bd (tbd W))
    (hsu : ∀ (e : Addr) (pn : List (Addr × Obj)), PSs (X.suite e pn) (st0 :: su) tsu) :
    PS X (.Try bd [.ExceptHandler (some (.Name y np)) (some n) (st0 :: su) po'] [] [] po) (fun De σs Hh => tbd (wKeep X.K cv ix tsu De) De σs Hh) := by
  refine ⟨fun pns sh σs Hh De Iv hh => ?_⟩
  have ok := Iv.ok
  have hfr : X.A.frames = some (X.env :: X.outer) := by rw [ok.frames, hstk]
  have hbody := (hbd (wKeep X.K cv ix tsu De) (X.pn ++ pns) (fun e s1 => wpAny (model X.prog X.w) X.A (noteFrame e X.env) (fun _ s2 => wpAny (model X.prog X.w) X.A (setFlight e none) (fun _ s3 =>
    wpAny (model X.prog X.w) X.A (handleBy e X.env [.ExceptHandler (some (.Name y np)) (some n) (st0 :: su) po']) (SP X pns De) X.xe s3) X.xe s2) X.xe s1) (fun u sx xx => ?_) PassesOwn.looking).run [] sh σs Hh De (Iv.toTry _) hh
  · refine wpAny_Try_except (wpAny_mono hbody (fun fl s1 q => ?_) fun _ _ q => q)
    cases fl with
    | next =>
      obtain ⟨τ, J, Jv, q⟩ := q
      exact wpAny_execs_nil ⟨τ, J, Jv.ofTry ok, q⟩
    | brk => exact let ⟨τ, J, Jv, q⟩ := q; ⟨τ, J, Jv.ofTry ok, q⟩
    | cont => exact let ⟨τ, J, Jv, q⟩ := q; ⟨τ, J, Jv.ofTry ok, q⟩
    | ret u => exact let ⟨v, τ, J, Jv, r, q⟩ := q; ⟨v, τ, J, Jv.ofTry ok, r, q⟩
  -- the error is at e
  obtain ⟨e, B, sI, _, τ, J, cls, dd, rfl, Jv0, nb, up, sky, ne, os, ag, hb, C, rfl, hyes⟩ := xx
  have Jv : Inv X pns τ J sI := Jv0.ofTry ok
  rw [hstk] at sky
  refine Sky.land Zc.steady hfr hfr0 sky fun h3 fl3 up3 => ?_
  have K3 : Inv X pns τ J { sx with heap := h3 } := Jv.landed nb fl3.1 (up.trans up3) os ag
  obtain ⟨o3, v3, g3, z3, d3⟩ := fl3.there
  have enf : e ∉ frs X.stack := fun hm => by
    rw [hstk] at hm
    obtain ⟨_, o', e', hnf⟩ := fl3.2.2.1.mem hm
    rw [g3] at e'
    cases e'
    exact hnf _ d3
  have enl : e ≠ X.env.locals := fun z => enf (by rw [hstk]; exact List.mem_filterMap.mpr ⟨X.env, List.mem_cons_self, by rw [hfr0, z]⟩)
  have enF : e ∉ X.fs := fun hm => enf (by
    rw [hstk]
    obtain ⟨ev, he, q⟩ := List.mem_filterMap.mp hm
    exact List.mem_filterMap.mpr ⟨ev, List.mem_cons_of_mem _ he, q⟩)
  have gone : ∀ ob, sI.heap.get? e = some ob → False := fun ob q => by
    have a := nb e ob q enf
    rw [fl3.2.1] at a
    cases a
  -- tracked
  have know : ∀ {h4 : Heap} {o4 : Obj} {v4 : Array Value}, Inv X pns τ J { sx with heap := h4 } → h4.get? e = some o4 → Zc (.ref C) dd o4 → o4.data = .fields v4 → Inv X pns τ (upd J e (errO e C dd)) { sx with heap := h4 } := fun {h4 o4 v4} K4 g4 z4 d4 => by
    refine inv_know K4 ne (fun hx ob q => ?_) enl (fun x c q z => ?_) (fun p hp z => ?_) (errO_ok g4 z4.1 z4.2 d4)
    · obtain ⟨o', q'⟩ := Jv.base.there e ob q hx
      exact gone o' q'
    · obtain ⟨v, o', q', _⟩ := Jv.cell x c q
      rw [z] at q'
      exact gone _ q'
    · obtain ⟨q', _⟩ := Jv.pin p hp
      rw [z] at q'
      exact gone _ q'
  have test : ∀ {Q E : Value → Shared → Prop}, Q cv { sx with heap := h3 } → wpAny (model X.prog X.w) (X.A.mark (some (.ref e))) (eval (.Name y np) X.env) Q E { sx with heap := h3 } := fun {Q E} q => by
    have S3 := inv_in K3 e
    obtain ⟨hg, hdb, hm | ⟨hm, hv, hn⟩⟩ := hcl
    · exact ld_glob S3 hg hm q hdb
    · exact ld_blt S3 hg hm hv q hn hdb
  refine wpAny_handleBy_cons (codeAny_handlers_test (test ((PySem.W.exm_one (M := model X.prog X.w) K3.kIn (fun _ _ _ _ k q => wpAny_typeOf_ref (k _ _ g3) (by rw [z3.1]; exact q)) hb).here (codeAny_handlers_suite_as (HandSPX.lands_againZ fl3 fun h4 fl4 up4 => ?_))))) (by intro q; cases q)
  obtain ⟨o4, v4, g4, z4, d4⟩ := fl4.there
  have K4 := know (Jv.landed nb fl4.1 ((up.trans up3).trans up4) os ag) g4 z4 d4
  refine store_ok (X := X.suite e (X.pn ++ pns)) (v := .ref e) (inv_in K4 e) hnd hix (.inl hnl) rfl (fun s5 S5 => ?_) (.inr hnl)
  refine wpAny_mono ((hsu e _).run [] s5 _ _ _ S5 (hyes e ne)) (fun fl s6 q => ?_) fun _ _ z => z.elim
  have fin : ∀ {ρ : L2.St} {L : Hp} {Q : Shared → Prop}, Inv (X.suite e (X.pn ++ pns)) [] ρ L s6 → (∀ s7, Inv X pns (ρ.set ix none) L s7 → Q s7) → wpAny (model X.prog X.w) X.A (do bindName X.env n .none; unbindBehindTheSuite X.env n po') (fun _ s7 => Q s7) X.xe s6 :=
    fun {ρ L Q} S6 hq => gone_ok (inv_out S6 ok) hnd hix hnl hq
  cases fl with
  | next => exact let ⟨ρ, L, S6, q⟩ := q; fin S6 fun s7 I7 => ⟨_, _, I7, q⟩
  | brk => exact let ⟨ρ, L, S6, q⟩ := q; fin S6 fun s7 I7 => ⟨_, _, I7, q⟩
  | cont => exact let ⟨ρ, L, S6, q⟩ := q; fin S6 fun s7 I7 => ⟨_, _, I7, q⟩
  | ret u => exact let ⟨v, ρ, L, S6, r, q⟩ := q; fin S6 fun s7 I7 => ⟨_, _, _, I7, r, q⟩
end
end Rg
namespace Rg
open PySem PySem.Spec PyProof.Rows L2
theorem call_or {X : Cx} {fv : Value} {r1 r2 : List V → Hp → VK → Prop} (h1 : CallR X fv r1) (h2 : CallR X fv r2) : CallR X fv (fun xs Hh Qq => r1 xs Hh Qq ∨ r2 xs Hh Qq) := fun pns s σs Hh xs us Qq Iv rr h => h.elim (h1 pns s σs Hh xs us Qq Iv rr) (h2 pns s σs Hh xs us Qq Iv rr)
/-- an error that is kept: its object, its dict -/
def ErrV (Hh : Hp) (x : V) (C : Addr) (fs : List (Str × V)) : Prop := ∃ (e dd : Addr), x = .ref e ∧ Hh e = some (errO e C (some dd)) ∧ Hh dd = some (.xd fs)
theorem err_inst {P : Program} {w : World} {Hh : Hp} {hp : Heap} {e C dd : Addr} {fs : List (Str × V)} (hok : HOk P w Hh hp) (he : Hh e = some (errO e C (some dd))) (hd : Hh dd = some (.xd fs)) :
    ∃ (ob od : Obj) (mA : Str → Option Value), PySem.W.InstAt hp e ob C (some od) ∧ (∀ f, PySem.W.lookIn f od = some (mA f)) ∧ ∀ f, RelO (fs.lookup f) (mA f) := by
  obtain ⟨ob, vs, g, c1, c2, c3⟩ := errO_at hok he
  obtain ⟨mA, hns, hr⟩ := (show ObjOk P w Hh hp dd (.xd fs) from hok dd _ hd)
  obtain ⟨od, ho, hl⟩ := lookIn_ns hns
  exact ⟨ob, od, mA, ⟨g, c1, by unfold PySem.W.notCls; rw [c3] <;> rfl, by rw [c2]; exact ho⟩, hl, hr⟩
/-- isinstance(e, c), e an error that is kept -/
def rIsE (K : PySem.W.Frag) : List V → Hp → VK → Prop := fun xs Hh Qq => ∃ (x c : V) (cv : Value) (C : Addr) (fs : List (Str × V)) (b : Bool), xs = [x, c] ∧ (∀ u, RelV c u → u = cv) ∧ ExcC K C ∧ ErrV Hh x C fs ∧ PySem.W.kitOne K (.ref C) cv = some b ∧ Qq (.bl b) Hh
theorem cr_isE {X : Cx} : CallR X (.builtin "isinstance") (rIsE X.K) := by
  intro pns s σs Hh xs us Qq Iv rr ⟨x, c, cv, C, fs, b, ex, hcv, G, ⟨e, dd, ez, he, hd⟩, kit, q⟩
  subst ex ez
  obtain ⟨u1, u2, rfl, r1, r2⟩ := vals2 rr
  obtain rfl : u1 = Value.ref e := r1
  obtain rfl := hcv _ r2
  obtain ⟨ob, od, mA, J, _, _⟩ := err_inst Iv.hok he hd
  have hcl : (PySem.W.clsIn X.K C).isSome = true := by
    obtain ⟨cd, hc, _⟩ := PySem.W.any_some G.hd
    rw [hc]
    rfl
  exact PySem.W.kia_one (PySem.W.kitx_exc hcl G.hg G.hk G.hs G.ha G.hn G.ht G.hm) Iv.kIn J kit (fun z => nomatch z) fun tk => ⟨.bl b, Hh, Iv.kept (t' := tk) fun _ _ z => z, rfl, q⟩
/-- e.f, e an error that is kept -/
def tFldE (K : PySem.W.Frag) (te : TE) (f : Str) : TE := fun σs Hh Qq => te σs Hh fun x J => ∃ (C : Addr) (fs : List (Str × V)) (v : V), ErrV J x C fs ∧ XfC K C ∧ PySem.W.findIn K (.ref C) f = some none ∧ fs.lookup f = some v ∧ Qq v J
theorem pe_fldE {X : Cx} {ex : Expr} {te : TE} {po : Pos} {n : Str} (he : PE X ex te) (hb : attributeBase ex n X.env (eval ex X.env) = eval ex X.env := by rfl) : PE X (.Attribute ex n po) (tFldE X.K te n) := by
  refine ⟨fun pns s σs Hh Qq Iv h => attr_of hb (thn (he.run pns s σs Hh _ Iv h) fun u s1 hh => ?_)⟩
  obtain ⟨x, J, I1, rx, C, fs, v, ⟨e, dd, ez, g1, g2⟩, T, hno, l, q⟩ := hh
  subst ez
  obtain rfl : u = Value.ref e := rx
  obtain ⟨ob, od, mA, K1, hl, hr⟩ := err_inst I1.hok g1 g2
  obtain ⟨z, hz, rz⟩ := RelO.some_of (v := v) (o := mA n) (by rw [← l]; exact hr n)
  exact HandSPX.exc_get I1.kIn K1 T.ga T.gg T.exC (PySem.W.findObj_own T.hdC hno rfl (by rw [hl, hz])) (handed_of rz) ⟨v, J, I1.tok _, rz, q⟩
end Rg
namespace Rg
open PySem PySem.Spec PyProof.Rows L2
/-- name = {k: v for ..}, a plain local name -/
theorem sw_dc {kx vx : Expr} {gs : List Comprehension} {sc : Scope} {po py : Pos} {y : Str} {ln : Nat} {ev : Env} (hk : ev.scope.kind = .function) (hy : ev.scope.names.lookup y = some .local) (hl : (py.line == po.line) = true)
    (ha : (sc.names.any fun (n, k) => n == y && (k == .local || k == .cell)) = false) : swapsWith (.DictComp kx vx gs sc po) (some (.Name y py)) ln ev = pure true := by
  have k1 : ev.kindOf y = some .local := hy
  have k2 : ev.blockKind = .function := by unfold Env.blockKind; rw [hk]; rfl
  unfold swapsWith
  simp only [k2, k1, ha, Expr.pos, hl]
  rfl
section
variable {X : Cx}
theorem ps_setDc {ix : Nat} {y : Str} {py : Pos} {kx vx tg itx : Expr} {ifs : List Expr} {sc : Scope} {own : List (Str × Nat)} {po spo : Pos} {wi : TI} {g : TG} {tt : TT} {tk tv : TE} (hc : X.calm = true) (hN : X.N.Nodup) (hy : X.N[ix]? = some y) (hyl : X.env.scope.names.lookup y = some .local)
    (hsw : swapsWith (.DictComp kx vx [⟨tg, itx, ifs, 0⟩] sc po) (some (.Name y py)) spo.line X.env = pure true) (hi : PI X tg itx wi) (ok : BlkOk X.N X.env.scope sc own)
    (hg : ∀ (s : Shared) (H : Hp) (C : Addr) (cl : List (Str × Addr)) (fp : List Addr), PG (X.blk s H sc (compEnvC sc cl C X.env) fp) tg g) (ht : ∀ (s : Shared) (H : Hp) (C : Addr) (cl : List (Str × Addr)) (fp : List Addr), PTs (X.blk s H sc (compEnvC sc cl C X.env) fp) ifs tt)
    (hk : ∀ (s : Shared) (H : Hp) (C : Addr) (cl : List (Str × Addr)) (fp : List Addr), PE (X.blk s H sc (compEnvC sc cl C X.env) fp) kx tk) (he : ∀ (s : Shared) (H : Hp) (C : Addr) (cl : List (Str × Addr)) (fp : List Addr), PE (X.blk s H sc (compEnvC sc cl C X.env) fp) vx tv)
    (hs : ∀ x, foldedSetIterable itx X.env x = pure x := by intro _; rfl) : PS X (.Assign [.Name y py] (.DictComp kx vx [⟨tg, itx, ifs, 0⟩] sc po) spo) (tAsg (tDc wi g tt tk tv (own.map (·.2))) (gName ix)) := by
  refine ⟨fun pns sh σs Hh De Iv h => ?_⟩
  rw [exec_Assign_Name_used _ _ _ _ hsw]
  refine wpAny_bind (wpAny_standAt (wpAny_bind ?_))
  show wpAny _ X.A (do let _ ← comprehension (.DictComp kx vx [⟨tg, itx, ifs, 0⟩] sc po) sc X.env (firstIterPos [⟨tg, itx, ifs, 0⟩] po) newDict false (eval itx X.env) (some (assign (.Name y py) X.env))) _ _ sh
  have h2 : tDc wi g tt tk tv (own.map (·.2)) σs Hh (fun x J => gName ix x σs J De.nx) := h
  refine wpAny_bind (thn (dc_core (Qf := fun _ s' => SP X pns De .next s') hc hN Iv hi ok hg ht hk he hs h2 fun D C s' m J I' q hn f => ?_) fun _ s' hq => wpAny_pure (wpAny_pure hq))
  show wpAny _ _ (assign (.Name y py) X.env (.ref D)) _ _ _
  refine wpAny_assign_Name (store_ok2 (v := V.ref D) I' hN hy (.inl hyl) rfl (fun s2 I2 ⟨a, sb, ha⟩ => ?_) (.inr hyl))
  obtain ⟨f0, f1, f2, f3, f4, f5⟩ := f
  have ne : C ≠ a := ha.elim (fun z => by rw [z]; exact f1) fun z e => f4 y a z e.symm
  exact ⟨m, hn.sameBut sb ne, fun h3 sb3 => ⟨_, J, I2.turned (t' := s2.toks) (fun b o hb e => (sb3.2 b hb).trans e) f0 f1 f3 f4 f5, q⟩⟩
end
end Rg
namespace Rg
open PySem PySem.Spec PyProof.Rows L2
/-! ### the tuples of a zip that are kept -/
theorem tup_at {h h' : Heap} {a : Addr} {its : Array Value} (x : h.IsTuple a its) (e : ∀ o, h.get? a = some o → h'.get? a = some o) : h'.IsTuple a its := let ⟨o, ho, r⟩ := x; ⟨o, e _ ho, r⟩
theorem draws_tup {prog : Program} {w : World} {A : Around} (clear : A.handled = none) (it l : Addr) (apart : l ≠ it) (its : Array Value) : Draws prog w A it [it, l] its.size (fun j v => its[j]? = some v) (fun j h => h.IsTupleIter it l j ∧ h.IsTuple l its) where
  live := fun _ _ stand => let ⟨o, ho, _⟩ := stand.1; ⟨o, ho⟩
  frame := fun _ _ _ stand kept => ⟨stand.1.at fun o e => kept it (by simp) o e, tup_at stand.2 fun o e => kept l (by simp) o e⟩
  item := fun j s Q E hj stand hQ => by
    refine RZ.nextOf_tuple_item stand.1 stand.2 (x := its[j]) (by simp [hj]) fun h' it' same => ?_
    exact hQ _ h' s.toks (by simp [hj]) ⟨it', stand.2.extBut same.extBut apart⟩ same
  done := fun s Q E stand hE => RZ.nextOf_tuple_end clear stand.1 stand.2 (by simp) hE
section
variable {prog : Program} {w : World} {A : Around} {E : Value → Shared → Prop} {s : Shared} {z TI TO T L i1 i2 : Addr} {fp1 fp2 : List Addr} {n1 n2 j : Nat} {P1 P2 : Nat → Value → Prop} {St1 St2 : Nat → Heap → Prop} {b : Bool} {oT : Obj}
theorem zh_next {Q : Value → Shared → Prop} (S : ZipSep2 z TI TO i1 i2 fp1 fp2) (D1 : Draws prog w A i1 fp1 n1 P1 St1) (D2 : Draws prog w A i2 fp2 n2 P2 St2) (hz : IsZipHeld s.heap z TI TO T b) (hT : s.heap.get? T = some oT) (hTI : IsTupOf2 s.heap TI (.ref i1) (.ref i2)) (t1 : St1 j s.heap) (t2 : St2 j s.heap) (l1 : j < n1) (l2 : j < n2)
    (hQ : ∀ u v h' tk, P1 j u → P2 j v → IsZipHeld h' z TI TO T true → St1 (j + 1) h' → St2 (j + 1) h' → IsTupOf2 h' s.heap.objs.size u v → h'.objs.size = s.heap.objs.size + 1 → (∀ c o, c ≠ z → c ≠ i1 → c ≠ i2 → s.heap.get? c = some o → h'.get? c = some o) → Q (.ref s.heap.objs.size) { s with heap := h', toks := tk }) :
    wpAny (model prog w) A (Builtin.«zip.__next__» ⟨[.ref z], []⟩) (fun fin s' => ∃ v, fin = .done (.ret v) ∧ Q v s') E s := by
  obtain ⟨hp, g, d, tk0, os⟩ := s
  show wpAny _ _ (field (.ref z) 2 >>= _) _ _ _
  refine wpAny_bind (wpAny_field hz rfl (x := .bool false) rfl ?_)
  show wpAny _ _ (field (.ref z) 3 >>= _) _ _ _
  refine wpAny_bind (wpAny_field hz rfl (x := .ref TI) rfl ?_)
  refine wpAny_bind (wpAny_seqItems hTI rfl ?_)
  show wpAny _ _ (Builtin.SmallTypes.ownedTupleIsFree (.ref z) >>= _) _ _ _
  refine wpAny_bind (wpAny_tupleHeld_zip (s := ⟨hp, g, d, tk0, os⟩) hz hT fun k1 z1 c1 => ?_)
  replace c1 : Heap.SameBut z hp k1 := c1
  simp only [Bool.false_eq_true, if_false]
  refine wpAny_bind ?_
  rw [← Array.forIn_toList]
  simp only [List.forIn_cons, List.forIn_nil]
  refine wpAny_bind (wpAny_bind (wpAny_holding ?_))
  show wpAny _ _ (Builtin.SmallTypes.nextOf (.ref i1) >>= _) _ _ ⟨k1, g, d, tk0, os⟩
  refine wpAny_bind (D1.item j _ _ _ l1 (D1.over t1 c1 S.zf1) fun u k2 tk1 pu t1' c2 => wpAny_pure ?_)
  replace c2 : Heap.SameBut i1 k1 k2 := c2
  refine wpAny_pure ?_
  refine wpAny_bind (wpAny_bind (wpAny_holding ?_))
  show wpAny _ _ (Builtin.SmallTypes.nextOf (.ref i2) >>= _) _ _ ⟨k2, g, d, tk1, os⟩
  refine wpAny_bind (D2.item j _ _ _ l2 (D2.over (D2.over t2 c1 S.zf2) c2 S.sep1_2) fun v k3 tk2 pv t2' c3 => wpAny_pure ?_)
  replace c3 : Heap.SameBut i2 k2 k3 := c3
  refine wpAny_pure (wpAny_pure ?_)
  show wpAny _ _ (newTuple [u, v] >>= _) _ _ ⟨k3, g, d, tk2, os⟩
  refine wpAny_bind (wpAny_newTuple ?_)
  have size3 : k3.objs.size = hp.objs.size := by rw [c3.1, c2.1, c1.1]
  have z3 : IsZipHeld k3 z TI TO T true := c3.extBut _ _ S.zi2 (c2.extBut _ _ S.zi1 z1)
  have stay : ∀ c o, c ≠ z → c ≠ i1 → c ≠ i2 → hp.get? c = some o → k3.get? c = some o := fun c o a1 a2 a3 e => c3.extBut _ _ a3 (c2.extBut _ _ a2 (c1.extBut _ _ a1 e))
  refine wpAny_pure ⟨_, rfl, ?_⟩
  show Q (.ref k3.objs.size) _
  have at3 : IsTupOf2 (k3.push { cls := .type "tuple", data := .seq #[u, v] }) k3.objs.size u v := Heap.get?_push_size _ rfl
  have size4 : (k3.push { cls := .type "tuple", data := .seq #[u, v] }).objs.size = k3.objs.size + 1 := Heap.size_push ..
  rw [size3] at at3 size4 ⊢
  exact hQ u v _ tk2 pu pv (Heap.get?_push_of_some _ z3) (D1.frame _ _ _ (D1.over t1' c3 S.sep2_1) fun c _ o e => Heap.get?_push_of_some _ e) (D2.frame _ _ _ t2' fun c _ o e => Heap.get?_push_of_some _ e) at3 size4 fun c o a1 a2 a3 e => Heap.get?_push_of_some _ (stay c o a1 a2 a3 e)
theorem zh_stop {Q : Fin → Shared → Prop} (S : ZipSep2 z TI TO i1 i2 fp1 fp2) (D1 : Draws prog w A i1 fp1 n1 P1 St1) (D2 : Draws prog w A i2 fp2 n2 P2 St2) (hz : IsZipHeld s.heap z TI TO T b) (hT : s.heap.get? T = some oT) (hTI : IsTupOf2 s.heap TI (.ref i1) (.ref i2)) (t1 : St1 j s.heap) (t2 : St2 j s.heap) (l1 : j ≤ n1) (l2 : j ≤ n2) (over : j = n1 ∨ j = n2)
    (hE : ∀ h' tk e, (∀ c o, c ≠ z → c ≠ i1 → c ≠ i2 → s.heap.get? c = some o → h'.get? c = some o) → (∃ o, h'.get? e = some o ∧ o.cls = .type "StopIteration") → E (.ref e) { s with heap := h', toks := tk }) :
    wpAny (model prog w) A (Builtin.«zip.__next__» ⟨[.ref z], []⟩) Q E s := by
  obtain ⟨hp, g, d, tk0, os⟩ := s
  show wpAny _ _ (field (.ref z) 2 >>= _) _ _ _
  refine wpAny_bind (wpAny_field hz rfl (x := .bool false) rfl ?_)
  show wpAny _ _ (field (.ref z) 3 >>= _) _ _ _
  refine wpAny_bind (wpAny_field hz rfl (x := .ref TI) rfl ?_)
  refine wpAny_bind (wpAny_seqItems hTI rfl ?_)
  show wpAny _ _ (Builtin.SmallTypes.ownedTupleIsFree (.ref z) >>= _) _ _ _
  refine wpAny_bind (wpAny_tupleHeld_zip (s := ⟨hp, g, d, tk0, os⟩) hz hT fun k1 z1 c1 => ?_)
  replace c1 : Heap.SameBut z hp k1 := c1
  simp only [Bool.false_eq_true, if_false]
  refine wpAny_bind ?_
  rw [← Array.forIn_toList]
  simp only [List.forIn_cons, List.forIn_nil]
  refine wpAny_bind (wpAny_bind (wpAny_holding ?_))
  show wpAny _ _ (Builtin.SmallTypes.nextOf (.ref i1) >>= _) _ _ ⟨k1, g, d, tk0, os⟩
  by_cases c : j < n1
  · have e2 : j = n2 := by omega
    refine wpAny_bind (D1.item j _ _ _ c (D1.over t1 c1 S.zf1) fun u k2 tk1 pu t1' c2 => wpAny_pure ?_)
    replace c2 : Heap.SameBut i1 k1 k2 := c2
    refine wpAny_pure ?_
    refine wpAny_bind (wpAny_bind (wpAny_holding ?_))
    show wpAny _ _ (Builtin.SmallTypes.nextOf (.ref i2) >>= _) _ _ ⟨k2, g, d, tk1, os⟩
    refine wpAny_bind (D2.done ⟨k2, g, d, tk1, os⟩ _ _ (by rw [← e2]; exact D2.over (D2.over t2 c1 S.zf2) c2 S.sep1_2) fun q e hq he => ?_)
    exact hE q tk1 e (fun c o a1 a2 a3 x => hq c o a3 (c2.extBut _ _ a2 (c1.extBut _ _ a1 x))) he
  · have e1 : j = n1 := by omega
    refine wpAny_bind (D1.done ⟨k1, g, d, tk0, os⟩ _ _ (by rw [← e1]; exact D1.over t1 c1 S.zf1) fun q e hq he => ?_)
    exact hE q tk0 e (fun c o a1 a2 a3 x => hq c o a2 (c1.extBut _ _ a1 x)) he
/-- a zip whose tuples a list keeps -/
def ZSt (z TI TO i1 i2 L : Addr) (St1 St2 : Nat → Heap → Prop) (j : Nat) (h : Heap) : Prop := IsTupOf2 h TI (.ref i1) (.ref i2) ∧ St1 j h ∧ St2 j h ∧ ((IsZip h z TI TO .none ∧ ∃ a b, IsTupOf2 h TO a b) ∨ ∃ T f oT, IsZipHeld h z TI TO T f ∧ h.get? T = some oT ∧ T ≠ z ∧ T ≠ i1 ∧ T ≠ i2 ∧ T ≠ L)
theorem zst_type (st : ZSt z TI TO i1 i2 L St1 St2 j s.heap) : s.TypeIs (.ref z) "zip" := by
  rcases st.2.2.2 with ⟨hz, _⟩ | ⟨_, _, _, hz, _⟩
  · exact ⟨_, hz, rfl⟩
  · exact ⟨_, hz, rfl⟩
theorem zst_keep (D1 : Draws prog w A i1 fp1 n1 P1 St1) (D2 : Draws prog w A i2 fp2 n2 P2 St2) {h h' : Heap} (st : ZSt z TI TO i1 i2 L St1 St2 j h) (nz : z ≠ L) (nTI : TI ≠ L) (nTO : TO ≠ L) (nf1 : L ∉ fp1) (nf2 : L ∉ fp2) (k : ∀ c o, c ≠ L → h.get? c = some o → h'.get? c = some o) : ZSt z TI TO i1 i2 L St1 St2 j h' := by
  obtain ⟨a1, a2, a3, a4⟩ := st
  refine ⟨k _ _ nTI a1, D1.frame _ _ _ a2 fun c hc o e => k c o (fun q => nf1 (q ▸ hc)) e, D2.frame _ _ _ a3 fun c hc o e => k c o (fun q => nf2 (q ▸ hc)) e, ?_⟩
  rcases a4 with ⟨hz, a, b, hTO⟩ | ⟨T, f, oT, hz, hT, r1, r2, r3, r4⟩
  · exact .inl ⟨k _ _ nz hz, a, b, k _ _ nTO hTO⟩
  · exact .inr ⟨T, f, oT, k _ _ nz hz, k _ _ r4 hT, r1, r2, r3, r4⟩
theorem zst_item {Q : Option Value → Shared → Prop} (S : ZipSep2 z TI TO i1 i2 fp1 fp2) (D1 : Draws prog w A.in1 i1 fp1 n1 P1 St1) (D2 : Draws prog w A.in1 i2 fp2 n2 P2 St2) (st : ZSt z TI TO i1 i2 L St1 St2 j s.heap) (hL : L < s.heap.objs.size) (l1 : j < n1) (l2 : j < n2)
    (hQ : ∀ u v h' tk, P1 j u → P2 j v → ZSt z TI TO i1 i2 L St1 St2 (j + 1) h' → IsTupOf2 h' s.heap.objs.size u v → (∀ c o, c ≠ z → c ≠ TO → c ≠ i1 → c ≠ i2 → s.heap.get? c = some o → h'.get? c = some o) → Q (some (.ref s.heap.objs.size)) { s with heap := h', toks := tk }) :
    wpAny (model prog w) A (pyNext (.ref z)) Q E s := by
  have ty := zst_type st
  obtain ⟨hTI, t1, t2, a4⟩ := st
  have lt : ∀ {c o}, s.heap.get? c = some o → s.heap.objs.size ≠ c := fun e => Nat.ne_of_gt (Heap.lt_size e)
  have m1 : s.heap.objs.size ≠ i1 := by obtain ⟨_, e⟩ := D1.live _ _ t1; exact lt e
  have m2 : s.heap.objs.size ≠ i2 := by obtain ⟨_, e⟩ := D2.live _ _ t2; exact lt e
  rcases a4 with ⟨hz, a, b, hTO⟩ | ⟨T, f, oT, hz, hT, r1, r2, r3, r4⟩
  · refine wpAny_pyNext_zipD2_item S D1 D2 hz hTI hTO t1 t2 l1 l2 fun u v h' tk pu pv b1 b2 d1 d2 b5 b6 hk => ?_
    exact hQ u v h' tk pu pv ⟨hk _ _ S.TIz S.TITO S.TIi1 S.TIi2 hTI, d1, d2, .inr ⟨_, false, _, b1, b5, lt hz, m1, m2, Nat.ne_of_gt hL⟩⟩ b5 hk
  · unfold pyNext
    refine wpAny_bind (wpAny_attempt (wpAny_callSpecial?_slot (name := Str.ofString "__next__") ty F.slot_zip_next
      (wpAny_call_entry F.slot_zip_next ty F.entry_zip_next (zh_next S D1 D2 hz hT hTI t1 t2 l1 l2 fun u v h' tk pu pv b1 d1 d2 b5 b6 hk => wpAny_pure ?_) (F.args_zip_next_1 _))))
    exact hQ u v h' tk pu pv ⟨hk _ _ S.TIz S.TIi1 S.TIi2 hTI, d1, d2, .inr ⟨T, true, oT, b1, hk _ _ r1 r2 r3 hT, r1, r2, r3, r4⟩⟩ b5 fun c o q1 _ q3 q4 e => hk c o q1 q3 q4 e
theorem zst_done {Q : Option Value → Shared → Prop} (S : ZipSep2 z TI TO i1 i2 fp1 fp2) (D1 : Draws prog w A.in1 i1 fp1 n1 P1 St1) (D2 : Draws prog w A.in1 i2 fp2 n2 P2 St2) (st : ZSt z TI TO i1 i2 L St1 St2 j s.heap) (l1 : j ≤ n1) (l2 : j ≤ n2) (over : j = n1 ∨ j = n2)
    (hQ : ∀ h' tk, (∀ c o, c ≠ z → c ≠ TO → c ≠ i1 → c ≠ i2 → s.heap.get? c = some o → h'.get? c = some o) → Q none { s with heap := h', toks := tk }) : wpAny (model prog w) A (pyNext (.ref z)) Q E s := by
  have ty := zst_type st
  obtain ⟨hTI, t1, t2, a4⟩ := st
  rcases a4 with ⟨hz, a, b, hTO⟩ | ⟨T, f, oT, hz, hT, r1, r2, r3, r4⟩
  · exact wpAny_pyNext_zipD2_end S D1 D2 hz hTI hTO t1 t2 l1 l2 over hQ
  · unfold pyNext
    refine wpAny_bind (wpAny_attempt (wpAny_callSpecial?_slot (name := Str.ofString "__next__") ty F.slot_zip_next
      (wpAny_call_entry F.slot_zip_next ty F.entry_zip_next (zh_stop S D1 D2 hz hT hTI t1 t2 l1 l2 over fun h' tk e hk he => ?_) (F.args_zip_next_1 _))))
    obtain ⟨o, ho, hc⟩ := he
    refine wpAny_bind (wpAny_isInstance (T := "StopIteration") (b := true) ⟨o, ho, hc⟩ isSubtype_stop ?_)
    exact wpAny_pure (hQ _ _ fun c o q1 _ q3 q4 e => hk c o q1 q3 q4 e)
theorem zst_self {Q : Value → Shared → Prop} (st : ZSt z TI TO i1 i2 L St1 St2 j s.heap) (h : Q (.ref z) s) : wpAny (model prog w) A (pyIter (.ref z)) Q E s := by
  have ty := zst_type st
  refine wpAny_pyIter_slot ty F.slot_zip_iter (wpAny_call_entry F.slot_zip_iter ty F.entry_zip_iter ?_ (F.args_zip_iter_1 _))
  show wpAny _ _ (ret (.ref z)) _ _ s
  exact wpAny_pure ⟨_, rfl, "zip", _, ty, F.slot_zip_next.lookup, h⟩
end
/-- the addresses of the pairs given out so far -/
structure ZGo (P1 P2 : Nat → Value → Prop) (lo : Addr) (h : Heap) (as : List Addr) : Prop where
  up : as.Pairwise (· < ·)
  hi : ∀ a ∈ as, lo < a
  each : ∀ (k : Nat) (a : Addr), as[k]? = some a → ∃ u v, P1 k u ∧ P2 k v ∧ IsTupOf2 h a u v
end Rg
namespace Rg
open PySem PySem.Spec PyProof.Rows L2
theorem nolen_zp : typeLookup (.type "zip") "__len__" = pure none := by rw [typeLookup_type, builtinLookup_eq_fast]; kernel_rfl
theorem nohint_zp : typeLookup (.type "zip") "__length_hint__" = pure none := by rw [typeLookup_type, builtinLookup_eq_fast]; kernel_rfl
/-- all cells of the zip stand below L -/
structure ZLow (z TI TO L : Addr) (fp1 fp2 : List Addr) : Prop where
  z : z < L
  TI : TI < L
  TO : TO < L
  f1 : ∀ c ∈ fp1, c < L
  f2 : ∀ c ∈ fp2, c < L
section
variable {prog : Program} {w : World} {A : Around} {s : Shared} {R : Result → Shared → Prop} {z TI TO L i1 i2 : Addr} {fp1 fp2 : List Addr} {n1 n2 : Nat} {P1 P2 : Nat → Value → Prop} {St1 St2 : Nat → Heap → Prop}
theorem zl_keep (W : ZLow z TI TO L fp1 fp2) (D1 : Draws prog w A i1 fp1 n1 P1 St1) (D2 : Draws prog w A i2 fp2 n2 P2 St2) {j : Nat} {h h' : Heap} (st : ZSt z TI TO i1 i2 L St1 St2 j h) (k : ∀ c o, c ≠ L → h.get? c = some o → h'.get? c = some o) : ZSt z TI TO i1 i2 L St1 St2 j h' :=
  zst_keep D1 D2 st (Nat.ne_of_lt W.z) (Nat.ne_of_lt W.TI) (Nat.ne_of_lt W.TO) (fun q => Nat.lt_irrefl _ (W.f1 _ q)) (fun q => Nat.lt_irrefl _ (W.f2 _ q)) k
theorem zl_loop (S : ZipSep2 z TI TO i1 i2 fp1 fp2) (D1 : Draws prog w A.in1.in1 i1 fp1 n1 P1 St1) (D2 : Draws prog w A.in1.in1 i2 fp2 n2 P2 St2) (W : ZLow z TI TO L fp1 fp2) (hn : min n1 n2 ≤ sizeLine) (res : Value) {h0 : Heap}
    (hR : ∀ h' tk acc c as, (∀ b o, b ≠ L → b ≠ z → b ≠ TO → b ≠ i1 → b ≠ i2 → h0.get? b = some o → h'.get? b = some o) → h'.get? L = some { cls := .type "list", dict := none, data := .seq acc c, slots := #[] } → as.length = min n1 n2 → ZGo P1 P2 L h' as → acc.toList = as.map Value.ref → R (.ok (.ret res)) { s with heap := h', toks := tk }) :
    ∀ (m j : Nat) (h : Heap) (tk c : Nat) (acc : Array Value) (as : List Addr), min n1 n2 - j = m → j ≤ min n1 n2 → ZSt z TI TO i1 i2 L St1 St2 j h → (∀ b o, b ≠ L → b ≠ z → b ≠ TO → b ≠ i1 → b ≠ i2 → h0.get? b = some o → h.get? b = some o) →
      h.get? L = some { cls := .type "list", dict := none, data := .seq acc c, slots := #[] } → acc.toList = as.map Value.ref → as.length = j → ZGo P1 P2 L h as → codeAny (model prog w) A (.builtin "list.extend.loop" ⟨[.ref L, .ref z, res], []⟩) R { s with heap := h, toks := tk } := by
  have lz : L ≠ z := Nat.ne_of_gt W.z
  have lTO : L ≠ TO := Nat.ne_of_gt W.TO
  have li1 : L ≠ i1 := Nat.ne_of_gt (W.f1 _ S.mem1)
  have li2 : L ≠ i2 := Nat.ne_of_gt (W.f2 _ S.mem2)
  have off : ∀ {a : Addr}, L < a → a ≠ z ∧ a ≠ TO ∧ a ≠ i1 ∧ a ≠ i2 := fun {a} q => ⟨Nat.ne_of_gt (Nat.lt_trans W.z q), Nat.ne_of_gt (Nat.lt_trans W.TO q), Nat.ne_of_gt (Nat.lt_trans (W.f1 _ S.mem1) q), Nat.ne_of_gt (Nat.lt_trans (W.f2 _ S.mem2) q)⟩
  intro m
  induction m with
  | zero =>
    intro j h tk c acc as hm hj st keep hL full len G
    have le1 := Nat.min_le_left n1 n2
    have le2 := Nat.min_le_right n1 n2
    refine codeAny_builtin PySem.F.entry_extend_loop ?_
    rw [Around.under_plainId PySem.F.plain_extend_loop _]
    show wpAny _ A.in1 (pyNext (.ref z) >>= _) _ _ _
    refine wpAny_bind (zst_done (s := { s with heap := h, toks := tk }) (A := A.in1) S D1 D2 st (by omega) (by omega) (by omega) fun h' tk' ex => ?_)
    refine wpAny_pure (hR h' tk' acc c as (fun b o q0 q1 q2 q3 q4 e => ex b o q1 q2 q3 q4 (keep b o q0 q1 q2 q3 q4 e)) (ex L _ lz lTO li1 li2 hL) (by omega) ⟨G.up, G.hi, fun k a hk => ?_⟩ full)
    obtain ⟨u, v, pu, pv, e⟩ := G.each k a hk
    obtain ⟨o1, o2, o3, o4⟩ := off (G.hi a (List.mem_of_getElem? hk))
    exact ⟨u, v, pu, pv, ex a _ o1 o2 o3 o4 e⟩
  | succ m ih =>
    intro j h tk c acc as hm hj st keep hL full len G
    have le1 := Nat.min_le_left n1 n2
    have le2 := Nat.min_le_right n1 n2
    have size : acc.size = j := by rw [← Array.length_toList, full, List.length_map, len]
    have hLs : L < h.objs.size := Heap.lt_size hL
    refine codeAny_builtin PySem.F.entry_extend_loop ?_
    rw [Around.under_plainId PySem.F.plain_extend_loop _]
    show wpAny _ A.in1 (pyNext (.ref z) >>= _) _ _ _
    refine wpAny_bind (zst_item (s := { s with heap := h, toks := tk }) (A := A.in1) S D1 D2 st hLs (by omega) (by omega) fun u v h' tk' pu pv st' new ex => ?_)
    dsimp only at new ex ⊢
    have hL' := ex L _ lz lTO li1 li2 hL
    have up : ∀ b o, b ≠ L → h'.get? b = some o → (h'.update L (Obj.mapSeq (·.push (Value.ref h.objs.size)))).get? b = some o := fun b o hb e => (Heap.get?_update_other _ _ (Ne.symm hb)).trans e
    show wpAny _ A.in1 (updateSeq L (·.push (Value.ref h.objs.size)) >>= _) _ _ _
    refine wpAny_bind ?_
    refine wpAny_updateSeq hL' rfl (wpAny_pure ⟨plainId_quiet PySem.F.plain_extend_loop _, ih (j + 1) _ tk' _ (acc.push (Value.ref h.objs.size)) (as ++ [h.objs.size]) (by omega) (by omega) (zl_keep W D1 D2 st' up)
      (fun b o q0 q1 q2 q3 q4 e => up b o q0 (ex b o q1 q2 q3 q4 (keep b o q0 q1 q2 q3 q4 e))) (Heap.get?_update_self _ hL' rfl) (by rw [Array.toList_push, full, List.map_append]; rfl) (by rw [List.length_append, len]; rfl) ⟨?_, ?_, ?_⟩⟩) (by rw [size]; omega) (by show (acc.push (Value.ref h.objs.size)).size ≤ sizeLine + 1; rw [Array.size_push, size]; omega)
    · refine List.pairwise_append.mpr ⟨G.up, List.pairwise_singleton _ _, fun a ha b hb => ?_⟩
      rw [List.mem_singleton.mp hb]
      obtain ⟨k, hk⟩ := List.mem_iff_getElem?.mp ha
      obtain ⟨_, _, _, _, e⟩ := G.each k a hk
      exact Heap.lt_size e
    · intro a ha
      rcases List.mem_append.mp ha with ha | ha
      · exact G.hi a ha
      · rw [List.mem_singleton.mp ha]; exact hLs
    · intro k a hk
      rcases Nat.lt_trichotomy k as.length with q | q | q
      · rw [List.getElem?_append_left q] at hk
        obtain ⟨u', v', pu', pv', e⟩ := G.each k a hk
        have ha := G.hi a (List.mem_of_getElem? hk)
        obtain ⟨o1, o2, o3, o4⟩ := off ha
        exact ⟨u', v', pu', pv', up a _ (Nat.ne_of_gt ha) (ex a _ o1 o2 o3 o4 e)⟩
      · subst q
        have ha : h.objs.size = a := by simpa using hk
        subst ha
        rw [len]
        exact ⟨u, v, pu, pv, up _ _ (Nat.ne_of_gt hLs) new⟩
      · rw [List.getElem?_eq_none (by rw [List.length_append, List.length_singleton]; omega)] at hk
        cases hk
theorem zl_extend (S : ZipSep2 z TI TO i1 i2 fp1 fp2) (D1 : Draws prog w A.in1.in1 i1 fp1 n1 P1 St1) (D2 : Draws prog w A.in1.in1 i2 fp2 n2 P2 St2) (W : ZLow z TI TO L fp1 fp2) (hn : min n1 n2 ≤ sizeLine) (res : Value) (c0 : Nat) (st : ZSt z TI TO i1 i2 L St1 St2 0 s.heap) (hL : s.heap.get? L = some { cls := .type "list", data := .seq #[] c0 })
    (hR : ∀ h' tk acc c as, (∀ b o, b ≠ L → b ≠ z → b ≠ TO → b ≠ i1 → b ≠ i2 → s.heap.get? b = some o → h'.get? b = some o) → h'.get? L = some { cls := .type "list", dict := none, data := .seq acc c, slots := #[] } → as.length = min n1 n2 → ZGo P1 P2 L h' as → acc.toList = as.map Value.ref → R (.ok (.ret res)) { s with heap := h', toks := tk }) :
    wpAny (model prog w) A.in1 (Builtin.List.listExtendWith (.ref L) (.ref z) res)
      (fun fin s' => match fin with | .done f => R (.ok f) s' | .again c' => c'.quiet = true ∧ codeAny (model prog w) A c' R s') (fun e s' => R (.error e) s') s := by
  have ty := zst_type st
  have ne : L ≠ z := Nat.ne_of_gt W.z
  unfold Builtin.List.listExtendWith
  refine wpAny_bind (wpAny_typeOf (T := "zip") ty ?_)
  have q1 : Builtin.List.listSameRef (.ref L) (.ref z) = false := by simp [Builtin.List.listSameRef, ne]
  have q2 : (Value.type "zip" == Value.type "list") = false := by decide
  have q3 : (Value.type "zip" == Value.type "tuple") = false := by decide
  simp only [q1, q2, q3, Bool.or_false, Bool.false_eq_true, if_false]
  refine wpAny_bind (zst_self st ?_)
  refine wpAny_bind (wpAny_holding ?_)
  unfold Builtin.List.listLengthHint
  refine wpAny_bind (wpAny_specialOf ty nolen_zp ?_)
  show wpAny _ A.in1 (specialOf (Value.ref z) (Str.ofString "__length_hint__") >>= _) _ _ _
  refine wpAny_bind (wpAny_specialOf ty nohint_zp ?_)
  refine wpAny_pure ?_
  show wpAny _ A.in1 (rule "list.extend.makes-room" >>= fun _ => Builtin.List.listTouch (.ref L) >>= fun _ => again (.builtin "list.extend.loop" ⟨[.ref L, .ref z, res], []⟩)) _ _ _
  refine wpAny_bind (wpAny_rule ?_)
  refine wpAny_bind ?_
  show wpAny _ A.in1 (updateSeq L (·.push .none) >>= fun _ => updateSeq L (·.pop)) _ _ _
  refine wpAny_bind (wpAny_updateSeq hL rfl ?_)
  have hL2 := Heap.get?_update_self (Obj.mapSeq (·.push Value.none)) hL rfl
  refine wpAny_updateSeq (hz := by seq_fits) hL2 rfl ?_
  have hL3 := Heap.get?_update_self (Obj.mapSeq (·.pop)) hL2 rfl
  have oth : ∀ b o, b ≠ L → s.heap.get? b = some o → ((s.heap.update L (Obj.mapSeq (·.push Value.none))).update L (Obj.mapSeq (·.pop))).get? b = some o := fun b o hb e => (Heap.get?_update_other _ _ (Ne.symm hb)).trans ((Heap.get?_update_other _ _ (Ne.symm hb)).trans e)
  refine wpAny_pure ⟨plainId_quiet PySem.F.plain_extend_loop _, zl_loop (s := s) (h0 := s.heap) S D1 D2 W hn res hR _ 0 _ s.toks _ #[] [] rfl (Nat.zero_le _) (zl_keep W D1 D2 st oth) (fun b o q0 _ _ _ _ e => oth b o q0 e) hL3 rfl rfl ⟨List.Pairwise.nil, (fun _ q => nomatch q), fun k a q => by simp at q⟩⟩
theorem zl_call {E : Value → Shared → Prop} {Q : Value → Shared → Prop} (S : ZipSep2 z TI TO i1 i2 fp1 fp2) (D1 : Draws prog w A.in1.in1.in1 i1 fp1 n1 P1 St1) (D2 : Draws prog w A.in1.in1.in1 i2 fp2 n2 P2 St2) (W : ZLow z TI TO s.heap.objs.size fp1 fp2) (hn : min n1 n2 ≤ sizeLine) (st : ZSt z TI TO i1 i2 s.heap.objs.size St1 St2 0 s.heap)
    (hQ : ∀ h' tk acc c as, (∀ b o, b ≠ z → b ≠ TO → b ≠ i1 → b ≠ i2 → s.heap.get? b = some o → h'.get? b = some o) → h'.get? s.heap.objs.size = some { cls := .type "list", dict := none, data := .seq acc c, slots := #[] } → as.length = min n1 n2 → ZGo P1 P2 s.heap.objs.size h' as → acc.toList = as.map Value.ref → Q (.ref s.heap.objs.size) { s with heap := h', toks := tk }) :
    wpAny (model prog w) A (call (.type "list") [.ref z]) Q E s := by
  refine callType_codes (Q₁ := fun obj t => obj = .ref s.heap.objs.size ∧ t = { s with heap := s.heap.push { cls := .type "list", data := .seq #[] } }) PySem.F.called_list (PySem.F.typeCall_list_1 _) PySem.F.entry_list_init
    (code_list_new _ ⟨rfl, rfl⟩) fun obj t ht => ?_
  obtain ⟨rfl, rfl⟩ := ht
  have hL : (s.heap.push { cls := .type "list", data := .seq #[] }).get? s.heap.objs.size = some { cls := .type "list", data := .seq #[] } := Heap.get?_push_size _ rfl
  refine ⟨⟨_, hL, rfl⟩, PySem.F.args_list_init_2 _ _, ?_⟩
  show wpAny _ _ (do let old ← Builtin.List.listItems (.ref s.heap.objs.size); Builtin.List.listUpdate (.ref s.heap.objs.size) (fun _ => #[]); letGo old.toList.reverse; Builtin.List.listExtendWith (.ref s.heap.objs.size) (.ref z) .none) _ _ _
  refine wpAny_bind ?_
  unfold Builtin.List.listItems
  refine wpAny_bind (wpAny_seqItems hL rfl (wpAny_pure ?_))
  show wpAny _ _ (updateSeq s.heap.objs.size (fun _ => #[]) >>= fun _ => letGo (#[] : Array Value).toList.reverse >>= fun _ => Builtin.List.listExtendWith (.ref s.heap.objs.size) (.ref z) .none) _ _ _
  refine wpAny_bind (wpAny_updateSeq hL rfl ?_)
  have hL2 := Heap.get?_update_self (Obj.mapSeq (fun _ => (#[] : Array Value))) hL rfl
  have oth : ∀ b o, b ≠ s.heap.objs.size → s.heap.get? b = some o → ((s.heap.push { cls := .type "list", data := .seq #[] }).update s.heap.objs.size (Obj.mapSeq (fun _ => (#[] : Array Value)))).get? b = some o :=
    fun b o hb e => (Heap.get?_update_other _ _ (Ne.symm hb)).trans (Heap.get?_push_of_some _ e)
  refine wpAny_bind (wpAny_letGo ?_)
  refine zl_extend (A := A.in1) S D1 D2 W hn .none _ (zl_keep W D1 D2 st oth) hL2 fun h' tk acc c as hk hL' hl G hacc => ?_
  exact ⟨rfl, hQ h' tk acc c as (fun b o q1 q2 q3 q4 e => hk b o (Nat.ne_of_lt (Heap.lt_size e)) q1 q2 q3 q4 (oth b o (Nat.ne_of_lt (Heap.lt_size e)) e)) hL' hl G hacc⟩
end
end Rg
namespace Rg
open PySem PySem.Spec PyProof.Rows L2
/-! ### list(zip(x, y)), by the hand layer -/
/-- pairs tracked at their addresses -/
def putZ : Hp → List Addr → List (V × V) → Hp
  | H, a :: as, q :: qs => putZ (upd H a (.tup [q.1, q.2])) as qs
  | H, _, _ => H
theorem putZ_off {b : Addr} : ∀ (as : List Addr) (qs : List (V × V)) (H : Hp), b ∉ as → putZ H as qs b = H b
  | [], _, _, _ => rfl
  | _ :: _, [], _, _ => rfl
  | a :: as, q :: qs, H, h => by
    show putZ (upd H a (.tup [q.1, q.2])) as qs b = H b
    rw [putZ_off as qs _ (fun m => h (List.mem_cons_of_mem _ m)), upd_ne (fun m => h (by rw [m]; exact List.mem_cons_self))]
/-- where pairs stand -/
def PairsAt (H : Hp) : List Addr → List (V × V) → Prop := Paired fun (t : Addr) (q : V × V) => H t = some (.tup [q.1, q.2])
theorem putZ_at : ∀ (as : List Addr) (qs : List (V × V)) (H : Hp), as.length = qs.length → as.Nodup → PairsAt (putZ H as qs) as qs
  | [], [], _, _, _ => .nil
  | [], _ :: _, _, h, _ => by cases h
  | _ :: _, [], _, h, _ => by cases h
  | a :: as, q :: qs, H, h, hn => by
    have hn' := List.nodup_cons.mp hn
    refine .cons ?_ (putZ_at as qs (upd H a (.tup [q.1, q.2])) (Nat.succ.inj h) hn'.2)
    show putZ (upd H a (.tup [q.1, q.2])) as qs a = some (.tup [q.1, q.2])
    rw [putZ_off as qs _ hn'.1, upd_same]
theorem pairs_get {H : Hp} : ∀ {as : List Addr} {qs : List (V × V)}, PairsAt H as qs → ∀ {i : Nat} {a : Addr}, as[i]? = some a → ∃ q, qs[i]? = some q ∧ H a = some (.tup [q.1, q.2])
  | _, _, .nil, i, x, h => by cases h
  | _, _, .cons r t, 0, x, h => by
    cases h
    exact ⟨_, rfl, r⟩
  | _, _, .cons r t, i + 1, x, h => pairs_get t h
theorem pairs_mem {H : Hp} {as : List Addr} {qs : List (V × V)} (h : PairsAt H as qs) {a : Addr} (m : a ∈ as) : ∃ (i : Nat) (q : V × V), as[i]? = some a ∧ qs[i]? = some q ∧ H a = some (.tup [q.1, q.2]) := by
  obtain ⟨i, hi⟩ := List.mem_iff_getElem?.mp m
  obtain ⟨q, e1, e2⟩ := pairs_get h hi
  exact ⟨i, q, hi, e1, e2⟩
theorem refs_vals : ∀ as : List Addr, Vals (as.map V.ref) (as.map Value.ref)
  | [] => .nil
  | _ :: as => .cons rfl (refs_vals as)
theorem zip_get {α β : Type} : ∀ {xs : List α} {ys : List β} {i : Nat} {q : α × β}, (xs.zip ys)[i]? = some q → xs[i]? = some q.1 ∧ ys[i]? = some q.2
  | [], _, i, q, h => by simp at h
  | _ :: _, [], i, q, h => by simp at h
  | x :: xs, y :: ys, 0, q, h => by
    have e : (x, y) = q := by simpa using h
    subst e
    exact ⟨rfl, rfl⟩
  | x :: xs, y :: ys, i + 1, q, h => by
    have h' : (xs.zip ys)[i]? = some q := by simpa using h
    simpa using zip_get h'
theorem zip_laid {X : Cx} {pins : List (Addr × Obj)} {σ : L2.St} {H : Hp} {s : Shared} {h' : Heap} {tk : Nat} {xs ys : List V} {is js : List Value} {acc : Array Value} {c : Nat} {as : List Addr} {L : Addr} (I : Inv X pins σ H s) (hx : Vals xs is) (hy : Vals ys js) (hz : xs.length ≤ sizeLine) (above : s.heap.objs.size ≤ L)
    (keep : ∀ b o, s.heap.get? b = some o → h'.get? b = some o) (hL : h'.get? L = some { cls := .type "list", dict := none, data := .seq acc c, slots := #[] }) (len : as.length = min is.toArray.size js.toArray.size) (G : ZGo (fun i v => is.toArray[i]? = some v) (fun i v => js.toArray[i]? = some v) L h' as) (full : acc.toList = as.map Value.ref) :
    ∃ H' : Hp, Same H H' ∧ H L = none ∧ (∀ t ∈ as, H t = none) ∧ H' L = some (.lst (as.map V.ref)) ∧ PairsAt H' as (xs.zip ys) ∧ Inv X pins σ H' { s with heap := h', toks := tk } := by
  have l1 := hx.length
  have l2 := hy.length
  have lz : as.length = (xs.zip ys).length := by rw [List.length_zip, len]; simp only [List.size_toArray]; omega
  have nL : L ∉ as := fun m => Nat.lt_irrefl _ (G.hi _ m)
  have nd : as.Nodup := List.Pairwise.imp (fun {a b} (h : a < b) => Nat.ne_of_lt h) G.up
  have fresh : ∀ t ∈ as, H t = none := fun t m => I.hok.fresh (Nat.le_trans above (Nat.le_of_lt (G.hi t m)))
  have freshL : H L = none := I.hok.fresh above
  have at_ := putZ_at as (xs.zip ys) (upd H L (.lst (as.map V.ref))) lz nd
  have off : ∀ b, b ∉ as → b ≠ L → putZ (upd H L (.lst (as.map V.ref))) as (xs.zip ys) b = H b := fun b m n => by rw [putZ_off as _ _ m, upd_ne n]
  have low : ∀ b o, s.heap.get? b = some o → b ∉ as ∧ b ≠ L := fun b o e => ⟨fun m => absurd (Heap.lt_size e) (Nat.not_lt.mpr (Nat.le_trans above (Nat.le_of_lt (G.hi b m)))), Nat.ne_of_lt (Nat.lt_of_lt_of_le (Heap.lt_size e) above)⟩
  have kp : ∀ b u, H b = some u → (putZ (upd H L (.lst (as.map V.ref))) as (xs.zip ys)) b = some u := fun b u e => by
    rw [off b (fun m => by rw [fresh b m] at e; cases e) (fun m => by rw [m, freshL] at e; cases e)]
    exact e
  have eL : putZ (upd H L (.lst (as.map V.ref))) as (xs.zip ys) L = some (.lst (as.map V.ref)) := by rw [putZ_off as _ _ nL, upd_same]
  refine ⟨putZ (upd H L (.lst (as.map V.ref))) as (xs.zip ys), kp, freshL, fresh, eL, at_, ?_⟩
  refine I.call' (ch := []) rfl ⟨fun b o q _ _ _ => keep b o q, fun b o q _ _ _ => ⟨o.slots, keep b o q⟩, fun b o q n _ => ?_, fun b o q _ => ⟨o, keep b o q⟩, fun b us q => kp b _ q, fun b o u q => kp b _ q, fun b ps q => ⟨#[], by rw [kp b _ q]; simp⟩⟩ (fun b u q => ?_) I.bare fun b m => by simp at m
  · obtain ⟨m1, m2⟩ := low b o q
    rw [off b m1 m2]
    exact n
  · by_cases m : b ∈ as
    · obtain ⟨i, p, e1, e2, e3⟩ := pairs_mem at_ m
      rw [e3] at q
      cases q
      obtain ⟨x, y⟩ := p
      obtain ⟨f1, f2⟩ := zip_get e2
      obtain ⟨u, v, pu, pv, hT⟩ := G.each i b e1
      obtain ⟨u', hu, ru⟩ := hx.get f1
      obtain ⟨v', hv, rv⟩ := hy.get f2
      have eu : u' = u := by rw [List.getElem?_toArray, hu] at pu; exact Option.some.inj pu
      have ev : v' = v := by rw [List.getElem?_toArray, hv] at pv; exact Option.some.inj pv
      subst eu ev
      exact ⟨by show 2 ≤ sizeLine; decide, [u', v'], .cons ru (.cons rv .nil), ⟨_, hT, rfl, _, rfl⟩⟩
    · by_cases m2 : b = L
      · rw [m2] at q ⊢
        rw [eL] at q
        cases q
        refine ⟨by rw [List.length_map, lz, List.length_zip]; omega, acc.toList, c, by rw [full]; exact refs_vals as, ?_⟩
        rw [Array.toArray_toList]
        exact hL
      · rw [off b m m2] at q
        exact (I.hok b u q).stay (fun d v _ y => keep d v y) (fun d y => kp d _ y) fun d us y => kp d _ y
section
variable {X : Cx}
/-- two lists, or two tuples -/
def Seq2 (K : PySem.W.Frag) (H : Hp) (a b : Addr) (xs ys : List V) : Prop := (SqL K H a xs ∧ SqL K H b ys) ∨ (SqT K H a xs ∧ SqT K H b ys)
def tLZip (K : PySem.W.Frag) (ta : TA) : TE := fun σ H Q => ta σ H fun vs H1 => ∃ (a b : Addr) (xs ys : List V), vs = [.ref a, .ref b] ∧ Seq2 K H1 a b xs ys ∧
  ∀ (p : Addr) (ts : List Addr) (H' : Hp), Same H1 H' → H1 p = none → (∀ t ∈ ts, H1 t = none) → H' p = some (.lst (ts.map V.ref)) → PairsAt H' ts (xs.zip ys) → Q (.ref p) H'
theorem pe_listZip {e e2 : Expr} {ta : TA} {p p2 pos2 pos : Pos} (calm : X.calm = true) (gl : Gl X "list") (ml : X.mg "list" = none) (gz : Gl X "zip") (mz : X.mg "zip" = none) (ha : PA X [e, e2] ta)
    (st : starEach [.Call (.Name "zip" p2) [e, e2] [] pos2] X.env = (false, eval (.Call (.Name "zip" p2) [e, e2] [] pos2) X.env) :: starEach [] X.env := by rfl)
    (st2 : starEach [e, e2] X.env = (false, eval e X.env) :: starEach [e2] X.env := by rfl) (pl2 : (backTo pos2 (starEach [e2] X.env)).any (·.1) = false := by rfl) :
    PE X (.Call (.Name "list" p) [.Call (.Name "zip" p2) [e, e2] [] pos2] [] pos) (tLZip X.K ta) := by
  refine ⟨fun pins s σ H Q I h => ?_⟩
  refine wpAny_Call_Name_kw (ld_blt I gl ml (by decide +kernel : bootBuiltins "list" = some (.type "list")) ?_)
  refine PyProof.Rows.callWith_type1 ?_ st rfl
  rw [st]
  show wpAny _ _ (spliced ((false, eval (.Call (.Name "zip" p2) [e, e2] [] pos2) X.env) :: backTo pos (starEach [] X.env))) _ _ s
  refine Calls.spliced_cons ?_
  refine wpAny_Call_Name_kw (ld_blt I gz mz PyProof.Rows.boot_zip ?_)
  refine PyProof.Rows.callWith_type1 (thn (ha.run pos2 pins s σ H _ I h) fun us s1 ⟨vs, H1, I1, r1, q1⟩ => ?_) st2 pl2
  obtain ⟨a, b, xs, ys, ex, sq, q⟩ := q1
  subst ex
  cases r1 with
  | cons r rr =>
    cases rr with
    | cons r' rr =>
      cases rr
      cases r
      cases r'
      have clear := I1.ok.hd calm
      have fin : ∀ {is js : List Value} {St1 St2 : Nat → Heap → Prop} {h' : Heap}, Vals xs is → Vals ys js → xs.length ≤ sizeLine → ys.length ≤ sizeLine → a < s1.heap.objs.size → b < s1.heap.objs.size →
          Draws X.prog X.w X.A.in1.in1.in1 s1.heap.objs.size [s1.heap.objs.size, a] is.toArray.size (fun i v => is.toArray[i]? = some v) St1 → Draws X.prog X.w X.A.in1.in1.in1 (s1.heap.objs.size + 1) [s1.heap.objs.size + 1, b] js.toArray.size (fun i v => js.toArray[i]? = some v) St2 →
          IsZip h' (s1.heap.objs.size + 4) (s1.heap.objs.size + 2) (s1.heap.objs.size + 3) .none → IsPair h' (s1.heap.objs.size + 2) (.ref s1.heap.objs.size) (.ref (s1.heap.objs.size + 1)) → IsPair h' (s1.heap.objs.size + 3) .none .none → St1 0 h' → St2 0 h' → h'.objs.size = s1.heap.objs.size + 5 →
          (∀ c o, s1.heap.get? c = some o → h'.get? c = some o) → wpAny (model X.prog X.w) X.A (spliced (backTo pos (starEach [] X.env))) (fun vs s₁ => wpAny (model X.prog X.w) X.A (call (.type "list") (.ref (s1.heap.objs.size + 4) :: vs)) (EP X pins σ Q) X.xe s₁) X.xe { s1 with heap := h' } := by
        intro is js St1 St2 h' rx ry zx zy la lb D1 D2 hz hTI hTO t1 t2 size keep
        refine Calls.spliced_nil ?_
        have S := zip_sep2 (N := s1.heap.objs.size) (fp1 := [a]) (fp2 := [b]) (fun c m => by rw [List.mem_singleton.mp m]; exact la) (fun c m => by rw [List.mem_singleton.mp m]; exact lb)
        have lx := rx.length
        have W : ZLow (s1.heap.objs.size + 4) (s1.heap.objs.size + 2) (s1.heap.objs.size + 3) h'.objs.size [s1.heap.objs.size, a] [s1.heap.objs.size + 1, b] := by
          rw [size]
          refine ⟨show (s1.heap.objs.size + 4 : Nat) < s1.heap.objs.size + 5 by omega, show (s1.heap.objs.size + 2 : Nat) < s1.heap.objs.size + 5 by omega, show (s1.heap.objs.size + 3 : Nat) < s1.heap.objs.size + 5 by omega, fun c m => ?_, fun c m => ?_⟩
          · rcases List.mem_cons.mp m with e | m
            · rw [e]; exact show (s1.heap.objs.size : Nat) < s1.heap.objs.size + 5 by omega
            · rw [List.mem_singleton.mp m]; exact Nat.lt_of_lt_of_le la (Nat.le_add_right _ _)
          · rcases List.mem_cons.mp m with e | m
            · rw [e]; exact show (s1.heap.objs.size + 1 : Nat) < s1.heap.objs.size + 5 by omega
            · rw [List.mem_singleton.mp m]; exact Nat.lt_of_lt_of_le lb (Nat.le_add_right _ _)
        refine zl_call (s := { s1 with heap := h' }) S D1 D2 W (Nat.le_trans (Nat.min_le_left _ _) (by simp only [List.size_toArray]; omega)) ⟨hTI, t1, t2, .inl ⟨hz, _, _, hTO⟩⟩ fun h2 tk acc c as hk hL len G full => ?_
        have keep2 : ∀ b o, s1.heap.get? b = some o → h2.get? b = some o := fun d o x => by
          have l := Heap.lt_size x
          exact hk d o (Nat.ne_of_lt (Nat.lt_of_lt_of_le l (Nat.le_add_right _ _))) (Nat.ne_of_lt (Nat.lt_of_lt_of_le l (Nat.le_add_right _ _))) (Nat.ne_of_lt l) (Nat.ne_of_lt (Nat.lt_of_lt_of_le l (Nat.le_add_right _ _))) (keep d o x)
        obtain ⟨H', k1, k2, k3, k4, k5, J⟩ := zip_laid (tk := tk) I1 rx ry zx (by show s1.heap.objs.size ≤ h'.objs.size; rw [size]; exact Nat.le_add_right _ _) keep2 hL len G full
        exact ⟨.ref _, H', J, rfl, q _ as H' k1 k2 k3 k4 k5⟩
      rcases sq with ⟨hx, hy⟩ | ⟨hx, hy⟩
      · obtain ⟨is, rx, p1, zx⟩ := I1.list hx
        obtain ⟨js, ry, p2, zy⟩ := I1.list hy
        have d1 : Draws X.prog X.w X.A.in1.in1.in1 s1.heap.objs.size [s1.heap.objs.size, a] is.toArray.size (fun i v => is.toArray[i]? = some v) (fun j h => h.IsListIter s1.heap.objs.size a j ∧ h.IsList a is.toArray) := Draws.list (A := X.A.in1.in1.in1) clear _ a (Nat.ne_of_lt p1.lt) _
        have d2 : Draws X.prog X.w X.A.in1.in1.in1 (s1.heap.objs.size + 1) [s1.heap.objs.size + 1, b] js.toArray.size (fun i v => js.toArray[i]? = some v) (fun j h => h.IsListIter (s1.heap.objs.size + 1) b j ∧ h.IsList b js.toArray) := Draws.list (A := X.A.in1.in1.in1) clear _ b (Nat.ne_of_lt (Nat.lt_succ_of_lt p2.lt)) _
        refine call_zip_2 p1.isList p2.isList fun h' hz hTI hTO h1 h2 size keep => fin rx ry zx zy p1.lt p2.lt d1 d2 hz hTI hTO ⟨h1, p1.isList.at fun o e => keep _ o e⟩ ⟨h2, p2.isList.at fun o e => keep _ o e⟩ size keep
      · obtain ⟨is, rx, p1, zx⟩ := I1.tuple hx
        obtain ⟨js, ry, p2, zy⟩ := I1.tuple hy
        have la : a < s1.heap.objs.size := by obtain ⟨o1, ho1, _⟩ := id p1; exact Heap.lt_size ho1
        have lb : b < s1.heap.objs.size := by obtain ⟨o1, ho1, _⟩ := id p2; exact Heap.lt_size ho1
        have g1 : s1.heap.IsTuple a is.toArray := p1
        have g2 : s1.heap.IsTuple b js.toArray := p2
        have d1 : Draws X.prog X.w X.A.in1.in1.in1 s1.heap.objs.size [s1.heap.objs.size, a] is.toArray.size (fun i v => is.toArray[i]? = some v) (fun j h => h.IsTupleIter s1.heap.objs.size a j ∧ h.IsTuple a is.toArray) := draws_tup (A := X.A.in1.in1.in1) clear _ a (Nat.ne_of_lt la) _
        have d2 : Draws X.prog X.w X.A.in1.in1.in1 (s1.heap.objs.size + 1) [s1.heap.objs.size + 1, b] js.toArray.size (fun i v => js.toArray[i]? = some v) (fun j h => h.IsTupleIter (s1.heap.objs.size + 1) b j ∧ h.IsTuple b js.toArray) := draws_tup (A := X.A.in1.in1.in1) clear _ b (Nat.ne_of_lt (Nat.lt_succ_of_lt lb)) _
        refine RZ.call_zipT g1 g2 fun h' hz hTI hTO h1 h2 size keep => fin rx ry zx zy la lb d1 d2 hz hTI hTO ⟨h1, tup_at g1 fun o e => keep _ o e⟩ ⟨h2, tup_at g2 fun o e => keep _ o e⟩ size keep
/-! ### for .. in (x if c else y) -/
def iIf (tA : TT) (wa wb : TI) : TI := fun σ H R => tA σ H fun d H1 => if d = true then wa σ H1 R else wb σ H1 R
theorem pi_ifExp {c a b tg : Expr} {pos : Pos} {tA : TT} {wa wb : TI} (hc : PT X c tA) (ha : PI X tg a wa) (hb : PI X tg b wb) : PI X tg (.IfExp c a b pos) (iIf tA wa wb) := by
  refine ⟨fun pins s σ H R I h => ?_⟩
  refine wpAny_IfExp (thn (hc.run pins s σ H _ I h) fun d s1 ⟨H1, I1, q1⟩ => ?_)
  cases d with
  | true => exact ha.run pins s1 σ H1 R I1 q1
  | false => exact hb.run pins s1 σ H1 R I1 q1
/-! ### x not in a tuple of data -/
def rNotInDT (K : PySem.W.Frag) : R2 := fun x y Hh Qq => ∃ dx dxs, Dp K Hh x dx ∧ Dp K Hh y (.tuple dxs) ∧ SeqAt.shaped dx = true ∧ SeqAt.shaped (.tuple dxs) = true ∧ Qq (.bl (!dxs.any fun z => PyData.eqv z dx)) Hh
theorem op_notInDT (hu : X.A.units + 65 < cLine) : OpR X (compareOp .NotIn) (rNotInDT X.K) := by
  intro pns s σs Hh x y v u Qq Iv rlx rly h
  obtain ⟨dx, dxs, hdx, hdy, sx, sy, qq⟩ := h
  obtain ⟨as, rd1⟩ := Dp.reads Iv dx x v hdx rlx
  obtain ⟨bs, rd2⟩ := Dp.reads Iv (.tuple dxs) y u hdy rly
  exact SeqAt.notIn_tuple_reads rd2 rd1 (SeqAt.canLay_of_shaped sy) (SeqAt.canLay_of_shaped sx) (room_in_shaped sx hu) ⟨.bl _, Hh, Iv, rfl, qq⟩
end
end Rg
namespace Rg
open PySem PySem.Spec PyProof.Rows L2
/-! ### set(xs) of a list of ints; sorted and len of a set of ints, any number of them -/
/-- an empty set, as the call makes it -/
abbrev mtSet (w : World) : Obj := { cls := .type "set", dict := none, data := .set #[] 0 (.fresh 0 0 (!w.params.followText "set-order")) }
section
variable {P : Program} {w : World} {B : Around} {E : Value → Shared → Prop} {z : Shared}
/-- an empty set is filled from a list of ints -/
theorem fill_set {a l : Addr} {arr : Array Value} (zs : List Int) {R : PySem.Fin → Shared → Prop} (calm : B.handled = none) (ga : z.heap.get? a = some (mtSet w)) (gl : z.heap.IsList l arr) (al : a ≠ l) (iz : IntsAre arr.toList zs) (few : zs.length + 1 < scanBound)
    (fin : ∀ (g : Heap) (tk m : Nat), SetR w g a (fun j => decide (j ∈ zs)) m → m ≤ zs.length → (∀ b u, b ≠ a → z.heap.get? b = some u → g.get? b = some u) → R (.done (.ret .none)) { z with heap := g, toks := tk }) :
    wpAny (model P w) B (Builtin.«set.__init__» ⟨[.ref a, .ref l], []⟩) R E z := by
  have same : arr.size = zs.length := by have q := iz.length; rwa [Array.length_toList] at q
  have la := Heap.lt_size ga
  have kept : ∀ {b : Addr} {u v : Obj}, z.heap.get? b = some u → (z.heap.push v).get? b = some u := fun q => Heap.get?_push_of_some _ q
  obtain ⟨⟨oc, od, ob, os⟩, gob, ec, nl, eb⟩ := id gl
  cases ec
  cases eb
  have ll := Heap.lt_size gob
  have y1 := PySem.F.sub_list_set
  have y2 := PySem.F.sub_list_frozenset
  have y3 : (Value.type "list" == Value.type "dict") = false := by decide
  have y4 := sub_set_self
  have ty : z.TypeIs (.ref a) "set" := ⟨_, ga, rfl⟩
  unfold Builtin.«set.__init__»
  unfold noKeywords
  unfold Builtin.Frozenset.updateFrom
  generalize hold : pyIter = it
  wp_walk
  subst hold
  refine wpAny_pyIter_list gl (wpAny_bind (wpAny_runValue ?_))
  have W := (Walks.list (prog := P) (w := w) (A := B.in1) (by simp [calm]) z.heap.objs.size l (Nat.ne_of_lt ll) arr).toS
  refine set_update_ints W a (by simp only [List.mem_cons, List.not_mem_nil, or_false, not_or]; exact ⟨Nat.ne_of_lt la, al⟩) zs same few (fun i v hv => ?_) (arr.size - 0) 0 _ (by omega) (Nat.zero_le _) ?_ ⟨0, Nat.le_refl 0, ?_⟩ fun t m mv ml R1 => ?_
  · have lt : i < zs.length := same ▸ (Array.getElem?_eq_some_iff.mp hv).1
    obtain ⟨t, q⟩ := PyProof.Rows.IntsAre.int_at iz i v (by rw [Array.getElem?_toList]; exact hv)
    exact ⟨zs[i], t, List.getElem?_eq_getElem lt, by rw [q, List.getD_eq_getElem?_getD, List.getElem?_eq_getElem lt] <;> rfl⟩
  · exact ⟨⟨_, Heap.get?_push_size _ rfl, rfl, rfl⟩, gl.push _⟩
  · exact setR_new_at (Heap.get?_push_of_some _ ga)
  · have g1 : t.gens = z.gens := mv.gens
    have g2 : t.drawn = z.drawn := mv.drawn
    have g3 : t.os = z.os := mv.os
    have same3 : t = { z with heap := t.heap, toks := t.toks } := by
      obtain ⟨t1, t2, t3, t4, t5⟩ := t
      simp only at g1 g2 g3
      subst g1 g2 g3
      rfl
    rw [same3]
    exact wpAny_pure (wpAny_pure (fin _ _ m R1 (same ▸ ml) fun b u ba gb => mv.heap b u (by simp only [List.mem_cons, List.not_mem_nil, or_false, not_or]; exact ⟨ba, Nat.ne_of_lt (Heap.lt_size gb)⟩) (kept gb)))
theorem set_of_list {A : Around} {l : Addr} {arr : Array Value} (zs : List Int) {Q : Value → Shared → Prop} (calm : A.handled = none) (gl : z.heap.IsList l arr) (iz : IntsAre arr.toList zs) (few : zs.length + 1 < scanBound)
    (fin : ∀ (g : Heap) (tk m : Nat), SetR w g z.heap.objs.size (fun j => decide (j ∈ zs)) m → m ≤ zs.length → (∀ b u, z.heap.get? b = some u → g.get? b = some u) → Q (.ref z.heap.objs.size) { z with heap := g, toks := tk }) : wpAny (model P w) A (call (.type "set") [.ref l]) Q E z := by
  have CS := PySem.F.called_set
  obtain ⟨k0, ks, ms⟩ := CS.mro
  have m1 := CS.made
  have m2 := CS.sub
  have m3 := CS.notType
  have m4 := CS.canCreate
  have m5 := PySem.F.typeCall_set_1 (.ref l)
  have m6 := CS.init.lookup
  have m7 := CS.init.bind (.ref z.heap.objs.size)
  have ll : l < z.heap.objs.size := by
    obtain ⟨o, go, _⟩ := gl
    exact Heap.lt_size go
  have new : (z.heap.push (mtSet w)).get? z.heap.objs.size = some (mtSet w) := Heap.get?_push_size _ rfl
  refine wpAny_call (codeAny_of_tree (show wpAny _ _ (callAny (.type "set") _) _ _ _ from wpAny_pure ⟨Code.quiet_builtin _ (by decide +kernel), codeAny_builtin PySem.F.entry_type_call ?_⟩))
  rw [Around.under_plain (weight_type_call_type "set" [.ref l] []) rfl]
  (repeat any_goals first | assumption | wp_step)
  refine codeAny_mono (code_set_led1 (.ref l) (E := E) (Q₁ := fun y t => y = .ref z.heap.objs.size ∧ t = { z with heap := z.heap.push (mtSet w) }) ⟨rfl, rfl⟩) fun r t hr => ?_
  rcases r with e | f
  · exact hr
  rcases f with _ | _ | _ | y
  all_goals first | (exact hr.elim; done) | skip
  obtain ⟨rfl, rfl⟩ := hr
  (repeat any_goals first | assumption | wp_step)
  refine codeAny_mono (codeAny_call_builtin (R := wants (fun y t => y = .none ∧ ∃ g tk m, t = { z with heap := g, toks := tk } ∧ SetR w g z.heap.objs.size (fun j => decide (j ∈ zs)) m ∧ m ≤ zs.length ∧ ∀ b u, z.heap.get? b = some u → g.get? b = some u) E) CS.init.plain PySem.F.entry_set_init (check_set_init_1 ⟨_, new, rfl⟩ ?_)) fun r t hr => ?_
  · exact fill_set (z := { z with heap := z.heap.push (mtSet w) }) zs (by simp [calm]) new (gl.push _) (Nat.ne_of_gt ll) iz few fun g tk m R1 ml k => ⟨rfl, g, tk, m, rfl, R1, ml, fun b u gb => k b u (Nat.ne_of_lt (Heap.lt_size gb)) (Heap.get?_push_of_some _ gb)⟩
  rcases r with e | f
  · exact hr
  rcases f with _ | _ | _ | y
  all_goals first | (exact hr.elim; done) | skip
  obtain ⟨rfl, g, tk, m, rfl, R1, ml, k⟩ := hr
  (repeat any_goals first | assumption | wp_step)
  exact fin g tk m R1 ml k
end

section
variable {P : Program} {w : World} {B : Around} {E : Value → Shared → Prop} {z : Shared}
theorem sort_ofSet {a : Addr} {S : Int → Bool} {n : Nat} {Q : Value → Shared → Prop} (R : SetR w z.heap a S n) (calm : B.handled = none) (few : n ≤ 4000)
    (fin : ∀ t p (out : List Value) (c : Nat) (zs : List Int), (∀ b u, z.heap.get? b = some u → t.heap.get? b = some u) → t.gens = z.gens → t.os = z.os → z.heap.objs.size ≤ p → t.heap.get? p = some (seqObj "list" out.toArray c) →
      IntsAre out zs → zs.Pairwise (· < ·) → (∀ k, k ∈ zs ↔ S k = true) → zs.length = n → Q (.ref p) t) : wpAny (model P w) B (call (.builtin "sorted") [.ref a]) Q E z := by
  rcases R with ⟨ob, es, ep, tb, gob, ex, eb, good, once, mem, small, fits, size, ris, led⟩
  refine Calls.call_function_entry kind_sorted plain_sorted entry_sorted (args_sorted1 (.ref a)) ?_
  unfold Builtin.«sorted»
  refine wpAny_bind (m := checkCount "sorted" 1 1 _) (wpAny_pure (wpAny_bind (collect_set (A := B.in1) calm ⟨ob, gob, ex.1, eb⟩ fits small ris led fun t us keep le tg to perm => ?_)))
  have un : us.length = n := by rw [perm.length_eq, List.length_map, Array.length_toList, size]
  have uz : us.length ≤ sizeLine := un ▸ Nat.le_trans few (by decide)
  have nums : IntsAre us (us.map SrtO.iv) := SrtO.ints_iv fun v hv => by
    obtain ⟨q, hq, rfl⟩ := List.mem_map.mp (perm.mem_iff.mp hv)
    obtain ⟨x, tk, ev, _⟩ := good q hq
    exact ⟨x, tk, ev⟩
  have keys : (us.map SrtO.iv).Perm (es.toList.map keyOf) := by
    refine (perm.map SrtO.iv).trans (List.Perm.of_eq ?_)
    rw [List.map_map]
    exact List.map_congr_left fun q _ => by
      obtain ⟨_, v⟩ := q
      cases v <;> rfl
  have new : (t.heap.push (seqObj "list" us.toArray 0)).get? t.heap.objs.size = some (seqObj "list" us.toArray 0) := Heap.get?_push_size _ rfl
  refine wpAny_bind (wpAny_newList (wpAny_bind (wpAny_holding (wpAny_call_entry slot_list_sort ⟨_, new, rfl⟩ entry_list_sort (SrtO.list_sort_ord SrtO.swo_int new uz (fun two => SrtO.ints_sortable nums two) fun out od st => ⟨_, rfl, ?_⟩) (args_list_sort _)))) uz)
  obtain ⟨i1, i2, i3⟩ := SrtO.ints_out nums od st
  obtain ⟨c, gc⟩ := PyProof.Rows.sortedHeap_at (vs := us) (out := out.toArray) new
  have all := i2.trans keys
  refine wpAny_pure ⟨_, rfl, fin _ t.heap.objs.size out c (out.map SrtO.iv) (fun b u gb => ?_) tg to le gc i1 (lt_of_le_nodup _ i3 (all.nodup_iff.mpr once)) (fun k => by rw [all.mem_iff]; exact (mem k).symm) (by rw [all.length_eq, List.length_map, Array.length_toList, size])⟩
  have old := Heap.lt_size (keep b u gb)
  exact (PyProof.Rows.sortedHeap_old (Nat.ne_of_lt old) (by rw [size_push']; exact Nat.lt_succ_of_lt old)).trans (Heap.get?_push_of_some _ (keep b u gb))
end
/-- set(xs), xs a list of ints -/
def rSetL (w : World) (K : PySem.W.Frag) : List V → Hp → VK → Prop := fun xs Hh Qq => ∃ (a : Addr) (zs : List Int), xs = [V.ref a] ∧ SqL K Hh a (zs.map V.int) ∧ zs.length ≤ 4000 ∧
  ∀ (p : Addr) (ks : List Int), ks.Nodup → (∀ k, k ∈ ks ↔ k ∈ zs) → ks.length ≤ zs.length → Hh p = none → Qq (.ref p) (upd Hh p (SetO w p (fun j => decide (j ∈ zs)) ks.length))
/-- sorted(found) of a set of ints -/
def rSortedSetN (w : World) : List V → Hp → VK → Prop := fun xs Hh Qq => ∃ (a : Addr) (S : Int → Bool) (n : Nat), xs = [V.ref a] ∧ Hh a = some (SetO w a S n) ∧ n ≤ 4000 ∧
  ∀ (zs : List Int) (p : Addr), zs.Pairwise (· < ·) → (∀ k : Int, k ∈ zs ↔ S k = true) → zs.length = n → Hh p = none → Qq (.ref p) (upd Hh p (.lst (zs.map V.int)))
/-- len(found) of a set of ints -/
def rLenSetO (w : World) : List V → Hp → VK → Prop := fun xs Hh Qq => ∃ (a : Addr) (S : Int → Bool) (n : Nat), xs = [V.ref a] ∧ Hh a = some (SetO w a S n) ∧ n ≤ 4000 ∧ Qq (.int n) Hh
section
variable {X : Cx}
theorem cr_setL (calm : X.calm = true) : CallR X (.type "set") (rSetL X.w X.K) := by
  rintro pns t σs Hh xs us Qq Iv rr ⟨a, zs, rfl, seq, few, q⟩
  obtain ⟨its, vals, lst, _⟩ := Iv.list seq
  rw [Vals.ref1 rr]
  refine set_of_list zs (Iv.ok.hd calm) lst.isList (by simpa using vals.ints) (by unfold scanBound; omega) fun g tk m R1 ml keep => ?_
  have free := Iv.hok.fresh (Nat.le_refl t.heap.objs.size)
  obtain ⟨ob, es, ep, tb, gob, ex, eb, good, once, mem, small, fits, size, ris, led⟩ := id R1
  have lk : (es.toList.map keyOf).length = m := by rw [List.length_map, Array.length_toList, size]
  have done := q t.heap.objs.size (es.toList.map keyOf) once (fun j => (mem j).symm.trans decide_eq_true_iff) (by rw [lk]; exact ml) free
  rw [lk] at done
  exact ⟨.ref _, _, Iv.laid (t' := tk) (fun b u gb => keep b u gb) (Nat.le_refl _) (setO_new R1), rfl, done⟩
theorem cr_sortedSetN (calm : X.calm = true) : CallR X (.builtin "sorted") (rSortedSetN X.w) := by
  rintro pns t σs Hh xs us Qq Iv rr ⟨a, S, n, rfl, ha, few, q⟩
  rw [Vals.ref1 rr]
  refine sort_ofSet (setO_get Iv ha) (Iv.ok.hd calm) few fun t2 p out c zs keep tg to le gp nums asc mem size => ?_
  have free : Hh p = none := Iv.hok.fresh le
  have fit : (zs.map V.int).length ≤ sizeLine := by rw [List.length_map, size]; exact Nat.le_trans few (by decide)
  have I2 : L2.Inv X pns σs (upd Hh p (.lst (zs.map V.int))) { t with heap := t2.heap, gens := t2.gens, drawn := t2.drawn, toks := t2.toks } := Iv.call (ch := []) (Un.laid keep le free) (Iv.hok.laid keep le ⟨fit, out, c, vals_of_ints nums, gp⟩) (by rw [tg]; exact Iv.bare) (fun _ x => nomatch x)
  obtain ⟨t21, t22, t23, t24, t25⟩ := t2
  cases to
  exact ⟨.ref p, _, I2, rfl, q zs p asc mem size free⟩
theorem cr_lenSetO : CallR X (.builtin "len") (rLenSetO X.w) := by
  rintro pns t σs Hh xs us Qq Iv rr ⟨a, S, n, rfl, ha, few, q⟩
  rw [Vals.ref1 rr]
  obtain ⟨ob, es, ep, tb, gob, ex, eb, good, once, mem, small, fits, size, ris, led⟩ := setO_get Iv ha
  exact call_len_set gob ex eb fits (by rw [size]; omega) ⟨.int n, Hh, Iv.tok _, ⟨_, by rw [size]⟩, q⟩
end
end Rg
namespace Rg
open PySem PySem.Spec PyProof.Rows L2
/-! ### sorted(t), t a tuple of pairs of ints -/
def rSortedTP (K : PySem.W.Frag) : List V → Hp → VK → Prop := fun xs Hh Qq => ∃ (a : Addr) (ys : List V) (k : V → Int × Int), xs = [V.ref a] ∧ SqT K Hh a ys ∧ (∀ y ∈ ys, ∃ t, y = V.ref t ∧ Hh t = some (.tup [.int (k y).1, .int (k y).2])) ∧
  ∀ (zs : List V) (p : Addr), SrtO.Srtd (ltP k) zs → SrtO.Stb (ltP k) zs ys → Hh p = none → Qq (.ref p) (upd Hh p (.lst zs))
theorem cr_sortedTP {X : Cx} : CallR X (.builtin "sorted") (rSortedTP X.K) := by
  rintro pns s σs Hh xs us Qq Iv rr ⟨a, ys, k, rfl, seq, pairs, q⟩
  obtain ⟨vls, vals, tp, fit⟩ := Iv.tuple seq
  rw [Vals.ref1 rr]
  obtain ⟨back, refs⟩ := refs_back vals fun x m => let ⟨t, e, _⟩ := pairs x m; ⟨t, e⟩
  have two : ∀ {h₁ : Heap}, (∀ b oj, s.heap.get? b = some oj → h₁.get? b = some oj) → ∀ v ∈ vls, Srt.IsPair h₁ v (k (backV v)).1 (k (backV v)).2 := fun keep v m => by
    obtain ⟨t, rfl⟩ := refs v m
    obtain ⟨t', e, at'⟩ := pairs (V.ref t) (by rw [back]; exact List.mem_map.mpr ⟨_, m, rfl⟩)
    cases e
    obtain ⟨_, its, r2, ob, go, cl, n, dat⟩ := Iv.hok _ _ at'
    obtain ⟨u1, u2, rfl, ⟨t1, rfl⟩, t2, rfl⟩ := vals2 r2
    exact ⟨t, ob, t1, t2, n, rfl, keep _ _ go, cl, dat⟩
  refine sorted_tup (SrtO.swo_lex fun u => k (backV u)) (isTuple_of tp) (by rw [← vals.length]; exact fit) (fun h2 h₁ a' new keep => SrtO.pairs_sortableO (by omega) (two fun b oj g => (keep b oj g).2) fun o g c => ?_) fun out ord st => ?_
  · rw [show h₁.get? a' = _ from new] at g
    cases g
    exact absurd (Value.type.inj c) (by decide)
  · have outs : ∀ u ∈ out, ∃ b, u = Value.ref b := fun u m => refs u (st.perm.mem_iff.mp m)
    obtain ⟨ep, gp⟩ := PyProof.Rows.sortedAll_at s.heap vls out.toArray
    have stb : SrtO.Stb (ltP k) (out.map backV) ys := by
      rw [back]
      exact SrtO.Stb.map (ltP_swo k) backV st
    exact ⟨.ref _, upd Hh (s.heap.objs.size + 1) (.lst (out.map backV)), Iv.laid (t' := s.toks) (fun _ _ => PyProof.Rows.sortedAll_old) (Nat.le_succ _) ⟨by rw [stb.len]; exact fit, out, ep, vals_back outs, gp⟩, rfl, q _ _ (SrtO.srtd_map ord) stb (Iv.hok.fresh (Nat.le_succ _))⟩
end Rg
namespace K
open PySem L2 Rg
open Evl (pss_cut)
def top (i : Nat) : Stmt := PySem.Challenge.pw_ringbars_k55_lineups_counted.main.body.getD i (.Pass ⟨0, 0, 0, 0⟩)
abbrev sWall : Stmt := top 0
abbrev sFixed : Stmt := top 2
abbrev sIsInteger : Stmt := top 4
abbrev sIsWithin : Stmt := top 5
abbrev sIsList : Stmt := top 6
abbrev sIsNumbers : Stmt := top 7
abbrev sBadRingInit : Stmt := inClass (top 10) 0
abbrev sBadLineUpInit : Stmt := inClass (top 11) 0
abbrev sBadNumberInit : Stmt := inClass (top 12) 0
abbrev sTooManyInit : Stmt := inClass (top 13) 0
abbrev sBadTextInit : Stmt := inClass (top 14) 0
abbrev sWantNumber : Stmt := top 16
abbrev sItemsOf : Stmt := top 19
abbrev sIntegerOf : Stmt := top 20
abbrev sItemAt : Stmt := top 21
abbrev sNumberAt : Stmt := top 22
abbrev sRingInit : Stmt := inClass (top 27) 0
abbrev sRingLen : Stmt := inClass (top 27) 1
abbrev sRingEq : Stmt := inClass (top 27) 2
abbrev sRingStr : Stmt := inClass (top 27) 3
abbrev sRingLengthOf : Stmt := inClass (top 27) 4
abbrev sRingSortOf : Stmt := inClass (top 27) 5
abbrev sRingWithLength : Stmt := inClass (top 27) 6
abbrev sRingBegunAt : Stmt := inClass (top 27) 7
abbrev sRingBackwards : Stmt := inClass (top 27) 8
abbrev sRingInOrder : Stmt := inClass (top 27) 9
abbrev sRingAsOne : Stmt := inClass (top 27) 10
abbrev sRingInTwo : Stmt := inClass (top 27) 11
abbrev sRingRead : Stmt := inClass (top 27) 12
abbrev sAreLengths : Stmt := top 28
abbrev sHasLevel : Stmt := top 29
abbrev sReadRing : Stmt := top 30
abbrev sWantRing : Stmt := top 31
abbrev sWantFew : Stmt := top 34
abbrev sLineUpInit : Stmt := inClass (top 36) 0
abbrev sLineUpEq : Stmt := inClass (top 36) 1
abbrev sLineUpStr : Stmt := inClass (top 36) 2
abbrev sLineUpRead : Stmt := inClass (top 36) 3
abbrev sAreStrands : Stmt := top 37
abbrev sIsStrand : Stmt := top 38
abbrev sAsStrand : Stmt := top 39
abbrev sLineupItems : Stmt := top 40
abbrev sItemOf : Stmt := top 41
abbrev sReadLineup : Stmt := top 42
abbrev sPairsNext : Stmt := top 43
abbrev sManyLineups : Stmt := top 45
abbrev sNetsOf : Stmt := top 46
abbrev sTooGreat : Stmt := top 47
abbrev sIsHad : Stmt := top 48
abbrev sAllStrands : Stmt := top 49
abbrev sWithBar : Stmt := top 50
abbrev sLwBench : Stmt := top 52
abbrev sLwDraw : Stmt := top 53
abbrev sLwPick : Stmt := top 54
abbrev sLwMixed : Stmt := top 55
abbrev sLwLengths : Stmt := top 56
abbrev sLwCounts : Stmt := top 57
abbrev sLwLevels : Stmt := top 58
abbrev sLwCountsRight : Stmt := top 59
abbrev sLwHeard : Stmt := top 60
abbrev sLwRefusedRight : Stmt := top 61
abbrev sLaw : Stmt := top 62

/-- all but what stands at p is as it was -/
def But (p : Addr) (H H' : Hp) : Prop := ∀ b o, b ≠ p → H b = some o → H' b = some o
theorem But.refl (p : Addr) (H : Hp) : But p H H := fun _ _ _ h => h
theorem But.trans {p : Addr} {H H1 H2 : Hp} (a : But p H H1) (b : But p H1 H2) : But p H H2 := fun c o n h => b c o n (a c o n h)
theorem But.new {p q : Addr} {H H' : Hp} {o : HO} (a : But p H H') (n : H' q = none) : But p H (upd H' q o) := fun c u hc h => by
  have e := a c u hc h
  rw [upd_ne (ne_of_none e n)]
  exact e
theorem But.at {p : Addr} {H H' : Hp} {o : HO} (a : But p H H') : But p H (upd H' p o) := fun c u hc h => by
  rw [upd_ne hc]
  exact a c u hc h
theorem But.seq {K : PySem.W.Frag} {p a : Addr} {H H' : Hp} {xs : List V} (e : But p H H') (n : a ≠ p) (h : SqL K H a xs) : SqL K H' a xs := by
  rcases h with (h | ⟨o, h⟩) | h
  · exact .inl (.inl (e _ _ n h))
  · exact .inl (.inr ⟨o, e _ _ n h⟩)
  · exact .inr h
/-- the pen: its cells, how many were begun (at most n), what a great one has left -/
structure PenAt (K : PySem.W.Frag) (H : Hp) (p : Addr) (e : Addr × List Int) (n : Nat) : Prop where
  ex : ∃ (at' rest : Int), H p = some (.lst [.ref e.1, .int at', .int rest]) ∧ 0 ≤ at' ∧ at' ≤ n ∧ 0 ≤ rest
  sq : SqL K H e.1 (e.2.map V.int)
  np : e.1 ≠ p
  ln : e.2.length ≤ 62
theorem But.of {p : Addr} {H H' : Hp} (e : Same H H') : But p H H' := fun b o _ h => e b o h
theorem But.mut {p q : Addr} {H H' : Hp} {o : HO} (a : But p H H') (n : H q = none) : But p H (upd H' q o) := fun c u hc h => by
  have e := a c u hc h
  rw [upd_ne (ne_of_none h n)]
  exact e
theorem But.free {p q : Addr} {H H' : Hp} (a : But p H H') (hq : q ≠ p) (n : H' q = none) : H q = none := by
  cases e : H q with
  | none => rfl
  | some o =>
    rw [a q o hq e] at n
    cases n
theorem But.tup {K : PySem.W.Frag} {p a : Addr} {H H' : Hp} {xs : List V} (e : But p H H') (n : a ≠ p) (h : SqT K H a xs) : SqT K H' a xs := by
  rcases h with (h | ⟨o, h⟩) | h
  · exact .inl (.inl (e _ _ n h))
  · exact .inl (.inr ⟨o, e _ _ n h⟩)
  · exact .inr h
theorem _root_.L2.Same.new {q : Addr} {H H' : Hp} {o : HO} (a : Same H H') (n : H' q = none) : Same H (upd H' q o) := fun c u h => by
  have e := a c u h
  rw [upd_ne (ne_of_none e n)]
  exact e
theorem _root_.L2.Same.mut {q : Addr} {H H' : Hp} {o : HO} (a : Same H H') (n : H q = none) : Same H (upd H' q o) := fun c u h => by
  have e := a c u h
  rw [upd_ne (ne_of_none h n)]
  exact e
theorem _root_.L2.Same.tup {K : PySem.W.Frag} {a : Addr} {H H' : Hp} {xs : List V} (e : Same H H') (h : SqT K H a xs) : SqT K H' a xs := by
  rcases h with (h | ⟨o, h⟩) | h
  · exact .inl (.inl (e _ _ h))
  · exact .inl (.inr ⟨o, e _ _ h⟩)
  · exact .inr h
section
variable {K : PySem.W.Frag} {H H' : Hp} {p q : Addr} {e : Addr × List Int} {n m : Nat} {o : HO}
theorem PenAt.mono (h : PenAt K H p e n) (le : n ≤ m) : PenAt K H p e m := by
  obtain ⟨a, r, h1, h5, h6, h7⟩ := h.ex
  exact ⟨⟨a, r, h1, h5, by omega, h7⟩, h.sq, h.np, h.ln⟩
/-- the pen stands while all that is tracked stands -/
theorem PenAt.same (h : PenAt K H p e n) (s : Same H H') : PenAt K H' p e n := by
  obtain ⟨a, r, h1, h5, h6, h7⟩ := h.ex
  exact ⟨⟨a, r, s _ _ h1, h5, h6, h7⟩, s.seq h.sq, h.np, h.ln⟩
theorem PenAt.some (h : PenAt K H p e n) : ∃ xs, H p = some (.lst xs) := by
  obtain ⟨a, r, h1, _⟩ := h.ex
  exact ⟨_, h1⟩
theorem PenAt.ne (h : PenAt K H p e n) (z : H q = none) : q ≠ p := by
  obtain ⟨xs, h1⟩ := h.some
  exact (ne_of_none h1 z).symm
/-- the pen stands while a new thing is laid -/
theorem PenAt.put (h : PenAt K H p e n) (z : H q = none) : PenAt K (upd H q o) p e n := h.same (Same.new (Same.refl H) z)
/-- .. while a thing is written that was not there ahead -/
theorem PenAt.mut (h : PenAt K H p e m) (h2 : PenAt K H' p e n) (b : But p H H') (z : H q = none) : PenAt K (upd H' q o) p e n := by
  obtain ⟨a, r, h1, h5, h6, h7⟩ := h2.ex
  exact ⟨⟨a, r, by rw [upd_ne (h.ne z).symm]; exact h1, h5, h6, h7⟩, (b.mut z).seq h.np h.sq, h.np, h.ln⟩
end
/-- the built-ins that the text names -/
structure Bi (mg : Str → Option Value) : Prop where
  int : mg "int" = none
  len : mg "len" = none
  abs : mg "abs" = none
  list : mg "list" = none
  tuple : mg "tuple" = none
  bool : mg "bool" = none
  range : mg "range" = none
  sum : mg "sum" = none
  max : mg "max" = none
  all : mg "all" = none
  any : mg "any" = none
  sorted : mg "sorted" = none
  enumerate : mg "enumerate" = none
  isinstance : mg "isinstance" = none
section
variable {K : PySem.W.Frag}
theorem eqv_nil (l : List Int) : PyData.eqv (.list (l.map PyData.int)) (.list []) = l.isEmpty := by
  cases l <;> simp [PyData.eqv, PyData.eqvAll] <;> rfl
theorem dp_ints {H : Hp} : ∀ l : List Int, DpAll K H (l.map V.int) (l.map PyData.int)
  | [] => .nil
  | i :: l => .cons (.int i) (dp_ints l)
theorem lay_ints : ∀ l : List Int, PyData.canLayAll0 (l.map PyData.int) = true
  | [] => by simp [PyData.canLayAll0]
  | i :: l => by simp [PyData.canLayAll0, PyData.canLay0, lay_ints l]
theorem deep_ints : ∀ l : List Int, PyData.depthAll (l.map PyData.int) = 0
  | [] => by simp [PyData.depthAll]
  | i :: l => by simp [PyData.depthAll, PyData.depth, deep_ints l]
theorem shaped_ints (l : List Int) : SeqAt.shaped (.list (l.map PyData.int)) = true := by
  simp [SeqAt.shaped, PyData.canLay0, PyData.depth, lay_ints l, deep_ints l]
end
end K
namespace K
open PySem L2 Rg
open Evl (pss_cut)
def spDraw (K : PySem.W.Frag) : Sp := fun vs H Q _ => ∃ (p : Addr) (e : Addr × List Int) (many : Int) (n : Nat), vs = [.ref p, .int many] ∧ 1 ≤ many ∧ many ≤ 1000000 ∧ n < 1000000 ∧ PenAt K H p e n ∧
  ∀ (r : Int) (H' : Hp), 0 ≤ r → r < many → But p H H' → PenAt K H' p e (n + 1) → Q (.int r) H'
section
variable {P : Program} {w : World} {K : PySem.W.Frag} {mg : Str → Option Value} {base : Heap}
abbrev nDraw : List Str := ["_law_bench_here", "_law_many", "_law_digit", "_law_at", "_law_cell", "_law_great", "_law_mixed_here"]
theorem scDraw : FnScope nDraw ["_law_bench_here", "_law_many"] (defScope sLwDraw) := ⟨rfl, rfl, rfl, by decide +kernel, rfl, by decide +kernel, by decide +kernel⟩
theorem ok_draw {f : Addr} {fd : FuncData} (F : Fun K "_law_draw" "_law_draw" sLwDraw f fd) (T : Bi mg) : FnOk P w K mg base CX0 2 f fd ["_law_bench_here", "_law_many"] (spDraw K) := by
  refine F.ok scDraw (fun vs H Q E h => ?_) (fun cdv A outer s H vs Q E hr h => ?_)
  · obtain ⟨p, e, many, n, rfl, _⟩ := h
    rfl
  · have nd := scDraw.nd
    refine ⟨_, pss_cons (ps_if (pt_cmpR op_gt (pe_ix ix_list (pv 0) pe_int (fun _ _ => rfl)) pe_int (nomark _))
        (pss_cons (ps_set (i := 2) nd rfl (Or.inl rfl) (pe_op op_mod (pe_callTy call_int1 (by rfl) T.int (by decide +kernel) (pa_cons (pe_ix ix_list (pv 0) pe_int (fun _ _ => rfl)) pa_nil)) (pv 1)))
        (pss_cons (ps_asg (pe_op op_fdiv (pe_callTy call_int1 (by rfl) T.int (by decide +kernel) (pa_cons (pe_ix ix_list (pv 0) pe_int (fun _ _ => rfl)) pa_nil)) (pv 1)) (pg_sub (pv 0) pe_int set_list))
        (pss_one (ps_ret (pv 2))))) pss_nil)
      (pss_cons (ps_set (i := 3) nd rfl (Or.inl rfl) (pe_ix ix_list (pv 0) pe_int (fun _ _ => rfl)))
      (pss_cons (ps_asg (pe_op op_add (pv 3) pe_int) (pg_sub (pv 0) pe_int set_list))
      (pss_cons (ps_set (i := 4) nd rfl (Or.inl rfl) (pe_op op_add (pe_op op_mul pe_int (pv 3)) pe_int))
      (pss_cut (ps_if (pt_cmpR (op_neD hr.units) (pe_ix ix_list (pv 0) pe_int (fun _ _ => rfl)) (pe_lst pa_nil) (nomark _))
        (pss_one (ps_set (i := 4) nd rfl (Or.inl rfl) (pe_ix ix_list (pe_ix ix_list (pv 0) pe_int (fun _ _ => rfl)) (pe_op op_mod (pe_callTy call_int1 (by rfl) T.int (by decide +kernel) (pa_cons (pv 3) pa_nil)) (pe_callB call_len_seq (by rfl) T.len PySem.boot_len (pa_cons (pe_ix ix_list (pv 0) pe_int (fun _ _ => rfl)) pa_nil))) (fun _ _ => rfl)))) pss_nil)
      (pss_cut (ps_if (PW.pt (pw_and (pt_cmpR op_lt (pv 3) (pe_callB call_len_seq (by rfl) T.len PySem.boot_len (pa_cons (pe_ix ix_list (pv 0) pe_int (fun _ _ => rfl)) pa_nil)) (nomark _))
          (pw_and1 (pt_cmpR op_ge (pe_callB call_abs (by rfl) T.abs (by decide +kernel) (pa_cons (pv 4) pa_nil)) (pe_op op_pow pe_int pe_int) (nomark _)))))
        (pss_cons (ps_set (i := 5) nd rfl (Or.inl rfl) (pe_op op_add (pe_op op_mul pe_int (pe_op op_sub (pe_callB call_abs (by rfl) T.abs (by decide +kernel) (pa_cons (pv 4) pa_nil)) (pe_op op_pow pe_int pe_int))) (pe_callTy call_int1 (by rfl) T.int (by decide +kernel) (pa_cons (pe_cmpR op_lt (pv 4) pe_int (nomark _)) pa_nil))))
        (pss_cons (ps_asg (pe_op op_fdiv (pe_callTy call_int1 (by rfl) T.int (by decide +kernel) (pa_cons (pv 5) pa_nil)) (pv 1)) (pg_sub (pv 0) pe_int set_list))
        (pss_one (ps_ret (pe_op op_mod (pe_callTy call_int1 (by rfl) T.int (by decide +kernel) (pa_cons (pv 5) pa_nil)) (pv 1)))))) pss_nil)
      (pss_cut (ps_set (i := 6) nd rfl (Or.inl rfl) (pe_op op_mod (pe_callTy call_int1 (by rfl) T.int (by decide +kernel) (pa_cons (pe_op op_pow (pe_op op_add (pe_op op_add (pe_op op_mod (pe_callTy call_int1 (by rfl) T.int (by decide +kernel) (pa_cons (pv 4) pa_nil)) pe_int) (pe_op op_mul pe_int (pv 3))) pe_int) pe_int) pa_nil)) pe_int))
      (pss_cons (ps_set (i := 6) nd rfl (Or.inl rfl) (pe_op op_mod (pe_callTy call_int1 (by rfl) T.int (by decide +kernel) (pa_cons (pe_op op_pow (pe_op op_add (pe_op op_add (pe_op op_mul (pv 6) (pe_op op_add (pe_op op_mul pe_int (pv 3)) pe_int)) (pe_op op_mul (pe_op op_mul pe_int (pv 3)) (pv 3))) pe_int) pe_int) pa_nil)) pe_int))
      (pss_one (ps_ret (pe_op op_mod (pe_callTy call_int1 (by rfl) T.int (by decide +kernel) (pa_cons (pe_op op_fdiv (pv 6) pe_int) pa_nil)) (pv 1))))))))))), ?_⟩
    obtain ⟨p, ⟨c, cells⟩, many, n, rfl, m1, m2, hn, ⟨⟨at0, rest, hp, a0, a1, r0⟩, hc, hcp, hcl⟩, k⟩ := h
    dsimp only at hp hc hcp hcl
    have mp : (0 : Int) < many := by omega
    have md : (0 : Int) < many ∧ many < 1073741824 := ⟨mp, by omega⟩
    refine ⟨_, rfl, p, _, _, _, rfl, rfl, SqL.of hp, atI_nat (j := 2) rfl, _, _, rfl, rfl, _, rfl, ?_⟩
    refine ite2 (fun hg => ?_) (fun hg => ?_)
    · have g0 : rest > 0 := of_decide_eq_true hg
      refine ⟨_, rfl, p, _, _, _, rfl, rfl, SqL.of hp, atI_nat (j := 2) rfl, .inl ⟨_, rfl, _, rfl, _, _, rfl, rfl, mp, ?_⟩⟩
      refine ⟨_, rfl, p, _, _, _, rfl, rfl, SqL.of hp, atI_nat (j := 2) rfl, .inl ⟨_, rfl, _, rfl, _, _, rfl, rfl, md, _, rfl, p, _, _, 2, rfl, rfl, hp, rfl, ?_⟩⟩
      refine ⟨_, rfl, ?_⟩
      have b1 : But p H (upd H p (.lst [.ref c, .int at0, .int (rest / many)])) := (But.refl p H).at
      exact k _ _ (Int.emod_nonneg _ (by omega)) (Int.emod_lt_of_pos _ mp) b1 ⟨⟨at0, rest / many, upd_same, a0, by omega, Int.ediv_nonneg r0 (by omega)⟩, b1.seq hcp hc, hcp, hcl⟩
    · refine ⟨_, rfl, p, _, _, _, rfl, rfl, SqL.of hp, atI_nat (j := 1) rfl, ?_⟩
      refine ⟨_, rfl, _, _, rfl, rfl, _, rfl, p, _, _, 1, rfl, rfl, hp, rfl, ?_⟩
      have h1 : upd H p (.lst [.ref c, .int (at0 + 1), .int rest]) p = some (.lst [.ref c, .int (at0 + 1), .int rest]) := upd_same
      have b1 : But p H (upd H p (.lst [.ref c, .int (at0 + 1), .int rest])) := (But.refl p H).at
      refine ⟨_, rfl, _, _, rfl, rfl, .inl ⟨by decide, by decide⟩, _, _, rfl, rfl, ?_⟩
      refine ⟨fun σ' H' => ∃ cell : Int, σ' = [some (.ref p), some (.int many), none, some (.int at0), some (.int cell), none, none] ∧ But p H H' ∧ H' p = some (.lst [.ref c, .int (at0 + 1), .int rest]), ?_, ?_⟩
      · refine ⟨_, rfl, p, _, _, _, rfl, rfl, SqL.of h1, atI_nat (j := 0) rfl, (by decide), fun q hq => ?_⟩
        have hqp : p ≠ q := ne_of_none h1 hq
        have b2 : But p H (upd (upd H p (.lst [.ref c, .int (at0 + 1), .int rest])) q (.lst [])) := b1.new hq
        have h2 : upd (upd H p (.lst [.ref c, .int (at0 + 1), .int rest])) q (.lst []) p = some (.lst [.ref c, .int (at0 + 1), .int rest]) := by rw [upd_ne hqp]; exact h1
        refine ⟨_, _, .lst (b2.seq hcp hc) (dp_ints cells), .lst (SqL.of upd_same) .nil, shaped_ints _, rfl, _, rfl, ?_⟩
        rw [eqv_nil]
        cases e : cells.isEmpty with
        | true =>
          refine iteF ?_
          exact ⟨_, rfl, b2, h2⟩
        | false =>
          have hl : 0 < cells.length := by
            cases cells with
            | nil => cases e
            | cons z zs => simp
          refine iteT ?_
          have hlt : (at0 % (cells.length : Int)).toNat < cells.length := by
            have := Int.emod_lt_of_pos at0 (show (0 : Int) < cells.length by omega)
            have := Int.emod_nonneg at0 (show (cells.length : Int) ≠ 0 by omega)
            omega
          have hix : (cells.map V.int)[(at0 % (cells.length : Int)).toNat]? = some (V.int (cells[(at0 % (cells.length : Int)).toNat])) := by
            rw [List.getElem?_map, List.getElem?_eq_getElem hlt]
            rfl
          refine ⟨_, rfl, p, _, _, _, rfl, rfl, SqL.of h2, atI_nat (j := 0) rfl, _, rfl, .inl ⟨_, rfl, _, rfl, p, _, _, _, rfl, rfl, SqL.of h2, atI_nat (j := 0) rfl, c, _, rfl, .inl (b2.seq hcp hc), ?_⟩⟩
          rw [List.length_map]
          refine ⟨_, _, rfl, rfl, (by omega), c, _, _, _, rfl, rfl, b2.seq hcp hc, at_of (j := (at0 % (cells.length : Int)).toNat) (by
            have := Int.emod_nonneg at0 (show (cells.length : Int) ≠ 0 by omega)
            omega) hix, ?_⟩
          exact ⟨_, rfl, b2, h2⟩
      · rintro σ' H' ⟨cell, rfl, b2, h2⟩
        have pw : CPow 10 18 := ⟨by decide, by decide, by decide⟩
        refine ⟨fun σ' H'' => σ' = [some (.ref p), some (.int many), none, some (.int at0), some (.int cell), none, none] ∧ But p H H'' ∧ H'' p = some (.lst [.ref c, .int (at0 + 1), .int rest]), ?_, ?_⟩
        · refine ⟨_, rfl, _, rfl, p, _, _, _, rfl, rfl, SqL.of h2, atI_nat (j := 0) rfl, c, _, rfl, .inl (b2.seq hcp hc), _, _, rfl, rfl, _, rfl, ?_⟩
          refine ite2 (fun _ => ?_) (fun _ => iteF ?_)
          · refine ⟨_, rfl, _, rfl, _, _, rfl, rfl, pw, _, _, rfl, rfl, _, rfl, ?_⟩
            refine ite2 (fun hge => ?_) (fun _ => ?_)
            · have ge := of_decide_eq_true hge
              have ge2 : (10 : Int) ^ (18 : Int).toNat ≤ if cell < 0 then -cell else cell := ge
              have gr0 : 0 ≤ (2 * ((if cell < 0 then -cell else cell) - (10 : Int) ^ (18 : Int).toNat) + (if decide (cell < 0) = true then 1 else 0) : Int) := by
                split <;> omega
              refine ⟨_, rfl, _, rfl, _, _, rfl, rfl, pw, _, _, rfl, rfl, _, _, rfl, rfl, .inl ⟨by decide, by decide⟩, _, rfl, _, _, rfl, rfl, .inr ⟨_, rfl, _, _, rfl, rfl, ?_⟩⟩
              refine ⟨_, rfl, .inl ⟨_, rfl, _, rfl, _, _, rfl, rfl, md, _, rfl, p, _, _, 2, rfl, rfl, h2, rfl, ?_⟩⟩
              refine ⟨_, rfl, .inl ⟨_, rfl, _, rfl, _, _, rfl, rfl, mp, ?_⟩⟩
              exact k _ _ (Int.emod_nonneg _ (by omega)) (Int.emod_lt_of_pos _ mp) b2.at ⟨⟨at0 + 1, _, upd_same, by omega, by omega, Int.ediv_nonneg gr0 (by omega)⟩, (b2.at).seq hcp hc, hcp, hcl⟩
            · exact ⟨rfl, b2, h2⟩
          · exact ⟨rfl, b2, h2⟩
        · rintro σ'' H'' ⟨rfl, b3, h3⟩
          refine ⟨fun σ' H4 => ∃ x : Int, 0 ≤ x ∧ x < 2147483629 ∧ σ' = [some (.ref p), some (.int many), none, some (.int at0), some (.int cell), none, some (.int x)] ∧ H4 = H'', ?_, ?_⟩
          · have q0 := Int.emod_nonneg cell (show (2147483587 : Int) ≠ 0 by decide)
            have q1 := Int.emod_lt_of_pos cell (show (0 : Int) < 2147483587 by decide)
            have pw5 : CPow (cell % 2147483587 + 61099 * at0 + 2239) 5 := ⟨by decide, by decide, by omega⟩
            refine ⟨_, rfl, .inl ⟨_, rfl, _, _, rfl, rfl, (by show (0 : Int) < 2147483587; decide), _, rfl, _, _, rfl, rfl, .inl ⟨by decide, by decide⟩, _, _, rfl, rfl, _, _, rfl, rfl, _, _, rfl, rfl, pw5, .inl ⟨_, rfl, _, _, rfl, rfl, (by show (0 : Int) < 2147483629; decide), ?_⟩⟩⟩
            exact ⟨_, Int.emod_nonneg _ (by decide), Int.emod_lt_of_pos _ (by decide), rfl, rfl⟩
          · rintro σ' H4 ⟨x, x0, x1, rfl, rfl⟩
            have e1 : x * (2 * at0 + 2347) ≤ 2147483629 * 2002347 := Int.mul_le_mul (by omega) (by omega) (by omega) (by decide)
            have e2 : 0 ≤ x * (2 * at0 + 2347) := Int.mul_nonneg x0 (by omega)
            have e3 : 63079 * at0 * at0 ≤ 63079000000 * 1000000 := Int.mul_le_mul (by omega) (by omega) a0 (by decide)
            have e4 : 0 ≤ 63079 * at0 * at0 := Int.mul_nonneg (by omega) a0
            have pw3 : CPow (x * (2 * at0 + 2347) + 63079 * at0 * at0 + 60083) 3 := ⟨by decide, by decide, by omega⟩
            refine ⟨_, rfl, _, rfl, _, _, rfl, rfl, .inl ⟨by decide, by decide⟩, _, _, rfl, rfl, _, _, rfl, rfl, .inl ⟨by omega, by omega⟩, _, rfl, _, _, rfl, rfl, .inl ⟨by decide, by decide⟩, _, rfl, _, _, rfl, rfl, .inr ⟨by omega, by omega⟩, _, _, rfl, rfl, _, _, rfl, rfl, _, _, rfl, rfl, pw3, .inl ⟨_, rfl, _, _, rfl, rfl, (by show (0 : Int) < 2147483549; decide), ?_⟩⟩
            refine ⟨_, rfl, _, _, rfl, rfl, ⟨by decide, by decide⟩, .inl ⟨_, rfl, _, rfl, _, _, rfl, rfl, mp, ?_⟩⟩
            exact k _ _ (Int.emod_nonneg _ (by omega)) (Int.emod_lt_of_pos _ mp) b3 ⟨⟨at0 + 1, rest, h3, by omega, by omega, r0⟩, b3.seq hcp hc, hcp, hcl⟩
end
end K
namespace K
open PySem L2 Rg
open Evl (pss_cut)
theorem int_at {l : List Int} {i : Nat} {v : V} (h : (l.map V.int)[i]? = some v) : ∃ z, l[i]? = some z ∧ v = .int z := by
  rw [List.getElem?_map] at h
  cases e : l[i]? with
  | none => rw [e] at h; cases h
  | some z => rw [e] at h; exact ⟨z, rfl, (Option.some.inj h).symm⟩
theorem take_snoc {α : Type} {l : List α} {i : Nat} {z : α} (h : l[i]? = some z) : l.take i ++ [z] = l.take (i + 1) := by
  rw [List.take_succ, h]; rfl
theorem sz {n : Nat} (h : n ≤ 100000) : n ≤ sizeLine := Nat.le_trans h (by decide)
theorem szl {n : Nat} (h : n < 100000) : n < sizeLine := Nat.lt_of_lt_of_le h (by decide)
theorem cutV_to (xs : List V) (k : Nat) : cutV xs none (some (k : Int)) = xs.take k := by
  unfold cutV
  rw [HT.sIx_none, HT.sIx_nat, List.drop_zero, Nat.sub_zero]
  rcases Nat.le_total k xs.length with h | h
  · rw [Nat.min_eq_left h]
  · rw [Nat.min_eq_right h, List.take_length, List.take_of_length_le h]
section
variable {P : Program} {w : World} {K : PySem.W.Frag} {mg : Str → Option Value} {base : Heap}
/-! ### the pen -/
def spPen (K : PySem.W.Frag) : Sp := fun vs H Q _ => ∃ (a : Addr) (ns : List Int), vs = [.ref a] ∧ SqL K H a (ns.map V.int) ∧ ns.length ≤ 63 ∧
  ∀ (p : Addr) (e : Addr × List Int) (H' : Hp), Same H H' → H p = none → PenAt K H' p e 0 → Q (.ref p) H'
abbrev nPen : List Str := ["_law_script", "_law_cell"]
theorem scPen : FnScope nPen ["_law_script"] (defScope sLwBench) := ⟨rfl, rfl, rfl, by decide +kernel, rfl, by decide +kernel, by decide +kernel⟩
theorem ok_pen {f : Addr} {fd : FuncData} (F : Fun K "_law_bench" "_law_bench" sLwBench f fd) (T : Bi mg) : FnOk P w K mg base CX0 2 f fd ["_law_script"] (spPen K) := by
  refine F.ok scPen (fun vs H Q E h => ?_) (fun cdv A outer s H vs Q E hr h => ?_)
  · obtain ⟨a, ns, rfl, _⟩ := h
    rfl
  · have nd := scPen.nd
    refine ⟨_, pss_one (ps_ret (pe_lst (pa_cons (pe_lc (own := [("_law_cell", 1)]) (g := gName 1) (tt := tYes) rfl nd (pi_list (pe_slice sl_list (pv 0) po_none (po_some pe_int)))
      (blkOk_by (N := nPen) (sc := defScope sLwBench) (by decide +kernel)) (fun _ _ _ _ _ => pg_name (i := 1) nd rfl (Or.inl rfl)) (fun _ _ _ _ _ => pts_nil)
      (fun _ _ _ _ _ => pe_callTy call_int1 (by rfl) T.int (by decide +kernel) (pa_cons (pv 1) pa_nil))) (pa_cons pe_int (pa_cons pe_int pa_nil))))), ?_⟩
    obtain ⟨a, ns, rfl, hS, hl, k⟩ := h
    refine ⟨_, rfl, _, rfl, a, _, rfl, hS, fun q hq => ?_⟩
    have e0 : cutV (ns.map V.int) none (some 58) = (ns.take 58).map V.int := by
      rw [show (58 : Int) = ((58 : Nat) : Int) from rfl, cutV_to, List.map_take]
    rw [e0]
    refine ⟨q, rfl, ⟨_, SqL.of upd_same⟩, fun D hD => ?_⟩
    have hqD : q ≠ D := ne_of_none upd_same hD
    have sD : Same (upd H q (.lst ((ns.take 58).map V.int))) (upd (upd H q (.lst ((ns.take 58).map V.int))) D (.lst [])) := (Same.refl _).new hD
    refine lc_list (K := K) (a := q) (xs := (ns.take 58).map V.int) (fun i H' => Same (upd H q (.lst ((ns.take 58).map V.int))) H' ∧ H' D = some (.lst (((ns.take 58).take i).map V.int)))
      ⟨sD, upd_same⟩ (fun i H' _ p => p.1.seq (SqL.of upd_same)) ?_ ?_
    · rintro i x H' hi ⟨s1, h1⟩
      obtain ⟨z, hz, rfl⟩ := int_at hi
      refine ⟨rfl, _, rfl, .inl ⟨_, rfl, _, h1, szl (by rw [List.length_map, List.length_take, List.length_take]; omega), s1.mut hD, ?_⟩⟩
      rw [← take_snoc hz, List.map_append]
      exact upd_same
    · rintro H' ⟨s1, h1⟩
      rw [List.length_map, List.take_length] at h1
      refine ⟨(by show 3 ≤ sizeLine; decide), fun p hp => ?_⟩
      have nD : H D = none := by
        rw [upd_ne hqD.symm] at hD
        exact hD
      have s2 : Same H H' := fun b o e => s1 b o (by rw [upd_ne (ne_of_none e hq)]; exact e)
      refine k p (D, ns.take 58) _ (s2.new hp) (s2.free hp) ⟨⟨0, 0, upd_same, by decide, by decide, by decide⟩, SqL.of (by rw [upd_ne (ne_of_none h1 hp)]; exact h1), ne_of_none h1 hp, by rw [List.length_take]; omega⟩
end
end K
namespace K
open PySem L2 Rg
open Evl (pss_cut)
section
variable {P : Program} {w : World} {K : PySem.W.Frag} {mg : Str → Option Value} {base : Heap}
/-! ### one of some things -/
def spPick (K : PySem.W.Frag) : Sp := fun vs H Q _ => ∃ (p l : Addr) (e : Addr × List Int) (xs : List V) (n : Nat), vs = [.ref p, .ref l] ∧ SqL K H l xs ∧ l ≠ p ∧ 1 ≤ xs.length ∧ xs.length ≤ 1000 ∧ n < 1000000 ∧ PenAt K H p e n ∧
  ∀ (i : Nat) (v : V) (H' : Hp), xs[i]? = some v → But p H H' → PenAt K H' p e (n + 1) → Q v H'
abbrev nPick : List Str := ["_law_bench_here", "_law_some"]
theorem scPick : FnScope nPick ["_law_bench_here", "_law_some"] (defScope sLwPick) := ⟨rfl, rfl, rfl, by decide +kernel, rfl, by decide +kernel, by decide +kernel⟩
/-- the draw as a def called by its name -/
structure DrawAt (P : Program) (w : World) (K : PySem.W.Frag) (mg : Str → Option Value) (base : Heap) (f : Addr) (fd : FuncData) : Prop where
  ok : FnOk P w K mg base CX0 2 f fd ["_law_bench_here", "_law_many"] (spDraw K)
  g : mg "_law_draw" = some (.ref f)
  kp : PySem.W.keepIn K (.ref f) = true
  b : Binds K fd ["_law_bench_here", "_law_many"] []
theorem ok_pick {f fD : Addr} {fd fdD : FuncData} (F : Fun K "_law_pick" "_law_pick" sLwPick f fd) (T : Bi mg) (D : DrawAt P w K mg base fD fdD) : FnOk P w K mg base CX0 3 f fd ["_law_bench_here", "_law_some"] (spPick K) := by
  refine F.ok scPick (fun vs H Q E h => ?_) (fun cdv A outer s H vs Q E hr h => ?_)
  · obtain ⟨p, l, e, xs, n, rfl, _⟩ := h
    rfl
  · have nd := scPick.nd
    refine ⟨_, pss_one (ps_ret (pe_ix ix_list (pv 1) (pe_call D.ok hr rfl D.g D.kp D.b .nil pass0 (pa_cons (pv 0) (pa_cons (pe_callB call_len_seq (by rfl) T.len PySem.boot_len (pa_cons (pv 1) pa_nil)) pa_nil))) (fun _ _ => rfl))), ?_⟩
    obtain ⟨p, l, e, xs, n, rfl, hl, hlp, l1, l2, hn, pen, k⟩ := h
    refine ⟨_, rfl, _, rfl, _, rfl, l, xs, rfl, .inl hl, p, e, _, n, rfl, by omega, by omega, hn, pen, fun r H' r0 r1 b pen' => ?_⟩
    have hr : r.toNat < xs.length := by omega
    exact ⟨l, xs, r, _, rfl, rfl, b.seq hlp hl, at_of (j := r.toNat) (by omega) (List.getElem?_eq_getElem hr), k _ _ _ (List.getElem?_eq_getElem hr) b pen'⟩
/-! ### things in a drawn order -/
def spMixed (K : PySem.W.Frag) : Sp := fun vs H Q _ => ∃ (p l : Addr) (e : Addr × List Int) (xs : List V) (n : Nat), vs = [.ref p, .ref l] ∧ SqL K H l xs ∧ l ≠ p ∧ xs.length ≤ 30 ∧ n < 900000 ∧ PenAt K H p e n ∧
  ∀ (q : Addr) (ys : List V) (H' : Hp), ys.Perm xs → H q = none → But p H H' → H' q = some (.lst ys) → PenAt K H' p e (n + xs.length) → Q (.ref q) H'
abbrev nMixed : List Str := ["_law_bench_here", "_law_some", "_law_left", "_law_found", "_law_turn"]
theorem scMixed : FnScope nMixed ["_law_bench_here", "_law_some"] (defScope sLwMixed) := ⟨rfl, rfl, rfl, by decide +kernel, rfl, by decide +kernel, by decide +kernel⟩
theorem perm_take {l d : List V} {i : Nat} {x : V} (h : l[i]? = some x) : (d ++ [x] ++ l.eraseIdx i).Perm (d ++ l) := by
  obtain ⟨hi, rfl⟩ := List.getElem?_eq_some_iff.mp h
  rw [List.append_assoc]
  refine List.Perm.append_left d ?_
  rw [List.eraseIdx_eq_take_drop_succ]
  have e : l = l.take i ++ l[i] :: l.drop (i + 1) := by
    rw [List.getElem_cons_drop, List.take_append_drop]
  calc [l[i]] ++ (l.take i ++ l.drop (i + 1)) = l[i] :: (l.take i ++ l.drop (i + 1)) := rfl
    _ |>.Perm (l.take i ++ l[i] :: l.drop (i + 1)) := List.perm_middle.symm
    _ |>.Perm l := by rw [← e]
theorem ok_mixed {f fD : Addr} {fd fdD : FuncData} (F : Fun K "_law_mixed" "_law_mixed" sLwMixed f fd) (T : Bi mg) (D : DrawAt P w K mg base fD fdD) : FnOk P w K mg base CX0 3 f fd ["_law_bench_here", "_law_some"] (spMixed K) := by
  refine F.ok scMixed (fun vs H Q E h => ?_) (fun cdv A outer s H vs Q E hr h => ?_)
  · obtain ⟨p, l, e, xs, n, rfl, _⟩ := h
    rfl
  · have nd := scMixed.nd
    refine ⟨_, pss_cons (ps_par (i := 2) (j := 3) (by rfl) nd rfl rfl (by decide) rfl rfl (pa_cons (pe_callTy call_list_of (by rfl) T.list (by decide +kernel) (pa_cons (pv 1) pa_nil)) (pa_cons (pe_lst pa_nil) pa_nil)) (by rfl))
      (pss_cons (ps_for PassesOwn.never rfl (pi_range1 (by rfl) T.range (pa_cons (pe_callB call_len_seq (by rfl) T.len PySem.boot_len (pa_cons (pv 1) pa_nil)) pa_nil)) (pg_name (i := 4) nd rfl (Or.inl rfl))
        (pss_one (ps_expr (pe_bm PySem.F.plainAttrs_list PySem.F.slot_list_append PySem.F.type_list_append mt_append (pv 3)
          (pa_cons (pe_bm PySem.F.plainAttrs_list PySem.F.slot_list_pop PySem.F.type_list_pop mt_popAt (pv 2)
            (pa_cons (pe_call D.ok hr rfl D.g D.kp D.b .nil pass0 (pa_cons (pv 0) (pa_cons (pe_callB call_len_seq (by rfl) T.len PySem.boot_len (pa_cons (pv 2) pa_nil)) pa_nil))) pa_nil)) pa_nil)))))
      (pss_one (ps_ret (pv 3)))), ?_⟩
    obtain ⟨p, l, e, xs, n, rfl, hl, hlp, hxl, hn, pen, k⟩ := h
    refine ⟨_, rfl, l, xs, rfl, .inl hl, fun a ha => ⟨by show 0 ≤ sizeLine; decide, fun g hg => ?_⟩⟩
    have hga : g ≠ a := (ne_of_none upd_same hg).symm
    have hg0 : H g = none := by
      rw [upd_ne hga] at hg
      exact hg
    have s1 : Same H (upd H a (.lst xs)) := (Same.refl H).new ha
    have s2 : Same H (upd (upd H a (.lst xs)) g (.lst [])) := s1.new hg
    refine ⟨_, _, rfl, _, rfl, l, xs, rfl, .inl (s2.seq hl), _, rfl, by omega, by omega, ?_⟩
    refine for_range (lo := 0) (n := ((xs.length : Nat) : Int).toNat) (fun i σ H' => ∃ (rest done : List V) (t : Option V), σ = [some (.ref p), some (.ref l), some (.ref a), some (.ref g), t] ∧ But p H H' ∧ H' a = some (.lst rest) ∧ H' g = some (.lst done) ∧
      (done ++ rest).Perm xs ∧ done.length = i ∧ PenAt K H' p e (n + i)) ⟨xs, [], none, rfl, But.of s2, by rw [upd_ne hga.symm, upd_same], upd_same, List.Perm.refl _, rfl, pen.same s2⟩ ?_ ?_
    · rintro i σ H' hi ⟨rest, done, t, rfl, b, h1, h2, pm, dl, pen'⟩
      have hi' : i < xs.length := by omega
      have hlen := pm.length_eq
      rw [List.length_append] at hlen
      have hap : a ≠ p := pen.ne ha
      have hgp : g ≠ p := pen.ne hg0
      have r1 : 1 ≤ rest.length := by omega
      refine ⟨_, rfl, .inl ⟨rfl, _, SqL.of h2⟩, _, rfl, .inl ⟨rfl, _, SqL.of h1⟩, _, rfl, _, rfl, a, rest, rfl, .inl (SqL.of h1), p, e, _, n + i, rfl, by omega, by omega, by omega, pen', fun r H2 r0 rl b2 pen2 => ?_⟩
      have hrl : r.toNat < rest.length := by omega
      have e1 : H2 a = some (.lst rest) := b2 a _ hap h1
      have e2 : H2 g = some (.lst done) := b2 g _ hgp h2
      refine ⟨a, rest, r, r.toNat, rest[r.toNat], rfl, rfl, e1, by omega, by omega, seqIndex_of r0 rl, List.getElem?_eq_getElem hrl, g, done, _, rfl, rfl, by rw [upd_ne hga]; exact e2, szl (by omega), ?_⟩
      have b3 : But p H (upd (upd H2 a (.lst (rest.eraseIdx r.toNat))) g (.lst (done ++ [rest[r.toNat]]))) := ((b.trans b2).mut ha).mut hg0
      refine ⟨rest.eraseIdx r.toNat, done ++ [rest[r.toNat]], _, rfl, b3, by rw [upd_ne hga.symm, upd_same], upd_same, (perm_take (List.getElem?_eq_getElem hrl)).trans pm, by rw [List.length_append, dl]; rfl, ?_⟩
      exact pen.mut (pen.mut pen2 (b.trans b2) ha) ((b.trans b2).mut ha) hg0
    · rintro σ H' ⟨rest, done, t, rfl, b, h1, h2, pm, dl, pen'⟩
      have hlen := pm.length_eq
      rw [List.length_append] at hlen
      have er : rest = [] := List.eq_nil_of_length_eq_zero (by omega)
      subst er
      rw [List.append_nil] at pm
      refine ⟨_, rfl, k g done H' pm hg0 b h2 (by simpa using pen')⟩
end
end K
namespace K
open PySem L2 Rg
open Evl (pss_cut)
/-- each from 1 to m -/
def Bd (m : Int) (ls : List Int) : Prop := ∀ x ∈ ls, 1 ≤ x ∧ x ≤ m
theorem Bd.snoc {m x : Int} {ls : List Int} (h : Bd m ls) (h1 : 1 ≤ x) (h2 : x ≤ m) : Bd m (ls ++ [x]) := fun y hy => by
  rcases List.mem_append.mp hy with z | z
  · exact h y z
  · rw [List.mem_singleton.mp z]
    exact ⟨h1, h2⟩
theorem Bd.le {m k : Int} {ls : List Int} (h : Bd m ls) (hk : m ≤ k) : Bd k ls := fun x hx => ⟨(h x hx).1, by have := (h x hx).2; omega⟩
theorem Bd.set {m x : Int} {ls : List Int} {i : Nat} (h : Bd m ls) (h1 : 1 ≤ x) (h2 : x ≤ m) : Bd m (ls.set i x) := fun y hy => by
  rcases List.mem_or_eq_of_mem_set hy with z | z
  · exact h y z
  · rw [z]; exact ⟨h1, h2⟩
theorem Bd.sum {m : Int} : ∀ {ls : List Int}, Bd m ls → (ls.length : Int) ≤ ls.sum ∧ ls.sum ≤ m * ls.length
  | [], _ => by simp
  | x :: ls, h => by
    have ih := Bd.sum (m := m) (ls := ls) fun y hy => h y (List.mem_cons_of_mem _ hy)
    have hx := h x (List.mem_cons_self ..)
    rw [List.sum_cons, List.length_cons]
    have e : m * ((ls.length + 1 : Nat) : Int) = m * ls.length + m := by push_cast; rw [Int.mul_add, Int.mul_one]
    rw [e]
    push_cast
    omega
theorem ixN_at {n : Nat} {r : Int} (h0 : 0 ≤ r) (h1 : r < n) : ixN n r = some r.toNat := by
  unfold ixN
  rw [if_pos h0, if_pos h1]
theorem int_get {ls : List Int} {i : Nat} (h : i < ls.length) : (ls.map V.int)[i]? = some (V.int ls[i]) := by
  rw [List.getElem?_map, List.getElem?_eq_getElem h]; rfl
theorem set_map (ls : List Int) (i : Nat) (x : Int) : (ls.map V.int).set i (V.int x) = (ls.set i x).map V.int := by
  rw [List.map_set]
theorem erase_sum : ∀ {ls : List Int} {i : Nat} (h : i < ls.length), (ls.eraseIdx i).sum = ls.sum - ls[i]
  | x :: ls, 0, h => by simp [List.sum_cons]; omega
  | x :: ls, i + 1, h => by
    have h' : i < ls.length := by simpa using h
    have ih := erase_sum h'
    rw [List.eraseIdx_cons_succ, List.sum_cons, List.sum_cons, ih, List.getElem_cons_succ]
    omega
theorem abs_sum {m : Int} (hm : 0 ≤ m) : ∀ {ls : List Int}, (∀ x ∈ ls, -m ≤ x ∧ x ≤ m) → -(m * ls.length) ≤ ls.sum ∧ ls.sum ≤ m * ls.length
  | [], _ => by simp
  | x :: ls, h => by
    have ih := abs_sum hm (ls := ls) fun y hy => h y (List.mem_cons_of_mem _ hy)
    have hx := h x (List.mem_cons_self ..)
    have e : m * ((ls.length + 1 : Nat) : Int) = m * ls.length + m := by push_cast; rw [Int.mul_add, Int.mul_one]
    rw [List.sum_cons, List.length_cons, e]
    omega
section
variable {P : Program} {w : World} {K : PySem.W.Frag} {mg : Str → Option Value} {base : Heap}
def spLengths (K : PySem.W.Frag) : Sp := fun vs H Q _ => ∃ (p : Addr) (e : Addr × List Int) (m n : Nat), vs = [.ref p, .int (m : Nat)] ∧ 3 ≤ m ∧ m ≤ 8 ∧ n < 800000 ∧ PenAt K H p e n ∧
  ∀ (l : Addr) (ls : List Int) (H' : Hp), ls.length = m → Bd 1000000 ls → H l = none → But p H H' → H' l = some (.lst (ls.map V.int)) → PenAt K H' p e (n + 12) → Q (.ref l) H'
abbrev nLengths : List Str := ["_law_bench_here", "_law_many", "_law_way", "_law_most", "_law_found", "_law_at", "_law_bar"]
theorem scLengths : FnScope nLengths ["_law_bench_here", "_law_many"] (defScope sLwLengths) := ⟨rfl, rfl, rfl, by decide +kernel, rfl, by decide +kernel, by decide +kernel⟩
theorem put_bd {ls : List Int} {m i : Nat} {most r : Int} (h : ls.length = m) (h3 : 3 ≤ m) (h8 : m ≤ 8) (bd : Bd most ls) (mm : most * m ≤ 1000000) (hi : i < ls.length) (r0 : 0 ≤ r) (r3 : r < 3) : ls.sum - ls[i] + r - 1 ≤ 1000000 := by
  have e := Bd.sum (m := most) (ls := ls.eraseIdx i) fun y hy => bd y (List.mem_of_mem_eraseIdx hy)
  rw [erase_sum hi, List.length_eraseIdx_of_lt hi, h] at e
  have b := bd _ (List.getElem_mem hi)
  have c : most * ((m - 1 : Nat) : Int) = most * m - most := by
    rw [show ((m - 1 : Nat) : Int) = (m : Int) - 1 by omega, Int.mul_sub, Int.mul_one]
  omega
theorem ok_lengths {f fD : Addr} {fd fdD : FuncData} (F : Fun K "_law_lengths" "_law_lengths" sLwLengths f fd) (T : Bi mg) (D : DrawAt P w K mg base fD fdD) : FnOk P w K mg base CX0 3 f fd ["_law_bench_here", "_law_many"] (spLengths K) := by
  refine F.ok scLengths (fun vs H Q E h => ?_) (fun cdv A outer s H vs Q E hr h => ?_)
  · obtain ⟨p, e, m, n, rfl, _⟩ := h
    rfl
  · have nd := scLengths.nd
    refine ⟨_, pss_cons (ps_set (i := 2) nd rfl (Or.inl rfl) (pe_call D.ok hr rfl D.g D.kp D.b .nil pass0 (pa_cons (pv 0) (pa_cons pe_int pa_nil))))
      (pss_cut (ps_set (i := 3) nd rfl (Or.inr rfl) (pe_ifExp (pt_cmpR op_lt (pv 2) pe_int (nomark _)) pe_int (pe_ifExp (pt_cmpR op_lt (pv 2) pe_int (nomark _)) pe_int (pe_op op_fdiv (pe_op op_pow pe_int pe_int) (pv 1)))))
      (pss_cons (ps_setLc (i := 4) (own := [("_law_bar", 6)]) (g := gName 6) rfl nd rfl rfl (sw_true rfl rfl rfl (by decide +kernel)) (pi_range1 (by rfl) T.range (pa_cons (pv 1) pa_nil)) (blkOk_by (N := nLengths) (sc := defScope sLwLengths) (by decide +kernel))
        (fun _ _ _ _ _ => pg_name (i := 6) nd rfl (Or.inl rfl)) (fun _ _ _ _ _ => pts_nil) (fun _ _ _ _ _ => pe_op op_add pe_int (pe_call D.ok hr rfl D.g D.kp D.b .nil pass0 (pa_cons (pv 0) (pa_cons (pv 3) pa_nil)))))
      (pss_cut (ps_if (pt_cmpR op_eq (pe_call D.ok hr rfl D.g D.kp D.b .nil pass0 (pa_cons (pv 0) (pa_cons pe_int pa_nil))) pe_int (nomark _))
        (pss_cons (ps_set (i := 5) nd rfl (Or.inl rfl) (pe_call D.ok hr rfl D.g D.kp D.b .nil pass0 (pa_cons (pv 0) (pa_cons (pv 1) pa_nil))))
        (pss_cons (ps_asg (pe_op op_sub (pe_op op_add (pe_op op_sub (pe_callB (cr_sum rfl) (by rfl) T.sum (by decide +kernel) (pa_cons (pv 4) pa_nil)) (pe_ix ix_list (pv 4) (pv 5) (fun _ _ => rfl))) (pe_call D.ok hr rfl D.g D.kp D.b .nil pass0 (pa_cons (pv 0) (pa_cons pe_int pa_nil)))) pe_int) (pg_sub (pv 4) (pv 5) set_list))
        (pss_one (ps_asg (pe_callB (call_max2 rfl) (by rfl) T.max (by decide +kernel) (pa_cons pe_int (pa_cons (pe_ix ix_list (pv 4) (pv 5) (fun _ _ => rfl)) pa_nil))) (pg_sub (pv 4) (pv 5) set_list))))) pss_nil)
      (pss_one (ps_ret (pv 4)))))), ?_⟩
    obtain ⟨p, e, m, n, rfl, m3, m8, hn, pen, k⟩ := h
    refine ⟨_, rfl, p, e, 8, n, rfl, by decide, by decide, by omega, pen, fun r1 H1 r1a r1b b1 pen1 => ?_⟩
    refine ⟨fun σ' H' => ∃ most : Int, 1 ≤ most ∧ most * m ≤ 1000000 ∧ σ' = [some (.ref p), some (.int (m : Nat)), some (.int r1), some (.int most), none, none, none] ∧ H' = H1, ?_, ?_⟩
    · refine ⟨_, rfl, _, _, rfl, rfl, _, rfl, ?_⟩
      refine ite2 (fun c => ⟨9, by decide, by omega, rfl, rfl⟩) (fun c => ?_)
      refine ⟨_, rfl, _, _, rfl, rfl, _, rfl, ?_⟩
      refine ite2 (fun c => ⟨3, by decide, by omega, rfl, rfl⟩) (fun c => ?_)
      have pw : CPow 10 6 := ⟨by decide, by decide, by decide⟩
      refine ⟨_, _, rfl, rfl, pw, _, rfl, _, _, rfl, rfl, ⟨by omega, by omega⟩, ?_⟩
      refine ⟨_, ?_, ?_, rfl, rfl⟩
      · show 1 ≤ (10 : Int) ^ (6 : Int).toNat / (m : Int)
        exact Int.le_ediv_of_mul_le (by omega) (by show 1 * (m : Int) ≤ 1000000; omega)
      · exact Int.ediv_mul_le _ (by omega)
    rintro σ' H' ⟨most, mo1, mom, rfl, rfl⟩
    have mo6 : most ≤ 1000000 := by
      have := Int.mul_le_mul_of_nonneg_left (show (1 : Int) ≤ m by omega) (show 0 ≤ most by omega)
      omega
    refine ⟨_, rfl, _, rfl, by omega, by omega, fun D0 hD => ?_⟩
    have hDp : D0 ≠ p := pen1.ne hD
    have hD0 : H D0 = none := b1.free hDp hD
    refine lc_range (lo := 0) (n := ((m : Nat) : Int).toNat) (fun i H' => ∃ ls : List Int, ls.length = i ∧ Bd most ls ∧ H' D0 = some (.lst (ls.map V.int)) ∧ But p H H' ∧ PenAt K H' p e (n + 1 + i)) ⟨[], rfl, fun x hx => (by cases hx), upd_same, b1.mut hD0, pen.mut pen1 b1 hD0⟩ ?_ ?_
    · rintro i H' hi ⟨ls, ll, bd, hd, b, pen'⟩
      rw [Int.toNat_natCast] at hi
      refine ⟨rfl, _, rfl, _, rfl, p, e, most, n + 1 + i, rfl, mo1, mo6, by omega, pen', fun r H4 q0 q1 b4 pen4 => ⟨_, _, rfl, rfl, _, b4 D0 _ hDp hd, szl (by rw [List.length_map]; omega), ls ++ [1 + r], by rw [List.length_append, ll]; rfl, bd.snoc (by omega) (by omega), ?_, (b.trans b4).mut hD0, pen.mut pen4 (b.trans b4) hD0⟩⟩
      rw [List.map_append]
      exact upd_same
    rintro H2 ⟨ls, ll, bd, hd, b2, pen2⟩
    rw [Int.toNat_natCast] at ll pen2
    refine ⟨fun σ' H' => ∃ (z : Option V) (ms : List Int), ms.length = m ∧ Bd 1000000 ms ∧ σ' = [some (.ref p), some (.int (m : Nat)), some (.int r1), some (.int most), some (.ref D0), z, none] ∧ But p H H' ∧ H' D0 = some (.lst (ms.map V.int)) ∧ PenAt K H' p e (n + 12), ?_, ?_⟩
    · refine ⟨_, rfl, p, e, 7, _, rfl, by decide, by decide, by omega, pen2, fun r2 H3 r2a r2b b3 pen3 => ⟨rfl, _, rfl, ?_⟩⟩
      have hd3 := b3 _ _ hDp hd
      have b23 := b2.trans b3
      rw [dec_int]
      refine ite2 (fun c => ?_) (fun c => ?_)
      · refine ⟨_, rfl, _, rfl, p, e, (m : Nat), _, rfl, by omega, by omega, by omega, pen3, fun r3 H4 r3a r3b b4 pen4 => ?_⟩
        have hd4 := b4 _ _ hDp hd3
        have il : r3.toNat < ls.length := by omega
        have gx : atI (ls.map V.int) r3 = some (.int ls[r3.toNat]) := at_of (j := r3.toNat) (by omega) (int_get il)
        refine ⟨_, rfl, D0, ls, rfl, SqL.of hd4, _, rfl, _, rfl, D0, _, _, _, rfl, rfl, SqL.of hd4, gx, _, _, rfl, rfl, _, rfl, p, e, 3, _, rfl, by decide, by decide, by omega, pen4, fun r4 H5 r4a r4b b5 pen5 => ⟨_, _, rfl, rfl, _, _, rfl, rfl, ?_⟩⟩
        have hd5 := b5 _ _ hDp hd4
        have up := put_bd ll m3 m8 bd mom il r4a r4b
        have pen5b := pen5
        obtain ⟨y, hy⟩ : ∃ y : Int, y = ls.sum - ls[r3.toNat] + r4 - 1 := ⟨_, rfl⟩
        refine ⟨_, rfl, _, rfl, D0, _, _, r3.toNat, rfl, rfl, hd5, ixN_at r3a (by rw [List.length_map]; omega), ?_⟩
        have b25 := (b23.trans b4).trans b5
        have h6 : upd H5 D0 (.lst ((ls.map V.int).set r3.toNat (.int (ls.sum - ls[r3.toNat] + r4 - 1)))) D0 = some (.lst ((ls.set r3.toNat y).map V.int)) := by
          rw [upd_same, set_map, hy]
        have b6 : But p H (upd H5 D0 (.lst ((ls.map V.int).set r3.toNat (.int (ls.sum - ls[r3.toNat] + r4 - 1))))) := b25.mut hD0
        have pen6 := pen.mut pen5 b25 hD0 (o := .lst ((ls.map V.int).set r3.toNat (.int (ls.sum - ls[r3.toNat] + r4 - 1))))
        generalize upd H5 D0 (.lst ((ls.map V.int).set r3.toNat (.int (ls.sum - ls[r3.toNat] + r4 - 1)))) = H6 at h6 b6 pen6 ⊢
        have il6 : r3.toNat < (ls.set r3.toNat y).length := by rw [List.length_set]; exact il
        have gx6 : atI ((ls.set r3.toNat y).map V.int) r3 = some (.int y) := at_of (j := r3.toNat) (by omega) (by rw [int_get il6, List.getElem_set_self])
        refine ⟨_, rfl, _, rfl, D0, _, _, _, rfl, rfl, SqL.of h6, gx6, _, _, rfl, _, rfl, _, rfl, D0, _, _, r3.toNat, rfl, rfl, h6, ixN_at r3a (by rw [List.length_map, List.length_set]; omega), ?_⟩
        have mx1 : (1 : Int) ≤ (if y > 1 then y else 1) := by split <;> omega
        have mx2 : (if y > 1 then y else 1) ≤ 1000000 := by split <;> omega
        refine ⟨some (.int r3), (ls.set r3.toNat y).set r3.toNat (if y > 1 then y else 1), by rw [List.length_set, List.length_set]; exact ll, ?_, rfl, b6.mut hD0, by rw [upd_same, set_map], (pen.mut pen6 b6 hD0).mono (by omega)⟩
        rw [List.set_set]
        exact (bd.le mo6).set mx1 mx2
      · exact ⟨none, ls, ll, bd.le mo6, rfl, b23, hd3, pen3.mono (by omega)⟩
    rintro σ' H3 ⟨z, ms, ml, bdm, rfl, b3, h3, pen3⟩
    exact ⟨_, rfl, k D0 ms H3 ml bdm hD0 b3 h3 pen3⟩
end
end K
namespace K
open PySem L2 Rg
open Evl (pss_cut)
/-- the kinds that are asked for -/
def kinds : List String := ["NoneType", "bool", "int", "str", "list", "tuple", "dict"]
theorem kit_int : ∀ k ∈ kinds, kitB k "int" = some (decide (k = "int" ∨ k = "bool")) := by decide +kernel
theorem kit_bool : ∀ k ∈ kinds, kitB k "bool" = some (decide (k = "bool")) := by decide +kernel
theorem kit_list : ∀ k ∈ kinds, kitB k "list" = some (decide (k = "list")) := by decide +kernel
theorem kit_tuple : ∀ k ∈ kinds, kitB k "tuple" = some (decide (k = "tuple")) := by decide +kernel
/-- v is of the kind k -/
def Knd (K : PySem.W.Frag) (H : Hp) (v : V) (k : String) : Prop := TyX K H v (.type k) ∧ k ∈ kinds
section
variable {P : Program} {w : World} {K : PySem.W.Frag} {mg : Str → Option Value} {base : Heap}
theorem Knd.int {H : Hp} {i : Int} : Knd K H (.int i) "int" := ⟨.base (.int i), by decide⟩
theorem tyx_same {H H' : Hp} {v : V} {t : Value} (h : TyX K H v t) (s : Same H H') : TyX K H' v t := by
  cases h with
  | base h =>
    refine .base ?_
    cases h with
    | non => exact .non
    | bl x => exact .bl x
    | int x => exact .int x
    | str x => exact .str x
    | flt x => exact .flt x
    | lst e => exact .lst (s _ _ e)
    | frz e => exact .frz (s _ _ e)
    | tup e => exact .tup (s _ _ e)
    | dK e => exact .dK (s _ _ e)
    | dT e => exact .dT (s _ _ e)
    | ins e cl ha hn htk hm => exact .ins (s _ _ e) cl ha hn htk hm
  | byt b => exact .byt b
  | set e => exact .set (s _ _ e)
  | kList e c => exact .kList e c
  | kTuple e c => exact .kTuple e c
  | kDict e c => exact .kDict e c
  | fTuple e => exact .fTuple (s _ _ e)
  | fDict e => exact .fDict (s _ _ e)
theorem Knd.same {H H' : Hp} {v : V} {k : String} (h : Knd K H v k) (s : Same H H') : Knd K H' v k := ⟨tyx_same h.1 s, h.2⟩
/-! ### is_integer -/
def spIsInt (K : PySem.W.Frag) : Sp := fun vs H Q _ => ∃ (v : V) (k : String), vs = [v] ∧ Knd K H v k ∧ Q (.bl (decide (k = "int"))) H
theorem scIsInt : FnScope ["value"] ["value"] (defScope sIsInteger) := ⟨rfl, rfl, rfl, by decide +kernel, rfl, by decide +kernel, by decide +kernel⟩
theorem ok_isInt {f : Addr} {fd : FuncData} (F : Fun K "is_integer" "is_integer" sIsInteger f fd) (T : Bi mg) : FnOk P w K mg base CX0 1 f fd ["value"] (spIsInt K) := by
  refine F.ok scIsInt (fun vs H Q E h => ?_) (fun cdv A outer s H vs Q E hr h => ?_)
  · obtain ⟨v, k, rfl, _⟩ := h
    rfl
  · refine ⟨_, pss_one (ps_ret (pe_and (pe_callB call_isi (by rfl) T.isinstance (by decide +kernel) (pa_cons (pv 0) (pa_cons (pe_bltn (v := .ty "int") (u := .type "int") (by rfl) T.int (by decide +kernel) rfl) pa_nil)))
      (pe_one (pe_not (pe_callB call_isi (by rfl) T.isinstance (by decide +kernel) (pa_cons (pv 0) (pa_cons (pe_bltn (v := .ty "bool") (u := .type "bool") (by rfl) T.bool (by decide +kernel) rfl) pa_nil))))))), ?_⟩
    obtain ⟨v, k, rfl, ⟨ty, hk⟩, q⟩ := h
    refine ⟨_, rfl, v, .ty "int", _, _, _, rfl, .ty _, ty, kit_ty (kit_int k hk), _, rfl, ?_⟩
    refine ite2 (fun c => ?_) (fun c => ?_)
    · refine ⟨_, rfl, v, .ty "bool", _, _, _, rfl, .ty _, ty, kit_ty (kit_bool k hk), _, rfl, ?_⟩
      have c' : k = "int" ∨ k = "bool" := of_decide_eq_true c
      have e : (!decide (k = "bool")) = decide (k = "int") := by
        rcases c' with rfl | rfl <;> decide
      rw [e]
      exact q
    · have c' : ¬ (k = "int" ∨ k = "bool") := fun z => c (decide_eq_true z)
      have e : decide (k = "int") = false := decide_eq_false fun z => c' (.inl z)
      rw [e] at q
      exact q
/-! ### is_list -/
def spIsList (K : PySem.W.Frag) : Sp := fun vs H Q _ => ∃ (v : V) (k : String), vs = [v] ∧ Knd K H v k ∧ ∀ H', Same H H' → Q (.bl (decide (k = "list" ∨ k = "tuple"))) H'
theorem scIsList : FnScope ["value"] ["value"] (defScope sIsList) := ⟨rfl, rfl, rfl, by decide +kernel, rfl, by decide +kernel, by decide +kernel⟩
theorem ok_isList {f : Addr} {fd : FuncData} (F : Fun K "is_list" "is_list" sIsList f fd) (T : Bi mg) : FnOk P w K mg base CX0 1 f fd ["value"] (spIsList K) := by
  refine F.ok scIsList (fun vs H Q E h => ?_) (fun cdv A outer s H vs Q E hr h => ?_)
  · obtain ⟨v, k, rfl, _⟩ := h
    rfl
  · refine ⟨_, pss_one (ps_ret (pe_callB call_isiT (by rfl) T.isinstance (by decide +kernel) (pa_cons (pv 0) (pa_cons (pe_tup (pa_cons (pe_bltn (v := .ty "list") (u := .type "list") (by rfl) T.list (by decide +kernel) rfl) (pa_cons (pe_bltn (v := .ty "tuple") (u := .type "tuple") (by rfl) T.tuple (by decide +kernel) rfl) pa_nil))) pa_nil)))), ?_⟩
    obtain ⟨v, k, rfl, ⟨ty, hk⟩, q⟩ := h
    refine ⟨_, rfl, (by show 2 ≤ sizeLine; decide), fun p hp => ?_⟩
    have s1 : Same H (upd H p (.tup [.ty "list", .ty "tuple"])) := (Same.refl H).new hp
    refine ⟨v, p, [.ty "list", .ty "tuple"], _, _, decide (k = "list" ∨ k = "tuple"), rfl, upd_same, .cons (.ty _) (.cons (.ty _) .nil), tyx_same ty s1, kitAny_cons (kit_ty (kit_list k hk)) (fun e => kitAny_cons (b := decide (k = "tuple")) (r := decide (k = "list" ∨ k = "tuple")) (kit_ty (kit_tuple k hk)) (fun e' => ?_) fun e' => ?_) fun e => ?_, q _ s1⟩
    · have h1 : ¬ k = "list" := of_decide_eq_false e
      have h2 : ¬ k = "tuple" := of_decide_eq_false e'
      rw [kitAny_nil, decide_eq_false (fun z => z.elim h1 h2)]
    · exact decide_eq_true (.inr (of_decide_eq_true e'))
    · exact decide_eq_true (.inl (of_decide_eq_true e))
end
end K
namespace K
open PySem L2 Rg
open Evl (pss_cut)
theorem iteDT {c A B : Prop} [Decidable c] (hc : c) (h : A) : if decide c = true then A else B := by
  rw [if_pos (decide_eq_true hc)]; exact h
theorem iteDF {c A B : Prop} [Decidable c] (hc : ¬ c) (h : B) : if decide c = true then A else B := by
  rw [if_neg (by rw [decide_eq_false hc]; exact Bool.false_ne_true)]; exact h
theorem iteBT {c : Bool} {A B : Prop} (hc : c = true) (h : A) : if c = true then A else B := by
  rw [if_pos hc]; exact h
theorem iteBF {c : Bool} {A B : Prop} (hc : c = false) (h : B) : if c = true then A else B := by
  rw [if_neg (by rw [hc]; exact Bool.false_ne_true)]; exact h
theorem sm {n : Nat} (h : n ≤ 10000) : n < sizeLine := Nat.lt_of_le_of_lt h (by decide)
/-- a def of the text, by its name -/
structure DefAt (P : Program) (w : World) (K : PySem.W.Frag) (mg : Str → Option Value) (base : Heap) (CX : CXT) (k : Nat) (x : Str) (ps : List Str) (sp : Sp) (f : Addr) (fd : FuncData) : Prop where
  ok : FnOk P w K mg base CX k f fd ps sp
  g : mg x = some (.ref f)
  kp : PySem.W.keepIn K (.ref f) = true
  b : Binds K fd ps []
section
variable {P : Program} {w : World} {K : PySem.W.Frag} {mg : Str → Option Value} {base : Heap}
/-- two promises of one def -/
theorem fn_or {CX : CXT} {k : Nat} {f : Addr} {fd : FuncData} {ps : List Str} {sp sp' : Sp} (F : FnOk P w K mg base CX k f fd ps sp) (G : FnOk P w K mg base CX k f fd ps sp') : FnOk P w K mg base CX k f fd ps (fun vs H Q E => sp vs H Q E ∨ sp' vs H Q E) :=
  ⟨fun vs H Q E h => h.elim (F.len vs H Q E) (G.len vs H Q E), fun A outer s H args us vs Q E hr e0 hb hv h => h.elim (F.run A outer s H args us vs Q E hr e0 hb hv) (G.run A outer s H args us vs Q E hr e0 hb hv)⟩
/-! ### is_within, of ints -/
def spWithin : Sp := fun vs H Q _ => ∃ (v lo hi : Int), vs = [.int v, .int lo, .int hi] ∧ Q (.bl (decide (lo ≤ v) && decide (v ≤ hi))) H
theorem scWithin : FnScope ["value", "least", "most"] ["value", "least", "most"] (defScope sIsWithin) := ⟨rfl, rfl, rfl, by decide +kernel, rfl, by decide +kernel, by decide +kernel⟩
theorem ok_within {f fI : Addr} {fd fdI : FuncData} (F : Fun K "is_within" "is_within" sIsWithin f fd) (G : DefAt P w K mg base CX0 1 "is_integer" ["value"] (spIsInt K) fI fdI) : FnOk P w K mg base CX0 2 f fd ["value", "least", "most"] spWithin := by
  refine F.ok scWithin (fun vs H Q E h => ?_) (fun cdv A outer s H vs Q E hr h => ?_)
  · obtain ⟨v, lo, hi, rfl, _⟩ := h
    rfl
  · refine ⟨_, pss_cons (ps_if (pt_not (pt_val (pe_call G.ok hr rfl G.g G.kp G.b .nil pass0 (pa_cons (pv 0) pa_nil)))) (pss_one (ps_ret pe_bl)) pss_nil)
      (pss_one (ps_ret (pe_and (pe_or (pe_cmpR op_isN (pv 1) pe_non (nomark _)) (pe_one (pe_cmpR op_ge (pv 0) (pv 1) (nomark _)))) (pe_one (pe_or (pe_cmpR op_isN (pv 2) pe_non (nomark _)) (pe_one (pe_cmpR op_le (pv 0) (pv 2) (nomark _)))))))), ?_⟩
    obtain ⟨v, lo, hi, rfl, q⟩ := h
    refine ⟨_, rfl, V.int v, "int", rfl, Knd.int, _, rfl, iteNS rfl ?_⟩
    refine ⟨_, rfl, rfl, _, rfl, iteDF (fun z => nomatch z) ⟨_, rfl, _, rfl, _, _, rfl, rfl, _, rfl, ?_⟩⟩
    refine ite2 (fun c => ?_) (fun c => ?_)
    · have c' : lo ≤ v := of_decide_eq_true c
      refine ⟨_, rfl, rfl, _, rfl, iteDF (fun z => nomatch z) ⟨_, rfl, _, rfl, _, _, rfl, rfl, ?_⟩⟩
      rw [decide_eq_true c', Bool.true_and] at q
      exact q
    · have c' : ¬ lo ≤ v := fun z => c (decide_eq_true z)
      rw [decide_eq_false c', Bool.false_and] at q
      exact q
/-! ### is_numbers -/
abbrev nNums : List Str := ["value", "one"]
theorem scNums : FnScope nNums ["value"] (defScope sIsNumbers) := ⟨rfl, rfl, rfl, by decide +kernel, rfl, by decide +kernel, by decide +kernel⟩
/-- of what is no list or tuple | of a list | of a tuple -/
def spNumsO (K : PySem.W.Frag) : Sp := fun vs H Q _ => ∃ (v : V) (k : String), vs = [v] ∧ Knd K H v k ∧ k ≠ "list" ∧ k ≠ "tuple" ∧ ∀ H', Same H H' → Q (.bl false) H'
def spNumsL (K : PySem.W.Frag) : Sp := fun vs H Q _ => ∃ (a : Addr) (xs : List V) (kf : V → String), vs = [.ref a] ∧ Knd K H (.ref a) "list" ∧ SqL K H a xs ∧ xs.length ≤ 1000 ∧ (∀ x ∈ xs, Knd K H x (kf x)) ∧ ∀ H', Same H H' → Q (.bl (xs.all fun x => decide (kf x = "int"))) H'
def spNumsT (K : PySem.W.Frag) : Sp := fun vs H Q _ => ∃ (a : Addr) (xs : List V) (kf : V → String), vs = [.ref a] ∧ Knd K H (.ref a) "tuple" ∧ SqT K H a xs ∧ xs.length ≤ 1000 ∧ (∀ x ∈ xs, Knd K H x (kf x)) ∧ ∀ H', Same H H' → Q (.bl (xs.all fun x => decide (kf x = "int"))) H'
theorem all_map_bl (xs : List V) (g : V → Bool) : ((xs.map g).all id) = xs.all g := by
  rw [List.all_map]; rfl
theorem ok_numsO {f fI fL : Addr} {fd fdI fdL : FuncData} (F : Fun K "is_numbers" "is_numbers" sIsNumbers f fd) (T : Bi mg) (G : DefAt P w K mg base CX0 1 "is_integer" ["value"] (spIsInt K) fI fdI) (L : DefAt P w K mg base CX0 1 "is_list" ["value"] (spIsList K) fL fdL) : FnOk P w K mg base CX0 2 f fd ["value"] (spNumsO K) := by
  refine F.ok scNums (fun vs H Q E h => ?_) (fun cdv A outer s H vs Q E hr h => ?_)
  · obtain ⟨v, k, rfl, _⟩ := h
    rfl
  · refine ⟨_, pss_one (ps_ret (pe_and (pe_call L.ok hr rfl L.g L.kp L.b .nil pass0 (pa_cons (pv 0) pa_nil)) (pe_one (pe_callB (cr_all rfl) (by rfl) T.all (by decide +kernel) (pa_cons (pe_lc (own := [("one", 1)]) (g := gName 1) (tt := tYes) rfl scNums.nd (pi_list (pv 0))
      (blkOk_by (N := nNums) (sc := defScope sIsNumbers) (by decide +kernel)) (fun _ _ _ _ _ => pg_name (i := 1) scNums.nd rfl (Or.inl rfl)) (fun _ _ _ _ _ => pts_nil) (fun _ _ _ _ _ => pe_call G.ok hr rfl G.g G.kp G.b .nil pass0 (pa_cons (pv 1) pa_nil))) pa_nil))))), ?_⟩
    obtain ⟨v, k, rfl, hk, k1, k2, q⟩ := h
    exact ⟨_, rfl, v, k, rfl, hk, fun H' s1 => ⟨_, rfl, iteDF (fun z => z.elim k1 k2) (q H' s1)⟩⟩
theorem ok_numsL {f fI fL : Addr} {fd fdI fdL : FuncData} (F : Fun K "is_numbers" "is_numbers" sIsNumbers f fd) (T : Bi mg) (G : DefAt P w K mg base CX0 1 "is_integer" ["value"] (spIsInt K) fI fdI) (L : DefAt P w K mg base CX0 1 "is_list" ["value"] (spIsList K) fL fdL) : FnOk P w K mg base CX0 2 f fd ["value"] (spNumsL K) := by
  refine F.ok scNums (fun vs H Q E h => ?_) (fun cdv A outer s H vs Q E hr h => ?_)
  · obtain ⟨v, k, kf, rfl, _⟩ := h
    rfl
  · refine ⟨_, pss_one (ps_ret (pe_and (pe_call L.ok hr rfl L.g L.kp L.b .nil pass0 (pa_cons (pv 0) pa_nil)) (pe_one (pe_callB (cr_all rfl) (by rfl) T.all (by decide +kernel) (pa_cons (pe_lc (own := [("one", 1)]) (g := gName 1) (tt := tYes) rfl scNums.nd (pi_list (pv 0))
      (blkOk_by (N := nNums) (sc := defScope sIsNumbers) (by decide +kernel)) (fun _ _ _ _ _ => pg_name (i := 1) scNums.nd rfl (Or.inl rfl)) (fun _ _ _ _ _ => pts_nil) (fun _ _ _ _ _ => pe_call G.ok hr rfl G.g G.kp G.b .nil pass0 (pa_cons (pv 1) pa_nil))) pa_nil))))), ?_⟩
    obtain ⟨a, xs, kf, rfl, hk, hs, hl, hx, q⟩ := h
    refine ⟨_, rfl, _, "list", rfl, hk, fun H1 s1 => ⟨_, rfl, iteDT (.inl rfl) ?_⟩⟩
    refine ⟨_, rfl, a, rfl, ⟨_, s1.seq hs⟩, fun D hD => ?_⟩
    have hD0 := s1.free hD
    refine lc_list (K := K) (a := a) (xs := xs) (fun i H' => Same H H' ∧ H' D = some (.lst ((xs.take i).map fun x => V.bl (decide (kf x = "int"))))) ⟨s1.new hD, upd_same⟩ (fun i H' _ p => p.1.seq hs) ?_ ?_
    · rintro i x H' hi ⟨s2, h2⟩
      refine ⟨rfl, _, rfl, x, kf x, rfl, (hx x (List.mem_of_getElem? hi)).same s2, _, h2, (by rw [List.length_map, List.length_take]; exact sm (by omega)), s2.mut hD0, ?_⟩
      rw [upd_same, List.take_succ, hi, List.map_append]
      rfl
    · rintro H' ⟨s2, h2⟩
      rw [List.take_length] at h2
      refine ⟨D, xs.map fun x => decide (kf x = "int"), rfl, SqL.of (by rw [List.map_map]; exact h2), ?_⟩
      rw [all_map_bl]
      exact q H' s2
theorem ok_numsT {f fI fL : Addr} {fd fdI fdL : FuncData} (F : Fun K "is_numbers" "is_numbers" sIsNumbers f fd) (T : Bi mg) (G : DefAt P w K mg base CX0 1 "is_integer" ["value"] (spIsInt K) fI fdI) (L : DefAt P w K mg base CX0 1 "is_list" ["value"] (spIsList K) fL fdL) : FnOk P w K mg base CX0 2 f fd ["value"] (spNumsT K) := by
  refine F.ok scNums (fun vs H Q E h => ?_) (fun cdv A outer s H vs Q E hr h => ?_)
  · obtain ⟨v, k, kf, rfl, _⟩ := h
    rfl
  · refine ⟨_, pss_one (ps_ret (pe_and (pe_call L.ok hr rfl L.g L.kp L.b .nil pass0 (pa_cons (pv 0) pa_nil)) (pe_one (pe_callB (cr_all rfl) (by rfl) T.all (by decide +kernel) (pa_cons (pe_lc (own := [("one", 1)]) (g := gName 1) (tt := tYes) rfl scNums.nd (pi_tup (pv 0))
      (blkOk_by (N := nNums) (sc := defScope sIsNumbers) (by decide +kernel)) (fun _ _ _ _ _ => pg_name (i := 1) scNums.nd rfl (Or.inl rfl)) (fun _ _ _ _ _ => pts_nil) (fun _ _ _ _ _ => pe_call G.ok hr rfl G.g G.kp G.b .nil pass0 (pa_cons (pv 1) pa_nil))) pa_nil))))), ?_⟩
    obtain ⟨a, xs, kf, rfl, hk, hs, hl, hx, q⟩ := h
    refine ⟨_, rfl, _, "tuple", rfl, hk, fun H1 s1 => ⟨_, rfl, iteDT (.inr rfl) ?_⟩⟩
    refine ⟨_, rfl, a, rfl, ⟨_, s1.tup hs⟩, fun D hD => ?_⟩
    have hD0 := s1.free hD
    refine lc_tup (K := K) (a := a) (xs := xs) (fun i H' => Same H H' ∧ H' D = some (.lst ((xs.take i).map fun x => V.bl (decide (kf x = "int"))))) ⟨s1.new hD, upd_same⟩ (fun i H' _ p => p.1.tup hs) ?_ ?_
    · rintro i x H' hi ⟨s2, h2⟩
      refine ⟨rfl, _, rfl, x, kf x, rfl, (hx x (List.mem_of_getElem? hi)).same s2, _, h2, (by rw [List.length_map, List.length_take]; exact sm (by omega)), s2.mut hD0, ?_⟩
      rw [upd_same, List.take_succ, hi, List.map_append]
      rfl
    · rintro H' ⟨s2, h2⟩
      rw [List.take_length] at h2
      refine ⟨D, xs.map fun x => decide (kf x = "int"), rfl, SqL.of (by rw [List.map_map]; exact h2), ?_⟩
      rw [all_map_bl]
      exact q H' s2
end
end K
namespace K
open PySem L2 Rg
open Evl (pss_cut)
/-- the first that stands twice, behind those seen -/
def ft : List Int → List Int → Option Int
  | _, [] => none
  | seen, x :: xs => if x ∈ seen then some x else ft (seen ++ [x]) xs
def oV : Option Int → V
  | none => .non
  | some x => .int x
def seenK (l : List Int) : List (Key × V) := l.map fun k => (Sum.inl k, V.bl true)
theorem seen_val (l : List Int) (n : Int) : valV (seenK l) (Sum.inl n : Key) = if n ∈ l then some (.bl true) else none := by
  induction l with
  | nil => rfl
  | cons x l ih =>
    by_cases e : x = n
    · rw [if_pos (by rw [e]; exact List.mem_cons_self ..)]
      exact valV_pos (p := ((Sum.inl x : Key), V.bl true)) (by rw [e])
    · have h1 : valV (seenK (x :: l)) (Sum.inl n : Key) = valV (seenK l) (Sum.inl n) := valV_neg (p := ((Sum.inl x : Key), V.bl true)) (fun z => e (Sum.inl.inj z))
      rw [h1, ih]
      by_cases f : n ∈ l
      · rw [if_pos f, if_pos (List.mem_cons_of_mem _ f)]
      · rw [if_neg f, if_neg fun z => (List.mem_cons.mp z).elim (fun q => e q.symm) f]
theorem seen_len (l : List Int) : (seenK l).length = l.length := List.length_map ..
theorem seen_put {l : List Int} {n : Int} (h : n ∉ l) : putK (seenK l) (Sum.inl n : Key) (.bl true) = seenK (l ++ [n]) := by
  rw [putK_new _ (by rw [seen_val, if_neg h])]
  simp [seenK]
theorem ft_step {ns : List Int} {i : Nat} {z : Int} (h : ns[i]? = some z) : ft (ns.take i) (ns.drop i) = if z ∈ ns.take i then some z else ft (ns.take (i + 1)) (ns.drop (i + 1)) := by
  obtain ⟨hi, rfl⟩ := List.getElem?_eq_some_iff.mp h
  rw [List.drop_eq_getElem_cons hi, ← take_snoc h]
  rfl
section
variable {P : Program} {w : World} {K : PySem.W.Frag} {mg : Str → Option Value} {base : Heap}
/-! ### fixed, of an int -/
def spFixed : Sp := fun vs H Q _ => ∃ i : Int, vs = [.int i] ∧ ∀ H', Same H H' → Q (.int i) H'
theorem scFixed : FnScope ["value"] ["value"] (defScope sFixed) := ⟨rfl, rfl, rfl, by decide +kernel, rfl, by decide +kernel, by decide +kernel⟩
theorem ok_fixed {f : Addr} {fd : FuncData} (F : Fun K "fixed" "fixed" sFixed f fd) (T : Bi mg) : FnOk P w K mg base CX0 1 f fd ["value"] spFixed := by
  refine F.ok scFixed (fun vs H Q E h => ?_) (fun cdv A outer s H vs Q E hr h => ?_)
  · obtain ⟨v, rfl, _⟩ := h
    rfl
  · refine ⟨_, pss_cons (ps_if (pt_val (pe_callB call_isiT (by rfl) T.isinstance (by decide +kernel) (pa_cons (pv 0) (pa_cons (pe_tup (pa_cons (pe_bltn (v := .ty "list") (u := .type "list") (by rfl) T.list (by decide +kernel) rfl) (pa_cons (pe_bltn (v := .ty "tuple") (u := .type "tuple") (by rfl) T.tuple (by decide +kernel) rfl) pa_nil))) pa_nil)))) (pss_one ps_never) pss_nil)
      (pss_one (ps_ret (pv 0))), ?_⟩
    obtain ⟨i, rfl, q⟩ := h
    refine ⟨_, rfl, (by show 2 ≤ sizeLine; decide), fun p hp => ?_⟩
    have s1 : Same H (upd H p (.tup [.ty "list", .ty "tuple"])) := (Same.refl H).new hp
    refine ⟨.int i, p, [.ty "list", .ty "tuple"], .type "int", _, false, rfl, upd_same, .cons (.ty _) (.cons (.ty _) .nil), .base (.int i), kitAny_cons (kit_ty (kit_list "int" (by decide))) (fun e => kitAny_cons (b := false) (r := false) (kit_ty (kit_tuple "int" (by decide))) (fun _ => kitAny_nil) fun e' => nomatch e') (fun e => nomatch e), _, rfl, iteF ?_⟩
    exact ⟨_, rfl, q _ s1⟩
end
end K
namespace K
open PySem L2 Rg
open Evl (pss_cut)
section
variable {P : Program} {w : World} {K : PySem.W.Frag} {mg : Str → Option Value} {base : Heap}
/-! ### errors with one field -/
def spIni (K : PySem.W.Frag) (f : Str) : Sp := fun vs H Q _ => ∃ (a C : Addr) (v : V), vs = [.ref a, v] ∧ OexC K C ∧ PySem.W.findIn K (.ref C) f = some none ∧ H a = some (exo a C none) ∧
  ∀ d, H d = none → d ≠ a → Q .non (upd (upd H d (exd d [(f, v)])) a (exo a C (some d)))
theorem scBadRing : FnScope ["self", "part"] ["self", "part"] (defScope sBadRingInit) := ⟨rfl, rfl, rfl, by decide +kernel, rfl, by decide +kernel, by decide +kernel⟩
theorem ok_badRingI {f : Addr} {fd : FuncData} (F : Fun K "__init__" "BadRing.__init__" sBadRingInit f fd) : FnOk P w K mg base CX0 1 f fd ["self", "part"] (spIni K "part") := by
  refine F.ok scBadRing (fun vs H Q E h => ?_) (fun cdv A outer s H vs Q E hr h => ?_)
  · obtain ⟨a, C, v, rfl, _⟩ := h
    rfl
  · refine ⟨_, pss_one (ps_ost (pv 0) (pv 1)), ?_⟩
    obtain ⟨a, C, v, rfl, o, n, ha, k⟩ := h
    exact ⟨_, rfl, _, rfl, a, C, rfl, o, n, .inl ⟨ha, fun d h1 h2 => k d h1 h2⟩⟩
theorem scBadNumber : FnScope ["self", "part"] ["self", "part"] (defScope sBadNumberInit) := ⟨rfl, rfl, rfl, by decide +kernel, rfl, by decide +kernel, by decide +kernel⟩
theorem ok_badNumberI {f : Addr} {fd : FuncData} (F : Fun K "__init__" "BadNumber.__init__" sBadNumberInit f fd) : FnOk P w K mg base CX0 1 f fd ["self", "part"] (spIni K "part") := by
  refine F.ok scBadNumber (fun vs H Q E h => ?_) (fun cdv A outer s H vs Q E hr h => ?_)
  · obtain ⟨a, C, v, rfl, _⟩ := h
    rfl
  · refine ⟨_, pss_one (ps_ost (pv 0) (pv 1)), ?_⟩
    obtain ⟨a, C, v, rfl, o, n, ha, k⟩ := h
    exact ⟨_, rfl, _, rfl, a, C, rfl, o, n, .inl ⟨ha, fun d h1 h2 => k d h1 h2⟩⟩
/-- the class x of errors with the field f, at C, its __init__ at fI -/
structure ErrAt (P : Program) (w : World) (K : PySem.W.Frag) (mg : Str → Option Value) (base : Heap) (x f : Str) (C fI : Addr) (fdI : FuncData) : Prop where
  oex : OexC K C
  ic : PySem.W.findIn K (.ref C) "__init__" = some (some (.ref fI))
  ti : PySem.W.typeIn K (.ref fI) = some (.type "function")
  nf : PySem.W.findIn K (.ref C) f = some none
  g : mg x = some (.ref C)
  b : Binds K fdI ["self", f] []
  ok : FnOk P w K mg base CX0 1 fI fdI ["self", f] (spIni K f)
/-- an error of the class at C with the field f holding v leaves; what was tracked stands -/
def Errs (E : XK) (C : Addr) (f : Str) (v : V) (H : Hp) : Prop := ∀ (d : Addr) (H' : Hp), Same H H' → H d = none → H' d = some (.xd [(f, v)]) → E (.ref C) (some d) H'
theorem Errs.later {E : XK} {C : Addr} {f : Str} {v : V} {H H1 : Hp} (h : Errs E C f v H) (s : Same H H1) : Errs E C f v H1 := fun d H' s' n e => h d H' (s.trans s') (s.free n) e
/-- the making of such an error, as a raise asks it -/
theorem err_made {E : XK} {C : Addr} {f : Str} {v : V} {H : Hp} (o : OexC K C) (n : PySem.W.findIn K (.ref C) f = some none) (h : Errs E C f v H) :
    ([v] : List V).length ≤ 1000 ∧ ∀ a, H a = none → spIni K f (.ref a :: ([v] ++ [])) (upd H a (exo a C none))
      (fun u H2 => u = .non ∧ ∃ (d : Addr) (fs : List (Str × V)), H2 a = some (exo a C (some d)) ∧ H2 d = some (exd d fs) ∧ H d = none ∧ E (.ref C) (some d) (upd (del H2 a) d (.xd fs))) (fun _ _ _ => False) := by
  refine ⟨(by show 1 ≤ 1000; decide), fun a ha => ⟨a, C, v, rfl, o, n, upd_same, fun d hd hda => ⟨rfl, d, [(f, v)], upd_same, by rw [upd_ne hda, upd_same], ?_, ?_⟩⟩⟩
  · rw [upd_ne hda] at hd
    exact hd
  · rw [upd_ne hda] at hd
    refine h d _ (fun b u e => ?_) hd upd_same
    have hba : b ≠ a := ne_of_none e ha
    have hbd : b ≠ d := ne_of_none e hd
    rw [upd_ne hbd, del_ne hba, upd_ne hba, upd_ne hbd, upd_ne hba]
    exact e
end
end K
namespace K
open PySem L2 Rg
open Evl (pss_cut)
/-! ### what a ring tells -/
def sumsOf (ls : List Int) : List Int := ls.foldl (fun s l => s ++ s.map (· + l)) [0]
def levelB (ls : List Int) : Bool := (sumsOf ls).any fun o => decide (2 * o = ls.sum)
def closesB (ls : List Int) : Bool := ls.all fun x => decide (2 * x ≤ ls.sum)
def lsum (ls ns : List Int) : Int := (ns.map fun b => ls.getD b.toNat 0).sum
def sortV (ls ns : List Int) : Str := if 2 * lsum ls ns = ls.sum then "level" else if 2 * lsum ls ns < ls.sum then "short" else "long"
theorem sums_take {ls : List Int} {i : Nat} {z : Int} (h : ls[i]? = some z) : sumsOf (ls.take (i + 1)) = sumsOf (ls.take i) ++ (sumsOf (ls.take i)).map (· + z) := by
  unfold sumsOf
  rw [← take_snoc h, List.foldl_append]
  rfl
theorem sums_len : ∀ (ls : List Int) (i : Nat), i ≤ ls.length → (sumsOf (ls.take i)).length = 2 ^ i
  | ls, 0, _ => rfl
  | ls, i + 1, h => by
    have hz : ls[i]? = some ls[i] := List.getElem?_eq_getElem h
    rw [sums_take hz, List.length_append, List.length_map, sums_len ls i (by omega), Nat.pow_succ]
    omega
theorem closes_max {ls : List Int} {m : Int} (hm : m ∈ ls) (hx : ∀ y ∈ ls, y ≤ m) : decide (2 * m ≤ ls.sum) = closesB ls := by
  unfold closesB
  by_cases c : 2 * m ≤ ls.sum
  · rw [decide_eq_true c]
    refine (List.all_eq_true.mpr fun y hy => decide_eq_true ?_).symm
    have := hx y hy
    omega
  · rw [decide_eq_false c]
    cases e : ls.all fun x => decide (2 * x ≤ ls.sum) with
    | false => rfl
    | true => exact absurd (of_decide_eq_true (List.all_eq_true.mp e m hm)) c
theorem dec_int (a b : Int) : decide (V.int a = V.int b) = decide (a = b) := by
  by_cases e : a = b
  · rw [e]; simp
  · rw [decide_eq_false e, decide_eq_false fun z => e (V.int.inj z)]
theorem all_any (l : List Int) (g : Int → Bool) : (l.map g).any id = l.any g := by
  rw [List.any_map]; rfl
/-- the attributes of a ring, in the order in which __init__ stores them -/
def rf (t : Addr) (ls : List Int) : List (Str × V) := putF "is_clear" (.bl (!levelB ls)) (putF "closes" (.bl (closesB ls)) (putF "total" (.int ls.sum) (putF "lengths" (.ref t) [])))
theorem n1 : ¬ (("lengths" : Str) = "total") := by decide +kernel
theorem n2 : ¬ (("lengths" : Str) = "closes") := by decide +kernel
theorem n3 : ¬ (("lengths" : Str) = "is_clear") := by decide +kernel
theorem n4 : ¬ (("total" : Str) = "closes") := by decide +kernel
theorem n5 : ¬ (("total" : Str) = "is_clear") := by decide +kernel
theorem n6 : ¬ (("closes" : Str) = "is_clear") := by decide +kernel
theorem rf_lengths (t : Addr) (ls : List Int) : (rf t ls).lookup ("lengths" : Str) = some (.ref t) := by
  unfold rf
  rw [lookup_putF, if_neg n3, lookup_putF, if_neg n2, lookup_putF, if_neg n1, lookup_putF, if_pos rfl]
theorem rf_total (t : Addr) (ls : List Int) : (rf t ls).lookup ("total" : Str) = some (.int ls.sum) := by
  unfold rf
  rw [lookup_putF, if_neg n5, lookup_putF, if_neg n4, lookup_putF, if_pos rfl]
theorem rf_closes (t : Addr) (ls : List Int) : (rf t ls).lookup ("closes" : Str) = some (.bl (closesB ls)) := by
  unfold rf
  rw [lookup_putF, if_neg n6, lookup_putF, if_pos rfl]
theorem rf_clear (t : Addr) (ls : List Int) : (rf t ls).lookup ("is_clear" : Str) = some (.bl (!levelB ls)) := by
  unfold rf
  rw [lookup_putF, if_pos rfl]
theorem rf_no (t : Addr) (ls : List Int) {m : Str} (h1 : ¬ m = "lengths") (h2 : ¬ m = "total") (h3 : ¬ m = "closes") (h4 : ¬ m = "is_clear") : (rf t ls).lookup m = none := by
  unfold rf
  rw [lookup_putF, if_neg h4, lookup_putF, if_neg h3, lookup_putF, if_neg h2, lookup_putF, if_neg h1]
  rfl
section
variable {P : Program} {w : World} {K : PySem.W.Frag} {mg : Str → Option Value} {base : Heap}
def RingAt (K : PySem.W.Frag) (C : Addr) (H : Hp) (r : Addr) (ls : List Int) : Prop := ∃ dx t, H r = some (.ins C dx (rf t ls)) ∧ SqT K H t (ls.map V.int) ∧ ∃ o : Obj, H t = some (.frz o (.tup (ls.map V.int))) ∧ o.dict = none
theorem RingAt.same {C : Addr} {H H' : Hp} {r : Addr} {ls : List Int} (h : RingAt K C H r ls) (s : Same H H') : RingAt K C H' r ls := by
  obtain ⟨dx, t, h1, h2, o, h3, h4⟩ := h
  exact ⟨dx, t, s _ _ h1, s.tup h2, o, s _ _ h3, h4⟩
/-- the class Ring as the top has made it -/
structure RingC (K : PySem.W.Frag) (mg : Str → Option Value) (C : Addr) : Prop where
  cl : Cls K C
  nL : NoAttr K C "lengths"
  nT : NoAttr K C "total"
  nC : NoAttr K C "closes"
  nI : NoAttr K C "is_clear"
  g : mg "Ring" = some (.ref C)
  ha : PySem.W.findIn K (.ref C) "__class__" = some (some (.builtin "object.__class__"))
  hn : PySem.W.specialIn K (.builtin "object.__class__") "__get__" = some (some (.builtin "getset_descriptor.__get__"))
  ht : PySem.W.takesIn K (.builtin "object.__class__") = some true
  hm : PySem.W.mroIn K C (.type "object") = some true
structure Nm (mg : Str → Option Value) : Prop where
  mostL : ∃ t, mg "MOST_LENGTH" = some (.int 1000000 t)
  leastB : ∃ t, mg "LEAST_BARS" = some (.int 3 t)
  mostB : ∃ t, mg "MOST_BARS" = some (.int 8 t)
/-! ### are_lengths -/
def spAreL (K : PySem.W.Frag) : Sp := fun vs H Q _ => ∃ (a : Addr) (ls : List Int), vs = [.ref a] ∧ Knd K H (.ref a) "list" ∧ SqL K H a (ls.map V.int) ∧ ls.length ≤ 1000 ∧ Bd 1000000 ls ∧ ∀ H', Same H H' → Q (.bl true) H'
abbrev nAreL : List Str := ["value", "one"]
theorem scAreL : FnScope nAreL ["value"] (defScope sAreLengths) := ⟨rfl, rfl, rfl, by decide +kernel, rfl, by decide +kernel, by decide +kernel⟩
theorem all_true {bs : List Bool} (h : ∀ b ∈ bs, b = true) : bs.all id = true := List.all_eq_true.mpr fun b hb => h b hb
theorem ok_areL {f fW fL : Addr} {fd fdW fdL : FuncData} (F : Fun K "are_lengths" "are_lengths" sAreLengths f fd) (T : Bi mg) (N : Nm mg) (W : DefAt P w K mg base CX0 2 "is_within" ["value", "least", "most"] spWithin fW fdW) (L : DefAt P w K mg base CX0 1 "is_list" ["value"] (spIsList K) fL fdL) : FnOk P w K mg base CX0 3 f fd ["value"] (spAreL K) := by
  refine F.ok scAreL (fun vs H Q E h => ?_) (fun cdv A outer s H vs Q E hr h => ?_)
  · obtain ⟨a, ls, rfl, _⟩ := h
    rfl
  · obtain ⟨tM, hM⟩ := N.mostL
    refine ⟨_, pss_one (ps_ret (pe_and (pe_call L.ok (hr.mono (by decide)) rfl L.g L.kp L.b .nil pass0 (pa_cons (pv 0) pa_nil)) (pe_one (pe_callB (cr_all rfl) (by rfl) T.all (by decide +kernel) (pa_cons (pe_lc (own := [("one", 1)]) (g := gName 1) (tt := tYes) rfl scAreL.nd (pi_list (pv 0))
      (blkOk_by (N := nAreL) (sc := defScope sAreLengths) (by decide +kernel)) (fun _ _ _ _ _ => pg_name (i := 1) scAreL.nd rfl (Or.inl rfl)) (fun _ _ _ _ _ => pts_nil) (fun _ _ _ _ _ => pe_call W.ok hr rfl W.g W.kp W.b .nil pass0 (pa_cons (pv 1) (pa_cons pe_int (pa_cons (pe_glob (v := .int 1000000) rfl hM ⟨_, rfl⟩) pa_nil))))) pa_nil))))), ?_⟩
    obtain ⟨a, ls, rfl, hk, hs, hl, hb, q⟩ := h
    refine ⟨_, rfl, _, "list", rfl, hk, fun H1 s1 => ⟨_, rfl, iteDT (.inl rfl) ?_⟩⟩
    refine ⟨_, rfl, a, rfl, ⟨_, s1.seq hs⟩, fun D hD => ?_⟩
    have hD0 := s1.free hD
    refine lc_list (K := K) (a := a) (xs := ls.map V.int) (fun i H' => Same H H' ∧ ∃ bs : List Bool, (∀ b ∈ bs, b = true) ∧ bs.length ≤ i ∧ H' D = some (.lst (bs.map V.bl))) ⟨s1.new hD, [], (fun b hb => nomatch hb), Nat.le_refl _, upd_same⟩ (fun i H' _ p => p.1.seq hs) ?_ ?_
    · rintro i x H' hi ⟨s2, bs, h1, h2, h3⟩
      obtain ⟨z, hz, rfl⟩ := int_at hi
      have hil : i < ls.length := (List.getElem?_eq_some_iff.mp hz).1
      have hzb := hb z (List.mem_of_getElem? hz)
      refine ⟨rfl, _, rfl, z, 1, 1000000, rfl, _, h3, (by rw [List.length_map]; exact sm (by omega)), s2.mut hD0, bs ++ [true], fun b hb => ?_, by rw [List.length_append, List.length_singleton]; omega, ?_⟩
      · rcases List.mem_append.mp hb with m | m
        · exact h1 b m
        · exact List.mem_singleton.mp m
      · rw [upd_same, List.map_append, decide_eq_true hzb.1, decide_eq_true hzb.2]
        rfl
    · rintro H' ⟨s2, bs, h1, h2, h3⟩
      refine ⟨D, bs, rfl, SqL.of h3, ?_⟩
      rw [all_true h1]
      exact q H' s2
/-! ### has_level -/
def spHasL (K : PySem.W.Frag) : Sp := fun vs H Q _ => ∃ (t : Addr) (ls : List Int), vs = [.ref t] ∧ SqT K H t (ls.map V.int) ∧ ls.length ≤ 8 ∧ ∀ H', Same H H' → Q (.bl (levelB ls)) H'
abbrev nHasL : List Str := ["lengths", "sums", "length", "one"]
theorem scHasL : FnScope nHasL ["lengths"] (defScope sHasLevel) := ⟨rfl, rfl, rfl, by decide +kernel, rfl, by decide +kernel, by decide +kernel⟩
theorem ok_hasL {f : Addr} {fd : FuncData} (F : Fun K "has_level" "has_level" sHasLevel f fd) (T : Bi mg) : FnOk P w K mg base CX0 2 f fd ["lengths"] (spHasL K) := by
  refine F.ok scHasL (fun vs H Q E h => ?_) (fun cdv A outer s H vs Q E hr h => ?_)
  · obtain ⟨a, ls, rfl, _⟩ := h
    rfl
  · have nd := scHasL.nd
    refine ⟨_, pss_cons (ps_set (i := 1) nd rfl (Or.inl rfl) (pe_lst (pa_cons pe_int pa_nil)))
      (pss_cons (ps_for PassesOwn.never rfl (pi_tup (pv 0)) (pg_name (i := 2) nd rfl (Or.inr rfl)) (pss_one (ps_set (i := 1) nd rfl (Or.inl rfl) (pe_op op_cat (pv 1) (pe_lc (own := [("one", 3)]) (g := gName 3) (tt := tYes) rfl nd (pi_list (pv 1))
        (blkOk_by (N := nHasL) (sc := defScope sHasLevel) (by decide +kernel)) (fun _ _ _ _ _ => pg_name (i := 3) nd rfl (Or.inl rfl)) (fun _ _ _ _ _ => pts_nil) (fun _ _ _ _ _ => pe_op op_add (pv 3) (pv 2)))))))
      (pss_one (ps_ret (pe_callB (cr_any rfl) (by rfl) T.any (by decide +kernel) (pa_cons (pe_lc (own := [("one", 3)]) (g := gName 3) (tt := tYes) rfl nd (pi_list (pv 1))
        (blkOk_by (N := nHasL) (sc := defScope sHasLevel) (by decide +kernel)) (fun _ _ _ _ _ => pg_name (i := 3) nd rfl (Or.inl rfl)) (fun _ _ _ _ _ => pts_nil) (fun _ _ _ _ _ => pe_cmpR op_eq (pe_op op_mul pe_int (pv 3)) (pe_callB (r := rSumT K) (cr_sumT (by rfl)) (by rfl) T.sum (by decide +kernel) (pa_cons (pv 0) pa_nil)) (nomark _))) pa_nil))))), ?_⟩
    obtain ⟨t, ls, rfl, hs, hl, q⟩ := h
    refine ⟨(by show 1 ≤ sizeLine; decide), fun l0 hl0 => ?_⟩
    have s0 : Same H (upd H l0 (.lst [.int 0])) := (Same.refl H).new hl0
    have pw : ∀ i, i ≤ ls.length → (sumsOf (ls.take i)).length ≤ 256 := fun i hi => by
      rw [sums_len ls i hi]
      exact Nat.pow_le_pow_right (by decide) (show i ≤ 8 by omega)
    refine ⟨_, rfl, t, rfl, ⟨_, s0.tup hs⟩, for_tup (K := K) (a := t) (xs := ls.map V.int) (fun i σ H' => ∃ (l : Addr) (z : Option V), σ = [some (.ref t), some (.ref l), z, none] ∧ Same H H' ∧ H' l = some (.lst ((sumsOf (ls.take i)).map V.int)))
      ⟨l0, none, rfl, s0, upd_same⟩ (fun i σ H' _ ⟨_, _, _, s, _⟩ => s.tup hs) ?_ ?_⟩
    · rintro i x σ H' hi ⟨l, z, rfl, s1, h1⟩
      obtain ⟨z, hz, rfl⟩ := int_at hi
      have hil : i < ls.length := (List.getElem?_eq_some_iff.mp hz).1
      have p1 := pw i (by omega)
      refine ⟨_, rfl, _, rfl, l, rfl, ⟨_, SqL.of h1⟩, fun D hD => ?_⟩
      have hlD : l ≠ D := ne_of_none h1 hD
      refine lc_list (K := K) (a := l) (xs := (sumsOf (ls.take i)).map V.int) (fun j H2 => Same H' H2 ∧ H2 D = some (.lst ((((sumsOf (ls.take i)).take j).map (· + z)).map V.int))) ⟨(Same.refl H').new hD, upd_same⟩ (fun j H2 _ p => p.1.seq (SqL.of h1)) ?_ ?_
      · rintro j y H2 hj ⟨s2, h2⟩
        obtain ⟨o, ho, rfl⟩ := int_at hj
        refine ⟨rfl, _, rfl, _, rfl, _, _, rfl, rfl, _, h2, (by rw [List.length_map, List.length_map, List.length_take]; exact sm (by omega)), s2.mut hD, ?_⟩
        rw [upd_same, ← take_snoc ho, List.map_append, List.map_append]
        rfl
      · rintro H2 ⟨s2, h2⟩
        rw [List.length_map, List.take_length] at h2
        refine ⟨l, D, _, _, rfl, rfl, s2 _ _ h1, h2, (by rw [List.length_map, List.length_map, List.length_map]; exact Nat.le_of_lt (sm (by omega))), fun p hp => ⟨p, _, rfl, (s1.trans s2).new hp, ?_⟩⟩
        rw [upd_same, sums_take hz, List.map_append]
    · rintro σ H' ⟨l, z, rfl, s1, h1⟩
      rw [List.length_map, List.take_length] at h1
      have p1 := pw ls.length (Nat.le_refl _)
      rw [List.take_length] at p1
      refine ⟨_, rfl, l, rfl, ⟨_, SqL.of h1⟩, fun D hD => ?_⟩
      refine lc_list (K := K) (a := l) (xs := (sumsOf ls).map V.int) (fun j H2 => Same H' H2 ∧ H2 D = some (.lst ((((sumsOf ls).take j).map fun o => decide (2 * o = ls.sum)).map V.bl))) ⟨(Same.refl H').new hD, upd_same⟩ (fun j H2 _ p => p.1.seq (SqL.of h1)) ?_ ?_
      · rintro j y H2 hj ⟨s2, h2⟩
        obtain ⟨o, ho, rfl⟩ := int_at hj
        refine ⟨rfl, _, rfl, _, _, rfl, rfl, .inl ⟨by decide, by decide⟩, _, rfl, t, ls, rfl, (s1.trans s2).tup hs, rfl, _, h2, (by rw [List.length_map, List.length_map, List.length_take]; exact sm (by omega)), s2.mut hD, ?_⟩
        rw [upd_same, ← take_snoc ho, List.map_append, List.map_append, dec_int]
        rfl
      · rintro H2 ⟨s2, h2⟩
        rw [List.length_map, List.take_length] at h2
        refine ⟨D, _, rfl, SqL.of h2, ?_⟩
        rw [all_any]
        exact q H2 (s1.trans s2)
/-! ### Ring.__init__ -/
def spRI (K : PySem.W.Frag) (C : Addr) : Sp := fun vs H Q _ => ∃ (r l dx : Addr) (ls : List Int), vs = [.ref r, .ref l] ∧ H r = some (.ins C dx []) ∧ Knd K H (.ref l) "list" ∧ SqL K H l (ls.map V.int) ∧ 3 ≤ ls.length ∧ ls.length ≤ 8 ∧ Bd 1000000 ls ∧
  ∀ H', RingAt K C H' r ls → (∀ b o, H b = some o → b ≠ r → H' b = some o) → Q .non H'
theorem scRI : FnScope ["self", "lengths"] ["self", "lengths"] (defScope sRingInit) := ⟨rfl, rfl, rfl, by decide +kernel, rfl, by decide +kernel, by decide +kernel⟩
theorem ok_ri {C f fA fH : Addr} {fd fdA fdH : FuncData} (F : Fun K "__init__" "Ring.__init__" sRingInit f fd) (T : Bi mg) (N : Nm mg) (R : RingC K mg C) (A' : DefAt P w K mg base CX0 3 "are_lengths" ["value"] (spAreL K) fA fdA) (L : DefAt P w K mg base CX0 2 "has_level" ["lengths"] (spHasL K) fH fdH) : FnOk P w K mg base CX0 4 f fd ["self", "lengths"] (spRI K C) := by
  refine F.ok scRI (fun vs H Q E h => ?_) (fun cdv A outer s H vs Q E hr h => ?_)
  · obtain ⟨r, l, dx, ls, rfl, _⟩ := h
    rfl
  · obtain ⟨t3, h3⟩ := N.leastB
    obtain ⟨t8, h8⟩ := N.mostB
    refine ⟨_, pss_cons (ps_if (pt_not (pt_val (pe_call A'.ok hr rfl A'.g A'.kp A'.b .nil pass0 (pa_cons (pv 1) pa_nil)))) (pss_one ps_never) pss_nil)
      (pss_cons (ps_if (pt_cmpR op_lt (pe_callB call_len_seq (by rfl) T.len PySem.boot_len (pa_cons (pv 1) pa_nil)) (pe_glob (v := .int 3) rfl h3 ⟨_, rfl⟩) (nomark _)) (pss_one ps_never) pss_nil)
      (pss_cons (ps_if (pt_cmpR op_gt (pe_callB call_len_seq (by rfl) T.len PySem.boot_len (pa_cons (pv 1) pa_nil)) (pe_glob (v := .int 8) rfl h8 ⟨_, rfl⟩) (nomark _)) (pss_one ps_never) pss_nil)
      (pss_cons (ps_fld (pv 0) (pe_callTy cr_tupF (by rfl) T.tuple (by decide +kernel) (pa_cons (pv 1) pa_nil)) rfl)
      (pss_cons (ps_fld (pv 0) (pe_callB (cr_sumT rfl) (by rfl) T.sum (by decide +kernel) (pa_cons (pe_fld (pv 0) rfl) pa_nil)) rfl)
      (pss_cons (ps_fld (pv 0) (pe_cmpR op_le (pe_op op_mul pe_int (pe_callB (cr_maxT rfl) (by rfl) T.max (by decide +kernel) (pa_cons (pe_fld (pv 0) rfl) pa_nil))) (pe_fld (pv 0) rfl) (nomark _)) rfl)
      (pss_one (ps_fld (pv 0) (pe_not (pe_call L.ok (hr.mono (by decide)) rfl L.g L.kp L.b .nil pass0 (pa_cons (pe_fld (pv 0) rfl) pa_nil))) rfl))))))), ?_⟩
    obtain ⟨r, l, dx, ls, rfl, hr0, hk, hs, l3, l8, hb, q⟩ := h
    refine ⟨_, rfl, l, ls, rfl, hk, hs, by omega, hb, fun H1 s1 => ⟨_, rfl, iteF ?_⟩⟩
    refine ⟨_, rfl, l, _, rfl, .inl (s1.seq hs), _, _, rfl, rfl, _, rfl, iteDF (by rw [List.length_map]; omega) ?_⟩
    refine ⟨_, rfl, l, _, rfl, .inl (s1.seq hs), _, _, rfl, rfl, _, rfl, iteDF (by rw [List.length_map]; omega) ?_⟩
    have hr1 := s1 _ _ hr0
    refine ⟨_, rfl, l, _, rfl, s1.seq hs, fun t o ht hd => ?_⟩
    have nrt : r ≠ t := ne_of_none hr1 ht
    have ht0 := s1.free ht
    have tup0 : ∀ u, upd (upd H1 t (.frz o (.tup (ls.map V.int)))) r u t = some (.frz o (.tup (ls.map V.int))) := fun u => by rw [upd_ne nrt.symm, upd_same]
    refine ⟨_, rfl, r, C, dx, [], rfl, (by rw [upd_ne nrt]; exact hr1), R.cl, R.nL, (by show 0 < 1000; decide), ?_⟩
    -- self.total
    refine ⟨_, rfl, r, C, dx, _, _, rfl, upd_same, R.cl, R.nL, (by rw [lookup_putF, if_pos rfl]), t, ls, rfl, .inl (.inr ⟨o, tup0 _⟩), _, rfl, r, C, dx, _, rfl, upd_same, R.cl, R.nT, (by show 1 < 1000; decide), ?_⟩
    rw [upd_upd]
    -- self.closes
    refine ⟨_, rfl, r, C, dx, _, _, rfl, upd_same, R.cl, R.nL, (by rw [lookup_putF, if_neg n1, lookup_putF, if_pos rfl]), t, ls, rfl, .inl (.inr ⟨o, tup0 _⟩), by omega, fun m hm hx => ?_⟩
    refine ⟨_, _, rfl, rfl, .inl ⟨by decide, by decide⟩, _, rfl, r, C, dx, _, _, rfl, upd_same, R.cl, R.nT, (by rw [lookup_putF, if_pos rfl]), _, _, rfl, rfl, _, rfl, r, C, dx, _, rfl, upd_same, R.cl, R.nC, ?_, ?_⟩
    · have e1 := length_putF "total" (V.int ls.sum) (putF "lengths" (V.ref t) [])
      have e2 := length_putF "lengths" (V.ref t) []
      simp only [List.length_nil] at e2
      omega
    dsimp only
    rw [upd_upd, closes_max hm hx]
    -- self.is_clear
    refine ⟨_, rfl, r, C, dx, _, _, rfl, upd_same, R.cl, R.nL, (by rw [lookup_putF, if_neg n2, lookup_putF, if_neg n1, lookup_putF, if_pos rfl]), t, ls, rfl, .inl (.inr ⟨o, tup0 _⟩), l8, fun H5 s5 => ⟨_, rfl, _, rfl, r, C, dx, _, rfl, s5 _ _ upd_same, R.cl, R.nI, ?_, ?_⟩⟩
    · have e1 := length_putF "total" (V.int ls.sum) (putF "lengths" (V.ref t) [])
      have e2 := length_putF "lengths" (V.ref t) []
      have e3 := length_putF "closes" (V.bl (closesB ls)) (putF "total" (V.int ls.sum) (putF "lengths" (V.ref t) []))
      simp only [List.length_nil] at e2
      omega
    · have tf := s5 _ _ (tup0 _)
      refine q _ ⟨dx, t, upd_same, .inl (.inr ⟨o, by rw [upd_ne nrt.symm]; exact tf⟩), o, by rw [upd_ne nrt.symm]; exact tf, hd⟩ fun b o e hbr => ?_
      rw [upd_ne hbr]
      refine s5 _ _ ?_
      rw [upd_ne hbr, upd_ne (ne_of_none (s1 _ _ e) ht)]
      exact s1 _ _ e
end
end K
namespace K
open PySem L2 Rg
open Evl (pss_cut)
section
variable {P : Program} {w : World} {K : PySem.W.Frag} {mg : Str → Option Value} {base : Heap}
/-- a ring, of whose tuple of lengths nothing is known but its items -/
def RingW (K : PySem.W.Frag) (C : Addr) (H : Hp) (r : Addr) (ls : List Int) : Prop := ∃ dx t, H r = some (.ins C dx (rf t ls)) ∧ SqT K H t (ls.map V.int)
theorem RingAt.weak {C : Addr} {H : Hp} {r : Addr} {ls : List Int} (h : RingAt K C H r ls) : RingW K C H r ls := let ⟨dx, t, h1, h2, _⟩ := h; ⟨dx, t, h1, h2⟩
/-! ### len(ring) -/
def spRLen (K : PySem.W.Frag) (C : Addr) : Sp := fun vs H Q _ => ∃ (r : Addr) (ls : List Int), vs = [.ref r] ∧ RingW K C H r ls ∧ Q (.int ls.length) H
theorem scRLen : FnScope ["self"] ["self"] (defScope sRingLen) := ⟨rfl, rfl, rfl, by decide +kernel, rfl, by decide +kernel, by decide +kernel⟩
theorem ok_rlen {C f : Addr} {fd : FuncData} (F : Fun K "__len__" "Ring.__len__" sRingLen f fd) (T : Bi mg) (R : RingC K mg C) : FnOk P w K mg base CX0 1 f fd ["self"] (spRLen K C) := by
  refine F.ok scRLen (fun vs H Q E h => ?_) (fun cdv A outer s H vs Q E hr h => ?_)
  · obtain ⟨r, ls, rfl, _⟩ := h
    rfl
  · refine ⟨_, pss_one (ps_ret (pe_callB call_len_seq (by rfl) T.len PySem.boot_len (pa_cons (pe_fld (pv 0) rfl) pa_nil))), ?_⟩
    obtain ⟨r, ls, rfl, ⟨dx, t, hr0, ht⟩, q⟩ := h
    refine ⟨_, rfl, r, C, dx, _, _, rfl, hr0, R.cl, R.nL, rf_lengths _ _, t, _, rfl, .inr ht, ?_⟩
    rw [List.length_map]
    exact q
end
end K
namespace K
open PySem L2 Rg
open Evl (pss_cut)
section
variable {P : Program} {w : World} {K : PySem.W.Frag} {mg : Str → Option Value} {base : Heap}
theorem kit_self {K : PySem.W.Frag} {C : Addr} : PySem.W.kitOne K (.ref C) (.ref C) = some true := by
  unfold PySem.W.kitOne
  simp
/-- what is no ring: a value of a kind that is no Ring -/
def NoR (K : PySem.W.Frag) (C : Addr) (H : Hp) (v : V) : Prop := ∃ k : String, TyX K H v (.type k) ∧ PySem.W.kitOne K (.type k) (.ref C) = some false
theorem NoR.same {C : Addr} {H H' : Hp} {v : V} (h : NoR K C H v) (s : Same H H') : NoR K C H' v := let ⟨k, a, b⟩ := h; ⟨k, tyx_same a s, b⟩
def spWantR (K : PySem.W.Frag) (C cR : Addr) : Sp := fun vs H Q E => ∃ (v : V) (part : Str), vs = [v, .str part] ∧ ((∃ r ls, v = .ref r ∧ RingW K C H r ls ∧ Q .non H) ∨ (NoR K C H v ∧ Errs E cR "part" (.str part) H))
theorem scWantR : FnScope ["value", "part"] ["value", "part"] (defScope sWantRing) := ⟨rfl, rfl, rfl, by decide +kernel, rfl, by decide +kernel, by decide +kernel⟩
theorem ok_wantR {C cR f fI : Addr} {fd fdI : FuncData} (F : Fun K "want_ring" "want_ring" sWantRing f fd) (T : Bi mg) (R : RingC K mg C) (B : ErrAt P w K mg base "BadRing" "part" cR fI fdI) : FnOk P w K mg base (L2.CX P w) 3 f fd ["value", "part"] (spWantR K C cR) := by
  refine F.okX scWantR (fun vs H Q E h => ?_) (fun cdv A outer s H vs Q E hr h => ?_)
  · obtain ⟨v, part, rfl, _⟩ := h
    rfl
  · refine ⟨_, pss_one (ps_if (pt_not (pt_val (pe_callB call_isi (by rfl) T.isinstance (by decide +kernel) (pa_cons (pv 0) (pa_cons (pe_glob (v := .ref C) rfl R.g rfl) pa_nil)))))
      (pss_one (ps_raise rfl (takes_of rfl rfl rfl rfl) (pmk_oex B.oex B.ic B.ti B.ok hr B.b .nil pass0 rfl B.g (pa_cons (pv 1) pa_nil)))) pss_nil), ?_⟩
    obtain ⟨v, part, rfl, h⟩ := h
    rcases h with ⟨r, ls, rfl, ⟨dx, t, hr0, ht⟩, q⟩ | ⟨⟨k, ty, kit⟩, er⟩
    · refine ⟨_, rfl, .ref r, .ref C, _, _, _, rfl, .own C, .base (.ins hr0 R.cl R.ha R.hn R.ht R.hm), kit_self, ?_⟩
      exact ⟨_, rfl, iteF q⟩
    · refine ⟨_, rfl, v, .ref C, _, _, _, rfl, .own C, ty, kit, ?_⟩
      exact ⟨_, rfl, iteT ⟨_, rfl, err_made B.oex B.nf er⟩⟩
end
end K
namespace K
open PySem L2 Rg
open Evl (pss_cut)
theorem ne_bb {a b : Bool} (h : a = b) : (!decide (V.bl a = V.bl b)) = false := by rw [h, decide_eq_true rfl]; rfl
theorem ne_vv (v : V) : (!decide (v = v)) = false := by rw [decide_eq_true rfl]; rfl
theorem at_back {α : Type} {xs : List α} {v : α} (hl : 0 < xs.length) (h : xs[xs.length - 1]? = some v) : atI xs (-1) = some v := by
  unfold atI ixN
  rw [if_neg (by decide), if_pos (by omega), show ((-1 : Int) + (xs.length : Int)).toNat = xs.length - 1 by omega]
  exact h
theorem shaped_nil : SeqAt.shaped (.list []) = true := shaped_ints []
theorem Bd.app {m : Int} {a b : List Int} (h : Bd m a) (k : Bd m b) : Bd m (a ++ b) := fun x hx => (List.mem_append.mp hx).elim (h x) (k x)
theorem Bd.take {m : Int} {a : List Int} (i : Nat) (h : Bd m a) : Bd m (a.take i) := fun x hx => h x (List.mem_of_mem_take hx)
theorem Bd.drop {m : Int} {a : List Int} (i : Nat) (h : Bd m a) : Bd m (a.drop i) := fun x hx => h x (List.mem_of_mem_drop hx)
theorem Bd.one {m x : Int} (h1 : 1 ≤ x) (h2 : x ≤ m) : Bd m [x] := fun y hy => by rw [List.mem_singleton.mp hy]; exact ⟨h1, h2⟩
theorem getD_mem {ls : List Int} {i : Nat} (h : i < ls.length) : ls.getD i 0 ∈ ls := by
  rw [List.getD_eq_getElem?_getD, List.getElem?_eq_getElem h]
  exact List.getElem_mem h
theorem Bd.get {m : Int} {ls : List Int} (h : Bd m ls) {i : Nat} (hi : i < ls.length) : 1 ≤ ls.getD i 0 ∧ ls.getD i 0 ≤ m := h _ (getD_mem hi)
theorem cut_from (xs : List V) {z : Int} {k : Nat} (hz : z = (k : Int)) : cutV xs (some z) none = xs.drop k := by
  subst hz
  unfold cutV
  rw [HT.sIx_nat, HT.sIx_none]
  by_cases h : k ≤ xs.length
  · rw [Nat.min_eq_left h, List.take_of_length_le (by rw [List.length_drop]; omega)]
  · rw [Nat.min_eq_right (by omega), List.drop_eq_nil_of_le (Nat.le_refl _), List.drop_eq_nil_of_le (show xs.length ≤ k by omega), List.take_nil]
theorem getL {ls : List Int} {z : Int} {i : Nat} (hz : z = (i : Int)) (h1 : i < ls.length) : atI (ls.map V.int) z = some (V.int (ls.getD i 0)) := by
  subst hz
  have h : (ls.map V.int)[i]? = some (V.int (ls.getD i 0)) := by rw [int_get h1, List.getD_eq_getElem?_getD, List.getElem?_eq_getElem h1]; rfl
  exact atI_nat h
theorem get_z {ls : List Int} {z : Int} (h0 : 0 ≤ z) (h1 : z < ls.length) : atI (ls.map V.int) z = some (V.int (ls.getD z.toNat 0)) := getL (i := z.toNat) (by omega) (by omega)
theorem eqvA_pd (a b : List Int) : PyData.eqv (.list (a.map PyData.int)) (.list (b.map PyData.int)) = decide (a = b) := by
  simp [PyData.eqv, Rg.eqvA_ints8]
section
variable {P : Program} {w : World} {K : PySem.W.Frag} {mg : Str → Option Value} {base : Heap}
theorem RingW.same {C : Addr} {H H' : Hp} {r : Addr} {ls : List Int} (h : RingW K C H r ls) (s : Same H H') : RingW K C H' r ls := by
  obtain ⟨dx, t, h1, h2⟩ := h
  exact ⟨dx, t, s _ _ h1, s.tup h2⟩
/-- a new ring is told, all that was tracked stands -/
def NewA (K : PySem.W.Frag) (C : Addr) (ls : List Int) (H : Hp) (Q : VK) : Prop := ∀ r H', RingAt K C H' r ls → Same H H' → H r = none → Q (.ref r) H'
theorem NewA.later {C : Addr} {ls : List Int} {H H1 : Hp} {Q : VK} (h : NewA K C ls H Q) (s : Same H H1) : NewA K C ls H1 Q := fun r H' a b c => h r H' a (s.trans b) (s.free c)
/-! ### want_number of what is one -/
def spNumV : Sp := fun vs H Q _ => ∃ (v lo hi : Int) (part : Str), vs = [.int v, .int lo, .int hi, .str part] ∧ lo ≤ v ∧ v ≤ hi ∧ Q .non H
theorem scWantNum : FnScope ["value", "least", "most", "part"] ["value", "least", "most", "part"] (defScope sWantNumber) := ⟨rfl, rfl, rfl, by decide +kernel, rfl, by decide +kernel, by decide +kernel⟩
theorem ok_numV {f fW : Addr} {fd fdW : FuncData} (F : Fun K "want_number" "want_number" sWantNumber f fd) (W : DefAt P w K mg base CX0 2 "is_within" ["value", "least", "most"] spWithin fW fdW) : FnOk P w K mg base CX0 3 f fd ["value", "least", "most", "part"] spNumV := by
  refine F.ok scWantNum (fun vs H Q E h => ?_) (fun cdv A outer s H vs Q E hr h => ?_)
  · obtain ⟨v, lo, hi, part, rfl, _⟩ := h
    rfl
  · refine ⟨_, pss_one (ps_if (pt_not (pt_val (pe_call W.ok hr rfl W.g W.kp W.b .nil pass0 (pa_cons (pv 0) (pa_cons (pv 1) (pa_cons (pv 2) pa_nil)))))) (pss_one ps_never) pss_nil), ?_⟩
    obtain ⟨v, lo, hi, part, rfl, h0, h1, q⟩ := h
    refine ⟨_, rfl, _, rfl, _, rfl, v, lo, hi, rfl, _, rfl, ?_⟩
    refine iteBF ?_ q
    simp only [decide_eq_true h0, decide_eq_true h1]
    rfl
/-! ### is_within of anything -/
/-- what is_within tells of a value of the kind k -/
def winB (k : String) (lo hi : Int) (v : V) : Bool := decide (k = "int") && match v with
  | .int i => decide (lo ≤ i) && decide (i ≤ hi)
  | _ => false
def spWithinO (K : PySem.W.Frag) : Sp := fun vs H Q _ => ∃ (v : V) (k : String) (lo hi : Int), vs = [v, .int lo, .int hi] ∧ Knd K H v k ∧ k ≠ "int" ∧ Q (.bl false) H
theorem ok_withinO {f fI : Addr} {fd fdI : FuncData} (F : Fun K "is_within" "is_within" sIsWithin f fd) (G : DefAt P w K mg base CX0 1 "is_integer" ["value"] (spIsInt K) fI fdI) : FnOk P w K mg base CX0 2 f fd ["value", "least", "most"] (spWithinO K) := by
  refine F.ok scWithin (fun vs H Q E h => ?_) (fun cdv A outer s H vs Q E hr h => ?_)
  · obtain ⟨v, k, lo, hi, rfl, _⟩ := h
    rfl
  · refine ⟨_, pss_cons (ps_if (pt_not (pt_val (pe_call G.ok hr rfl G.g G.kp G.b .nil pass0 (pa_cons (pv 0) pa_nil)))) (pss_one (ps_ret pe_bl)) pss_nil) (pss_one ps_never), ?_⟩
    obtain ⟨v, k, lo, hi, rfl, hk, nk, q⟩ := h
    refine ⟨_, rfl, v, k, rfl, hk, _, rfl, ?_⟩
    rw [decide_eq_false nk]
    exact iteT q
/-- a value, of a kind, that is an int just if the kind says so -/
def KndI (K : PySem.W.Frag) (H : Hp) (v : V) (k : String) : Prop := Knd K H v k ∧ (k = "int" → ∃ i, v = .int i)
def spWithinG (K : PySem.W.Frag) : Sp := fun vs H Q _ => ∃ (v : V) (k : String) (lo hi : Int), vs = [v, .int lo, .int hi] ∧ KndI K H v k ∧ Q (.bl (winB k lo hi v)) H
theorem ok_withinG {f fI : Addr} {fd fdI : FuncData} (F : Fun K "is_within" "is_within" sIsWithin f fd) (G : DefAt P w K mg base CX0 1 "is_integer" ["value"] (spIsInt K) fI fdI) : FnOk P w K mg base CX0 2 f fd ["value", "least", "most"] (spWithinG K) := by
  refine (fn_or (ok_within F G) (ok_withinO F G)).imp fun vs H Q E h => ?_
  obtain ⟨v, k, lo, hi, rfl, ⟨hk, hi'⟩, q⟩ := h
  by_cases c : k = "int"
  · obtain ⟨i, rfl⟩ := hi' c
    refine .inl ⟨i, lo, hi, rfl, ?_⟩
    unfold winB at q
    rw [decide_eq_true c, Bool.true_and] at q
    exact q
  · refine .inr ⟨v, k, lo, hi, rfl, hk, c, ?_⟩
    unfold winB at q
    rw [decide_eq_false c, Bool.false_and] at q
    exact q
/-! ### want_number of anything -/
def spNumG (K : PySem.W.Frag) (C : Addr) : Sp := fun vs H Q E => ∃ (v : V) (k : String) (lo hi : Int) (part : Str), vs = [v, .int lo, .int hi, .str part] ∧ KndI K H v k ∧ ((winB k lo hi v = true ∧ Q .non H) ∨ (winB k lo hi v = false ∧ Errs E C "part" (.str part) H))
theorem ok_numG {f fW C fI : Addr} {fd fdW fdI : FuncData} (F : Fun K "want_number" "want_number" sWantNumber f fd) (W : DefAt P w K mg base CX0 2 "is_within" ["value", "least", "most"] (spWithinG K) fW fdW) (B : ErrAt P w K mg base "BadNumber" "part" C fI fdI) :
    FnOk P w K mg base (L2.CX P w) 3 f fd ["value", "least", "most", "part"] (spNumG K C) := by
  refine F.okX scWantNum (fun vs H Q E h => ?_) (fun cdv A outer s H vs Q E hr h => ?_)
  · obtain ⟨v, k, lo, hi, part, rfl, _⟩ := h
    rfl
  · refine ⟨_, pss_one (ps_if (pt_not (pt_val (pe_call W.ok hr rfl W.g W.kp W.b .nil pass0 (pa_cons (pv 0) (pa_cons (pv 1) (pa_cons (pv 2) pa_nil))))))
      (pss_one (ps_raise rfl (takes_of rfl rfl rfl rfl) (pmk_oex B.oex B.ic B.ti B.ok hr B.b .nil pass0 rfl B.g (pa_cons (pv 3) pa_nil)))) pss_nil), ?_⟩
    obtain ⟨v, k, lo, hi, part, rfl, hk, h⟩ := h
    refine ⟨_, rfl, _, rfl, _, rfl, v, k, lo, hi, rfl, hk, _, rfl, ?_⟩
    rcases h with ⟨e, q⟩ | ⟨e, q⟩
    · rw [e]; exact iteF q
    · rw [e]; exact iteT ⟨_, rfl, err_made B.oex B.nf q⟩
theorem madeL2 {C l : Addr} {E : XK} {H : Hp} {ls : List Int} {R : Addr → VK} (hs : H l = some (.lst (ls.map V.int))) (l3 : 3 ≤ ls.length) (l8 : ls.length ≤ 8) (bd : Bd 1000000 ls) (h : ∀ r H', RingAt K C H' r ls → Same H H' → H r = none → R r .non H') :
    ∀ x dx, H x = none → H dx = none → dx ≠ x → spRI K C (.ref x :: ([.ref l] ++ [])) (upd (upd H dx (.own x)) x (.ins C dx [])) (R x) E := by
  intro x dx hx hdx _
  have s0 : Same H (upd (upd H dx (.own x)) x (.ins C dx [])) := fun b o q => by
    rw [upd_ne (ne_of_none q hx), upd_ne (ne_of_none q hdx)]
    exact q
  exact ⟨x, l, dx, ls, rfl, upd_same, ⟨.base (.lst (s0 _ _ hs)), by decide⟩, SqL.of (s0 _ _ hs), l3, l8, bd, fun H' ring kp => h x H' ring (fun b o e => kp b o (s0 b o e) (ne_of_none e hx)) hx⟩
/-- the making of a Ring of a right list -/
structure RingP (P : Program) (w : World) (K : PySem.W.Frag) (mg : Str → Option Value) (base : Heap) (C fI : Addr) (fdI : FuncData) : Prop where
  made : Mk K C fI
  ok : FnOk P w K mg base CX0 4 fI fdI ["self", "lengths"] (spRI K C)
  b : Binds K fdI ["self", "lengths"] []
theorem sl_to {a : Addr} {ls : List Int} {i : Nat} {H : Hp} {Q : VK} (hs : SqT K H a (ls.map V.int)) (hi : i < ls.length) (k : ∀ t, H t = none → Q (.ref t) (upd H t (.tup ((ls.take i).map V.int)))) : rSlA K (.ref a) none (some (i : Int)) H Q := by
  refine ⟨a, _, rfl, hs, fun ⟨_, e2⟩ => ?_, fun _ p hp => ?_⟩
  · rw [HT.sIx_nat, List.length_map] at e2
    omega
  · rw [cutV_to, ← List.map_take]
    exact k p hp
theorem sl_from {a : Addr} {ls : List Int} {z : Int} {i : Nat} {H : Hp} {Q : VK} (hs : SqT K H a (ls.map V.int)) (hz : z = ((i + 1 : Nat) : Int)) (h0 : 0 < ls.length) (k : ∀ t, H t = none → Q (.ref t) (upd H t (.tup ((ls.drop (i + 1)).map V.int)))) : rSlA K (.ref a) (some z) none H Q := by
  refine ⟨a, _, rfl, hs, fun ⟨e1, _⟩ => ?_, fun _ p hp => ?_⟩
  · subst hz
    rw [HT.sIx_nat, List.length_map] at e1
    omega
  · rw [cut_from _ hz, ← List.map_drop]
    exact k p hp
theorem catI {a b : Addr} {xs ys : List Int} {H : Hp} {Q : VK} (ha : H a = some (.tup (xs.map V.int))) (hb : H b = some (.tup (ys.map V.int))) (hl : xs.length + ys.length ≤ 1000) (k : ∀ t H', H' t = some (.tup ((xs ++ ys).map V.int)) → Same H H' → Q (.ref t) H') : rCatA K (.ref a) (.ref b) H Q := by
  refine ⟨a, b, _, _, rfl, rfl, .inl (.inl ha), .inl (.inl hb), by rw [List.length_map, List.length_map]; exact Nat.le_of_lt (sm (by omega)), fun e => k b H ?_ (Same.refl H), fun _ e => k a H ?_ (Same.refl H), fun _ _ p hp => k p _ ?_ ((Same.refl H).new hp)⟩
  · rw [List.map_eq_nil_iff.mp e]; exact hb
  · rw [List.map_eq_nil_iff.mp e, List.append_nil]; exact ha
  · rw [upd_same, List.map_append]
end
end K
namespace K
open PySem L2 Rg
/-! ### strands of bars, each with a sign -/
abbrev Strd := List (Int × Int)
def twoB (w : List Strd) (b : Int) (i : Nat) : List (List Strd) := [w.take i ++ [w.getD i [] ++ [(b, 1)]] ++ w.drop (i + 1), w.take i ++ [w.getD i [] ++ [(b, -1)]] ++ w.drop (i + 1)]
def withT (w : List Strd) (b : Int) (n : Nat) : List (List Strd) := (w ++ [[(b, 1)]]) :: (List.range n).flatMap (twoB w b)
def withB (w : List Strd) (b : Int) : List (List Strd) := withT w b w.length
def allW : Nat → List (List Strd)
  | 0 => [[[(0, 1)]]]
  | n + 1 => (allW n).flatMap fun w => withB w ((n + 1 : Nat) : Int)
theorem withT_succ (w : List Strd) (b : Int) (n : Nat) : withT w b (n + 1) = withT w b n ++ twoB w b n := by
  unfold withT
  rw [List.range_succ, List.flatMap_append]
  simp
theorem withT_len (w : List Strd) (b : Int) (n : Nat) : (withT w b n).length = 1 + 2 * n := by
  induction n with
  | zero => rfl
  | succ n ih =>
    rw [withT_succ, List.length_append, ih]
    show 1 + 2 * n + 2 = _
    omega
/-- what holds of each way: the strands rise, each begins with sign 1, each bar once -/
def okS (n : Nat) (st : Strd) : Bool := (match st with
  | (_, s) :: _ => decide (s = 1)
  | [] => false) && (st.all fun q => decide (0 ≤ q.1) && decide (q.1 ≤ n) && (decide (q.2 = 1) || decide (q.2 = -1)))
def risesB : List Int → Bool
  | a :: b :: r => decide (a < b) && risesB (b :: r)
  | _ => true
def headB (st : Strd) : Int := match st with
  | (b, _) :: _ => b
  | [] => -1
def okW (n : Nat) (w : List Strd) : Bool := (w.all fun st => okS n st && risesB (st.map (·.1))) && risesB (w.map headB) && decide (w.length ≤ n + 1) && (w.flatMap fun st => st.map (·.1)).isPerm ((List.range (n + 1)).map fun j : Nat => (j : Int)) && decide ((w.flatMap fun st => st).length = n + 1)
theorem allW_ok : ∀ n, n ≤ 5 → (allW n).all (okW n) = true := by decide +kernel
theorem allW_few : ∀ n, n ≤ 5 → (allW n).length ≤ 2000 := by decide +kernel
/-! ### nets -/
def net (ls : List Int) (st : Strd) : Int := (st.map fun q => ls.getD q.1.toNat 0 * q.2).sum
theorem net_snoc (ls : List Int) (st : Strd) (b s : Int) : net ls (st ++ [(b, s)]) = net ls st + ls.getD b.toNat 0 * s := by
  unfold net
  rw [List.map_append, List.sum_append]
  simp
def twoR (row : List Int) (x : Int) (i : Nat) : List (List Int) := [row.take i ++ [row.getD i 0 + x] ++ row.drop (i + 1), row.take i ++ [row.getD i 0 - x] ++ row.drop (i + 1)]
def stepT (row : List Int) (x : Int) (n : Nat) : List (List Int) := (row ++ [x]) :: (List.range n).flatMap (twoR row x)
def stepR (row : List Int) (x : Int) : List (List Int) := stepT row x row.length
def rowsL (ls : List Int) : Nat → List (List Int)
  | 0 => [[]]
  | n + 1 => (rowsL ls n).flatMap fun row => stepR row (ls.getD n 0)
theorem two_net (ls : List Int) (w : List Strd) (b : Int) {i : Nat} (h : i < w.length) : (twoB w b i).map (fun v => v.map (net ls)) = twoR (w.map (net ls)) (ls.getD b.toNat 0) i := by
  have e : (w.map (net ls)).getD i 0 = net ls (w.getD i []) := by
    rw [List.getD_eq_getElem?_getD, List.getD_eq_getElem?_getD, List.getElem?_map, List.getElem?_eq_getElem h]
    rfl
  unfold twoB twoR
  simp only [List.map_cons, List.map_nil, List.map_append, List.map_take, List.map_drop, net_snoc, e, Int.mul_one]
  rw [show ls.getD b.toNat 0 * -1 = -ls.getD b.toNat 0 by omega, Int.sub_eq_add_neg]
theorem with_net (ls : List Int) (w : List Strd) (b : Int) : (withB w b).map (fun v => v.map (net ls)) = stepR (w.map (net ls)) (ls.getD b.toNat 0) := by
  unfold withB withT stepR stepT
  rw [List.map_cons, List.map_flatMap, List.length_map]
  congr 1
  · rw [List.map_append]
    simp [net]
  · rw [List.flatMap_def, List.flatMap_def]
    congr 1
    exact List.map_congr_left fun i hi => two_net ls w b (List.mem_range.mp hi)
theorem all_net (ls : List Int) : ∀ n, (allW n).map (fun v => v.map (net ls)) = rowsL ls (n + 1)
  | 0 => by
    show [[net ls [(0, 1)]]] = [([] : List Int)].flatMap fun row => stepR row (ls.getD 0 0)
    simp [net, stepR, stepT]
  | n + 1 => by
    show ((allW n).flatMap fun w => withB w ((n + 1 : Nat) : Int)).map (fun v => v.map (net ls)) = (rowsL ls (n + 1)).flatMap fun row => stepR row (ls.getD (n + 1) 0)
    rw [List.map_flatMap, ← all_net ls n, List.flatMap_map]
    congr 1
    funext w
    rw [with_net, Int.toNat_natCast]
/-- whether the nets can close -/
def hadR (row : List Int) : Bool := (row.map fun z => (z.natAbs : Int)).all fun m => decide (2 * m ≤ (row.map fun z => (z.natAbs : Int)).sum)
def countR (ls : List Int) (k : Nat) : Nat := ((rowsL ls ls.length).filter fun row => decide (row.length = k) && hadR row).length
end K
namespace K
open PySem L2 Rg
open Evl (pss_cut)
theorem par_imp {α β : Type} {R S : α → β → Prop} (i : ∀ a b, R a b → S a b) : ∀ {xs : List α} {ys : List β}, Paired R xs ys → Paired S xs ys
  | _, _, .nil => .nil
  | _, _, .cons h t => .cons (i _ _ h) (par_imp i t)
theorem par_app {α β : Type} {R : α → β → Prop} : ∀ {xs : List α} {ys : List β} {zs : List α} {ws : List β}, Paired R xs ys → Paired R zs ws → Paired R (xs ++ zs) (ys ++ ws)
  | _, _, _, _, .nil, q => q
  | _, _, _, _, .cons h t, q => .cons h (par_app t q)
theorem par_len {α β : Type} {R : α → β → Prop} : ∀ {xs : List α} {ys : List β}, Paired R xs ys → xs.length = ys.length
  | _, _, .nil => rfl
  | _, _, .cons _ t => congrArg (· + 1) (par_len t)
theorem par_get {α β : Type} {R : α → β → Prop} : ∀ {xs : List α} {ys : List β}, Paired R xs ys → ∀ {i : Nat} {x : α}, xs[i]? = some x → ∃ y, ys[i]? = some y ∧ R x y
  | _, _, .cons h t, 0, x, e => ⟨_, rfl, by cases e; exact h⟩
  | _, _, .cons h t, i + 1, x, e => par_get t (by simpa using e)
theorem par_take {α β : Type} {R : α → β → Prop} : ∀ (n : Nat) {xs : List α} {ys : List β}, Paired R xs ys → Paired R (xs.take n) (ys.take n)
  | 0, _, _, _ => by rw [List.take_zero, List.take_zero]; exact .nil
  | n + 1, _, _, .nil => .nil
  | n + 1, _, _, .cons h t => .cons h (par_take n t)
theorem par_drop {α β : Type} {R : α → β → Prop} : ∀ (n : Nat) {xs : List α} {ys : List β}, Paired R xs ys → Paired R (xs.drop n) (ys.drop n)
  | 0, _, _, h => h
  | n + 1, _, _, .nil => .nil
  | n + 1, _, _, .cons h t => par_drop n t
def rLenS (K : PySem.W.Frag) : List V → Hp → VK → Prop := fun xs H Q => ∃ p ys, xs = [.ref p] ∧ (SqL K H p ys ∨ SqT K H p ys) ∧ Q (.int ys.length) H
/-! ### pairs, strands, ways in the heap -/
def SPat (H : Hp) (v : V) (q : Int × Int) : Prop := ∃ a, v = .ref a ∧ H a = some (.tup [.int q.1, .int q.2])
def SSat (H : Hp) (v : V) (s : Strd) : Prop := ∃ a xs, v = .ref a ∧ H a = some (.tup xs) ∧ Paired (SPat H) xs s
def SWat (H : Hp) (v : V) (w : List Strd) : Prop := ∃ a xs, v = .ref a ∧ H a = some (.tup xs) ∧ Paired (SSat H) xs w
theorem SPat.same {H H' : Hp} {v : V} {q : Int × Int} (h : SPat H v q) (s : Same H H') : SPat H' v q := let ⟨a, e, z⟩ := h; ⟨a, e, s _ _ z⟩
theorem SSat.same {H H' : Hp} {v : V} {q : Strd} (h : SSat H v q) (s : Same H H') : SSat H' v q := let ⟨a, xs, e, z, p⟩ := h; ⟨a, xs, e, s _ _ z, par_imp (fun _ _ k => k.same s) p⟩
theorem SWat.same {H H' : Hp} {v : V} {q : List Strd} (h : SWat H v q) (s : Same H H') : SWat H' v q := let ⟨a, xs, e, z, p⟩ := h; ⟨a, xs, e, s _ _ z, par_imp (fun _ _ k => k.same s) p⟩
/-- a list grows: what was tracked but the list stands -/
theorem SPat.mut {H : Hp} {D : Addr} {us ws : List V} {v : V} {q : Int × Int} (h : SPat H v q) (hD : H D = some (.lst us)) : SPat (upd H D (.lst ws)) v q := by
  obtain ⟨a, e, z⟩ := h
  exact ⟨a, e, by rw [upd_ne fun k => by rw [k, hD] at z; cases z]; exact z⟩
theorem SSat.mut {H : Hp} {D : Addr} {us ws : List V} {v : V} {q : Strd} (h : SSat H v q) (hD : H D = some (.lst us)) : SSat (upd H D (.lst ws)) v q := by
  obtain ⟨a, xs, e, z, p⟩ := h
  exact ⟨a, xs, e, by rw [upd_ne fun k => by rw [k, hD] at z; cases z]; exact z, par_imp (fun _ _ k => k.mut hD) p⟩
theorem SWat.mut {H : Hp} {D : Addr} {us ws : List V} {v : V} {q : List Strd} (h : SWat H v q) (hD : H D = some (.lst us)) : SWat (upd H D (.lst ws)) v q := by
  obtain ⟨a, xs, e, z, p⟩ := h
  exact ⟨a, xs, e, by rw [upd_ne fun k => by rw [k, hD] at z; cases z]; exact z, par_imp (fun _ _ k => k.mut hD) p⟩
section
variable {P : Program} {w : World} {K : PySem.W.Frag} {mg : Str → Option Value} {base : Heap}
theorem catV {a b : Addr} {xs ys : List V} {H : Hp} {Q : VK} (ha : H a = some (.tup xs)) (hb : H b = some (.tup ys)) (hl : xs.length + ys.length ≤ 1000) (k : ∀ t H', H' t = some (.tup (xs ++ ys)) → Same H H' → Q (.ref t) H') : rCatA K (.ref a) (.ref b) H Q := by
  refine ⟨a, b, _, _, rfl, rfl, .inl (.inl ha), .inl (.inl hb), Nat.le_of_lt (sm (by omega)), fun e => k b H ?_ (Same.refl H), fun _ e => k a H ?_ (Same.refl H), fun _ _ p hp => k p _ upd_same ((Same.refl H).new hp)⟩
  · rw [e]; exact hb
  · rw [e, List.append_nil]; exact ha
theorem sIx_le (n : Nat) (z : Int) (h : n ≤ z.toNat) (h0 : 0 ≤ z) (d : Nat) : HT.sIx n d (some z) = n := by
  obtain ⟨k, rfl⟩ := Int.eq_ofNat_of_zero_le h0
  rw [HT.sIx_nat]
  simp at h
  omega
theorem slTo {a : Addr} {xs : List V} {i : Nat} {H : Hp} {Q : VK} (ha : H a = some (.tup xs)) (k : ∀ t H', H' t = some (.tup (xs.take i)) → Same H H' → Q (.ref t) H') : rSlA K (.ref a) none (some (i : Int)) H Q := by
  refine ⟨a, xs, rfl, .inl (.inl ha), fun ⟨_, e⟩ => k a H ?_ (Same.refl H), fun _ p hp => k p _ ?_ ((Same.refl H).new hp)⟩
  · rw [HT.sIx_nat] at e
    rw [List.take_of_length_le (by omega)]
    exact ha
  · rw [upd_same, cutV_to]
theorem slFrom {a : Addr} {xs : List V} {i : Nat} {H : Hp} {Q : VK} (ha : H a = some (.tup xs)) (k : ∀ t H', H' t = some (.tup (xs.drop i)) → Same H H' → Q (.ref t) H') : rSlA K (.ref a) (some (i : Int)) none H Q := by
  refine ⟨a, xs, rfl, .inl (.inl ha), fun ⟨e, _⟩ => k a H ?_ (Same.refl H), fun _ p hp => k p _ ?_ ((Same.refl H).new hp)⟩
  · rw [HT.sIx_nat] at e
    rcases Nat.eq_zero_or_pos i with z | z
    · rw [z]; exact ha
    · have : xs.length = 0 := by omega
      rw [List.eq_nil_of_length_eq_zero this, List.drop_nil]
      rw [List.eq_nil_of_length_eq_zero this] at ha
      exact ha
  · rw [upd_same, cut_from xs rfl]
/-! ### with_bar -/
def spWB (K : PySem.W.Frag) : Sp := fun vs H Q _ => ∃ (v : V) (way : List Strd) (b : Int), vs = [v, .int b] ∧ SWat H v way ∧ way.length ≤ 8 ∧ (∀ st ∈ way, st.length ≤ 8) ∧
  ∀ p xs H', Same H H' → H p = none → H' p = some (.lst xs) → Paired (SWat H') xs (withB way b) → Q (.ref p) H'
abbrev nWB : List Str := ["strands", "bar", "ways", "at", "strand", "rows", "sign", "row"]
theorem scWB : FnScope nWB ["strands", "bar"] (defScope sWithBar) := ⟨rfl, rfl, rfl, by decide +kernel, rfl, by decide +kernel, by decide +kernel⟩
theorem ok_wb {f : Addr} {fd : FuncData} (F : Fun K "with_bar" "with_bar" sWithBar f fd) (T : Bi mg) : FnOk P w K mg base CX0 1 f fd ["strands", "bar"] (spWB K) := by
  refine F.ok scWB (fun vs H Q E h => ?_) (fun cdv A outer s H vs Q E hr h => ?_)
  · obtain ⟨v, way, b, rfl, _⟩ := h
    rfl
  · have nd := scWB.nd
    refine ⟨_, pss_cons (ps_set (i := 2) nd rfl (Or.inl rfl) (pe_lst (pa_cons (pe_op op_catA (pv 0) (pe_tup (pa_cons (pe_tup (pa_cons (pe_tup (pa_cons (pv 1) (pa_cons pe_int pa_nil))) pa_nil)) pa_nil))) pa_nil)))
      (pss_cons (ps_for PassesOwn.never rfl (pi_enumT (by rfl) T.enumerate (pa_cons (pv 0) pa_nil)) (pg_tup rfl (pgs_cons (pg_name (i := 3) nd rfl (Or.inr rfl)) (pgs_cons (pg_name (i := 4) nd rfl (Or.inr rfl)) pgs_nil)))
        (pss_cons (ps_setLc (i := 5) (own := [("sign", 6)]) (g := gName 6) (tt := tYes) (te := tOp (rCatA K) (tVar 4) (tTup (tCons (tTup (tCons (tVar 1) (tCons (tVar 6) tNil))) tNil))) rfl nd rfl rfl (sw_true rfl rfl rfl (by decide +kernel)) (pi_tup (pe_tup (pa_cons pe_int (pa_cons (pe_un un_neg pe_int) pa_nil))))
          (blkOk_by (N := nWB) (sc := defScope sWithBar) (by decide +kernel)) (fun _ _ _ _ _ => pg_name (i := 6) nd rfl (Or.inl rfl)) (fun _ _ _ _ _ => pts_nil) (fun _ _ _ _ _ => pe_op op_catA (pv 4) (pe_tup (pa_cons (pe_tup (pa_cons (pv 1) (pa_cons (pv 6) pa_nil))) pa_nil))))
        (pss_one (ps_set (i := 2) nd rfl (Or.inl rfl) (pe_op op_cat (pv 2) (pe_lc (own := [("row", 7)]) (g := gName 7) (tt := tYes) (te := tOp (rCatA K) (tOp (rCatA K) (tSl (rSlA K) (tVar 0) tNoPart (tPart (tVar 3))) (tTup (tCons (tVar 7) tNil))) (tSl (rSlA K) (tVar 0) (tPart (tOp (rI0 fun i j => .int (i + j)) (tVar 3) (tC (.int 1)))) tNoPart)) rfl nd (pi_list (pv 5))
          (blkOk_by (N := nWB) (sc := defScope sWithBar) (by decide +kernel)) (fun _ _ _ _ _ => pg_name (i := 7) nd rfl (Or.inl rfl)) (fun _ _ _ _ _ => pts_nil) (fun _ _ _ _ _ => pe_op op_catA (pe_op op_catA (pe_slice sl_tupA (pv 0) po_none (po_some (pv 3))) (pe_tup (pa_cons (pv 7) pa_nil))) (pe_slice sl_tupA (pv 0) (po_some (pe_op op_add (pv 3) pe_int)) po_none))))))))
      (pss_one (ps_ret (pv 2)))), ?_⟩
    obtain ⟨v, way, b, rfl, ⟨a, ss, rfl, ha, hp⟩, wl, stl, q⟩ := h
    -- the way with a strand of its own
    refine ⟨_, rfl, _, rfl, (by show 2 ≤ sizeLine; decide), fun t1 n1 => ⟨(by show 1 ≤ sizeLine; decide), fun t2 n2 => ⟨(by show 1 ≤ sizeLine; decide), fun t3 n3 => ?_⟩⟩⟩
    have a1 : Same H (upd H t1 (.tup [.int b, .int 1])) := (Same.refl H).new n1
    have v1 : upd H t1 (.tup [.int b, .int 1]) t1 = some (.tup [.int b, .int 1]) := upd_same
    generalize upd H t1 (.tup [.int b, .int 1]) = J1 at a1 v1 n2 n3 ⊢
    have a2 : Same J1 (upd J1 t2 (.tup [.ref t1])) := (Same.refl J1).new n2
    have v2 : upd J1 t2 (.tup [.ref t1]) t2 = some (.tup [.ref t1]) := upd_same
    generalize upd J1 t2 (.tup [.ref t1]) = J2 at a2 v2 n3 ⊢
    have a3 : Same J2 (upd J2 t3 (.tup [.ref t2])) := (Same.refl J2).new n3
    have v3 : upd J2 t3 (.tup [.ref t2]) t3 = some (.tup [.ref t2]) := upd_same
    generalize upd J2 t3 (.tup [.ref t2]) = J3 at a3 v3 ⊢
    have a13 := (a1.trans a2).trans a3
    have ssl : ss.length = way.length := par_len hp
    refine catV (a13 _ _ ha) v3 (by show ss.length + 1 ≤ 1000; omega) fun t4 J4 h4 s4 => ⟨(by show 1 ≤ sizeLine; decide), fun l0 nl0 => ?_⟩
    have nl0' := (a13.trans s4).free nl0
    have s04 := (a13.trans s4).new nl0 (o := .lst [.ref t4])
    have s4l : Same J4 (upd J4 l0 (.lst [.ref t4])) := (Same.refl J4).new nl0
    have w0 : SWat (upd J4 l0 (.lst [.ref t4])) (.ref t4) (way ++ [[(b, 1)]]) := ⟨t4, _, rfl, s4l _ _ h4, par_app (par_imp (fun _ _ k => k.same s04) hp) (.cons ⟨t2, [.ref t1], rfl, s4l _ _ (s4 _ _ (a3 _ _ v2)), .cons ⟨t1, rfl, s4l _ _ (s4 _ _ (a3 _ _ (a2 _ _ v1)))⟩ .nil⟩ .nil)⟩
    have hl0 : upd J4 l0 (.lst [.ref t4]) l0 = some (.lst [.ref t4]) := upd_same
    generalize upd J4 l0 (.lst [.ref t4]) = H0 at s04 w0 hl0 ⊢
    refine ⟨_, rfl, a, _, rfl, .inl (.inl (s04 _ _ ha)), ?_⟩
    refine for_it walk_enumT (fun i σ H' => ∃ (l : Addr) (xs : List V) (z3 z4 z5 : Option V), σ = [some (.ref a), some (.int b), some (.ref l), z3, z4, z5, none, none] ∧ Same H H' ∧ H l = none ∧ H' l = some (.lst xs) ∧ Paired (SWat H') xs (withT way b i))
      ⟨l0, [.ref t4], none, none, none, rfl, s04, nl0', hl0, .cons w0 .nil⟩ (fun i σ H' _ ⟨_, _, _, _, _, _, s, _⟩ => .inl (.inl (s _ _ ha))) ?_ ?_
    · rintro i x σ H1 H2 hi ⟨l, xs, z3, z4, z5, rfl, s1, nl1, h1, px⟩ ⟨U, x1, x2, rfl, hU, rfl, ex1, ex2⟩
      obtain rfl := (Option.some.inj ex1).symm
      obtain ⟨st, hst, sb, ys, rfl, hsb, pys⟩ := par_get hp ex2
      have stl' : st.length ≤ 8 := stl st (List.mem_of_getElem? hst)
      have s2 : Same H1 (upd H1 U (.tup [.int (i : Nat), .ref sb])) := (Same.refl H1).new hU
      refine ⟨U, _, rfl, .inl (.inl upd_same), rfl, _, _, rfl, _, _, rfl, rfl, ?_⟩
      generalize upd H1 U (.tup [.int (i : Nat), .ref sb]) = H2 at s2 ⊢
      have s02 := s1.trans s2
      -- the rows
      refine ⟨1, rfl, (by show 2 ≤ sizeLine; decide), fun c nc => ⟨c, rfl, ⟨_, .inl (.inl upd_same)⟩, fun D hD => ?_⟩⟩
      have s3 : Same H2 (upd H2 c (.tup [.int 1, .int (-1)])) := (Same.refl H2).new nc
      have hc : upd H2 c (.tup [.int 1, .int (-1)]) c = some (.tup (([1, -1] : List Int).map V.int)) := upd_same
      generalize upd H2 c (.tup [.int 1, .int (-1)]) = H3 at s3 hc hD ⊢
      have s03 := s02.trans s3
      have hsb3 := s03 _ _ hsb
      refine lc_tup (K := K) (a := c) (xs := ([1, -1] : List Int).map V.int) (fun j H' => Same H3 H' ∧ ∃ rs, H' D = some (.lst rs) ∧ Paired (SSat H') rs ((([1, -1] : List Int).take j).map fun s => st ++ [(b, s)])) ⟨(Same.refl H3).new hD, [], upd_same, .nil⟩ (fun j H' _ q => .inl (.inl (q.1 _ _ hc))) ?_ ?_
      · rintro j y H' hj ⟨s4, rs, h4, pr⟩
        obtain ⟨z, hz, rfl⟩ := int_at hj
        have hjl : j < 2 := (List.getElem?_eq_some_iff.mp hz).1
        refine ⟨rfl, _, rfl, _, rfl, _, rfl, (by show 2 ≤ sizeLine; decide), fun e1 m1 => ⟨(by show 1 ≤ sizeLine; decide), fun e2 m2 => ?_⟩⟩
        have c1 : Same H' (upd H' e1 (.tup [.int b, .int z])) := (Same.refl H').new m1
        have u1 : upd H' e1 (.tup [.int b, .int z]) e1 = some (.tup [.int b, .int z]) := upd_same
        generalize upd H' e1 (.tup [.int b, .int z]) = G1 at c1 u1 m2 ⊢
        have c2 : Same G1 (upd G1 e2 (.tup [.ref e1])) := (Same.refl G1).new m2
        have u2 : upd G1 e2 (.tup [.ref e1]) e2 = some (.tup [.ref e1]) := upd_same
        generalize upd G1 e2 (.tup [.ref e1]) = G2 at c2 u2 ⊢
        have c12 := c1.trans c2
        have ysl : ys.length = st.length := par_len pys
        refine catV (c12 _ _ (s4 _ _ hsb3)) u2 (by show ys.length + 1 ≤ 1000; omega) fun t G3 ht s5 => ?_
        have s35 := (s4.trans c12).trans s5
        have h5 := s5 _ _ (c12 _ _ h4)
        have rl : rs.length = j := by rw [par_len pr, List.length_map, List.length_take]; simp; omega
        have sst : SSat G3 (.ref t) (st ++ [(b, z)]) := ⟨t, _, rfl, ht, par_app (par_imp (fun _ _ k => k.same (s03.trans s35)) pys) (.cons ⟨e1, rfl, s5 _ _ (c2 _ _ u1)⟩ .nil)⟩
        refine ⟨rs, h5, sm (by omega), s35.mut hD, _, upd_same, ?_⟩
        rw [← take_snoc hz, List.map_append]
        exact par_app (par_imp (fun _ _ k => (k.same (c12.trans s5)).mut h5) pr) (.cons (sst.mut h5) .nil)
      rintro H4 ⟨s4, rs, h4, pr⟩
      rw [show ([1, -1] : List Int).take (([1, -1] : List Int).map V.int).length = [1, -1] from rfl] at pr
      have rl : rs.length = 2 := par_len pr
      have s04' := s03.trans s4
      -- the ways
      refine ⟨_, rfl, _, rfl, D, rfl, ⟨_, SqL.of h4⟩, fun D2 hD2 => ?_⟩
      refine lc_list (K := K) (a := D) (xs := rs) (fun j H' => Same H4 H' ∧ ∃ zs, H' D2 = some (.lst zs) ∧ Paired (SWat H') zs (((([1, -1] : List Int).map fun s => st ++ [(b, s)]).take j).map fun r => way.take i ++ [r] ++ way.drop (i + 1))) ⟨(Same.refl H4).new hD2, [], upd_same, .nil⟩ (fun j H' _ q => q.1.seq (SqL.of h4)) ?_ ?_
      · rintro j y H' hj ⟨s5, zs, h5, pz⟩
        have hjl : j < rs.length := (List.getElem?_eq_some_iff.mp hj).1
        obtain ⟨r, hr', rr⟩ := par_get pr hj
        have rr5 := rr.same s5
        have s05 := s04'.trans s5
        refine ⟨rfl, _, rfl, _, rfl, _, rfl, slTo (s05 _ _ ha) fun g1 G1 hg1 d1 => ⟨_, rfl, (by show 1 ≤ sizeLine; decide), fun g2 m2 => ?_⟩⟩
        have d2 : Same G1 (upd G1 g2 (.tup [y])) := (Same.refl G1).new m2
        have u2 : upd G1 g2 (.tup [y]) g2 = some (.tup [y]) := upd_same
        generalize upd G1 g2 (.tup [y]) = G2 at d2 u2 ⊢
        have tkl : (ss.take i).length ≤ 8 := by rw [List.length_take]; omega
        refine catV (d2 _ _ hg1) u2 (by show (ss.take i).length + 1 ≤ 1000; omega) fun g3 G3 hg3 d3 => ?_
        have d13 := (d1.trans d2).trans d3
        refine ⟨_, rfl, _, rfl, _, _, rfl, rfl, _, rfl, ?_⟩
        rw [show ((i : Int) + 1) = ((i + 1 : Nat) : Int) from rfl]
        dsimp only [tNoPart]
        refine slFrom (d13 _ _ (s05 _ _ ha)) fun g4 G4 hg4 d4 => ?_
        have dpl : (ss.drop (i + 1)).length ≤ 8 := by rw [List.length_drop]; omega
        refine catV (d4 _ _ hg3) hg4 (by rw [List.length_append]; show (ss.take i).length + 1 + (ss.drop (i + 1)).length ≤ 1000; omega) fun g5 G5 hg5 d5 => ?_
        have d15 := (d13.trans d4).trans d5
        have h6 := d15 _ _ h5
        have zl : zs.length = j := by rw [par_len pz, List.length_map, List.length_take]; simp; omega
        have pw : Paired (SSat G5) ss way := par_imp (fun _ _ k => k.same (s05.trans d15)) hp
        have sw : SWat G5 (.ref g5) (way.take i ++ [r] ++ way.drop (i + 1)) := ⟨g5, _, rfl, hg5, par_app (par_app (par_take i pw) (.cons (rr5.same d15) .nil)) (par_drop (i + 1) pw)⟩
        refine ⟨zs, h6, sm (by omega), (s5.trans d15).mut hD2, _, upd_same, ?_⟩
        rw [← take_snoc hr', List.map_append]
        exact par_app (par_imp (fun _ _ k => (k.same d15).mut h6) pz) (.cons (sw.mut h6) .nil)
      rintro H5 ⟨s5, zs, h5, pz⟩
      have ep : ((([1, -1] : List Int).map fun s => st ++ [(b, s)]).take rs.length).map (fun r => way.take i ++ [r] ++ way.drop (i + 1)) = twoB way b i := by
        rw [rl]
        unfold twoB
        rw [List.getD_eq_getElem?_getD, hst]
        rfl
      rw [ep] at pz
      have s15 := ((s2.trans s3).trans s4).trans s5
      have xl : xs.length ≤ 17 := by rw [par_len px, withT_len]; omega
      have zl : zs.length = 2 := par_len pz
      refine ⟨l, D2, _, _, rfl, rfl, s15 _ _ h1, h5, Nat.le_of_lt (sm (by omega)), fun l6 nl6 => ⟨l6, _, _, _, _, rfl, (s1.trans s15).new nl6, (s1.trans s15).free nl6, upd_same, ?_⟩⟩
      have s6 : Same H5 (upd H5 l6 (.lst (xs ++ zs))) := (Same.refl H5).new nl6
      rw [withT_succ]
      exact par_app (par_imp (fun _ _ k => k.same (s15.trans s6)) px) (par_imp (fun _ _ k => k.same s6) pz)
    · rintro σ H' ⟨l, xs, z3, z4, z5, rfl, s1, nl1, h1, px⟩
      rw [ssl] at px
      exact ⟨_, rfl, q l xs H' s1 nl1 h1 px⟩
end
end K
namespace K
open PySem L2 Rg
open Evl (pss_cut)
theorem walk_any {J : It} {n : Nat} {G : Hp → Prop} {Y : Nat → Hp → V → Hp → Prop} (w : Walk J n G Y) {T : V → Hp → (Hp → Prop) → Prop} {H0 : Hp} {Qd : Hp → Prop} (Pv : Nat → Hp → Prop) (h0 : Pv 0 H0) (hG : ∀ i H, i ≤ n → Pv i H → G H)
    (hs : ∀ i x H H', i < n → Pv i H → Y i H x H' → T x H' (Pv (i + 1))) (hd : ∀ H, Pv n H → Qd H) :
    ∃ W : Nat → Nat → Hp → Prop, (∃ m, W 0 m H0) ∧ ∀ i m H, W i m H →
      (J.stop i H ∧ Qd H) ∨ (J.go i H ∧ ∃ Nx : Hp → Prop, (∀ H', Nx H' → ∃ m', m' < m ∧ W (i + 1) m' H') ∧ ∀ x H', J.yld i H x H' → T x H' Nx) := by
  refine ⟨fun i m H => m = n - i ∧ i ≤ n ∧ Pv i H, ⟨n, by simp, Nat.zero_le _, h0⟩, ?_⟩
  rintro i m H ⟨rfl, hi, p⟩
  have q := hG i H hi p
  by_cases hlt : i < n
  · exact .inr ⟨w.goes i H hlt q, Pv (i + 1), fun H' p' => ⟨n - (i + 1), by omega, rfl, hlt, p'⟩, fun x H' y => hs i x H H' hlt p (w.yields i H x H' hlt q y)⟩
  · have e : i = n := by omega
    subst e
    exact .inl ⟨w.stops H q, hd H p⟩
theorem allW_wf {n : Nat} (h : n ≤ 5) {w : List Strd} (m : w ∈ allW n) : okW n w = true := List.all_eq_true.mp (allW_ok n h) w m
theorem okW_len {n : Nat} {w : List Strd} (h : okW n w = true) : w.length ≤ n + 1 ∧ ∀ st ∈ w, st.length ≤ n + 1 := by
  unfold okW at h
  simp only [Bool.and_eq_true, decide_eq_true_eq] at h
  refine ⟨h.1.1.2, fun st m => ?_⟩
  have e := h.2
  obtain ⟨a, b, rfl⟩ := List.append_of_mem m
  rw [List.flatMap_append, List.flatMap_cons, List.length_append, List.length_append] at e
  omega
section
variable {P : Program} {w : World} {K : PySem.W.Frag} {mg : Str → Option Value} {base : Heap}
/-! ### all_strands -/
def spAS (K : PySem.W.Frag) : Sp := fun vs H Q _ => ∃ n : Nat, vs = [.int ((n + 1 : Nat) : Int)] ∧ n ≤ 5 ∧ ∀ p xs H', Same H H' → H p = none → H' p = some (.lst xs) → Paired (SWat H') xs (allW n) → Q (.ref p) H'
abbrev nAS : List Str := ["many", "ways", "bar", "way", "longer"]
theorem scAS : FnScope nAS ["many"] (defScope sAllStrands) := ⟨rfl, rfl, rfl, by decide +kernel, rfl, by decide +kernel, by decide +kernel⟩
theorem ok_as {f fW : Addr} {fd fdW : FuncData} (F : Fun K "all_strands" "all_strands" sAllStrands f fd) (T : Bi mg) (WB : DefAt P w K mg base CX0 1 "with_bar" ["strands", "bar"] (spWB K) fW fdW) : FnOk P w K mg base CX0 2 f fd ["many"] (spAS K) := by
  refine F.ok scAS (fun vs H Q E h => ?_) (fun cdv A outer s H vs Q E hr h => ?_)
  · obtain ⟨n, rfl, _⟩ := h
    rfl
  · have nd := scAS.nd
    refine ⟨_, pss_cons (ps_set (i := 1) nd rfl (Or.inl rfl) (pe_lst (pa_cons (pe_tup (pa_cons (pe_tup (pa_cons (pe_tup (pa_cons pe_int (pa_cons pe_int pa_nil))) pa_nil)) pa_nil)) pa_nil)))
      (pss_cons (ps_for PassesOwn.never rfl (pi_range2 (by rfl) T.range (pa_cons pe_int (pa_cons (pv 0) pa_nil))) (pg_name (i := 2) nd rfl (Or.inr rfl))
        (pss_one (ps_setLc2 (i := 1) (own := [("way", 3), ("longer", 4)]) (vs1 := [4]) (g := gName 3) (g1 := gName 4) (tt := tYes) (tt1 := tYes) (wi1 := iList K (tCall (spWB K) [] E0 (tCons (tVar 3) (tCons (tVar 2) tNil)))) (te := tVar 4) rfl nd rfl rfl (sw_true rfl rfl rfl (by decide +kernel)) (pi_list (pv 1)) (blkOk_by (N := nAS) (sc := defScope sAllStrands) (by decide +kernel)) (by decide)
          (fun _ _ _ _ _ => pg_name (i := 3) nd rfl (Or.inl rfl)) (fun _ _ _ _ _ => pts_nil) (fun _ _ _ _ _ => pi_list (pe_call WB.ok hr rfl WB.g WB.kp WB.b .nil pass0 (pa_cons (pv 3) (pa_cons (pv 2) pa_nil)))) (fun _ _ _ _ _ => pg_name (i := 4) nd rfl (Or.inl rfl)) (fun _ _ _ _ _ => pts_nil) (fun _ _ _ _ _ => pv 4))))
      (pss_one (ps_ret (pv 1)))), ?_⟩
    obtain ⟨n, rfl, n5, q⟩ := h
    refine ⟨(by show 2 ≤ sizeLine; decide), fun t1 n1 => ⟨(by show 1 ≤ sizeLine; decide), fun t2 n2 => ⟨(by show 1 ≤ sizeLine; decide), fun t3 n3 => ⟨(by show 1 ≤ sizeLine; decide), fun l0 nl0 => ?_⟩⟩⟩⟩
    have a1 : Same H (upd H t1 (.tup [.int 0, .int 1])) := (Same.refl H).new n1
    have v1 : upd H t1 (.tup [.int 0, .int 1]) t1 = some (.tup [.int 0, .int 1]) := upd_same
    generalize upd H t1 (.tup [.int 0, .int 1]) = J1 at a1 v1 n2 n3 nl0 ⊢
    have a2 : Same J1 (upd J1 t2 (.tup [.ref t1])) := (Same.refl J1).new n2
    have v2 : upd J1 t2 (.tup [.ref t1]) t2 = some (.tup [.ref t1]) := upd_same
    generalize upd J1 t2 (.tup [.ref t1]) = J2 at a2 v2 n3 nl0 ⊢
    have a3 : Same J2 (upd J2 t3 (.tup [.ref t2])) := (Same.refl J2).new n3
    have v3 : upd J2 t3 (.tup [.ref t2]) t3 = some (.tup [.ref t2]) := upd_same
    generalize upd J2 t3 (.tup [.ref t2]) = J3 at a3 v3 nl0 ⊢
    have a13 := (a1.trans a2).trans a3
    have nl0' := a13.free nl0
    have a4 : Same J3 (upd J3 l0 (.lst [.ref t3])) := (Same.refl J3).new nl0
    have v4 : upd J3 l0 (.lst [.ref t3]) l0 = some (.lst [.ref t3]) := upd_same
    have s0 := a13.trans a4
    have w0 : SWat (upd J3 l0 (.lst [.ref t3])) (.ref t3) [[(0, 1)]] := ⟨t3, [.ref t2], rfl, a4 _ _ v3, .cons ⟨t2, [.ref t1], rfl, a4 _ _ (a3 _ _ v2), .cons ⟨t1, rfl, a4 _ _ (a3 _ _ (a2 _ _ v1))⟩ .nil⟩ .nil⟩
    generalize upd J3 l0 (.lst [.ref t3]) = H0 at s0 v4 w0 ⊢
    refine ⟨_, rfl, 1, _, rfl, ⟨by omega, by omega, by omega, by omega⟩, ?_⟩
    refine for_range (lo := 1) (n := (((n + 1 : Nat) : Int) - 1).toNat) (fun i σ H' => ∃ (l : Addr) (xs : List V) (z : Option V), σ = [some (.int ((n + 1 : Nat) : Int)), some (.ref l), z, none, none] ∧ Same H H' ∧ H l = none ∧ H' l = some (.lst xs) ∧ Paired (SWat H') xs (allW i))
      ⟨l0, [.ref t3], none, rfl, s0, nl0', v4, .cons w0 .nil⟩ ?_ ?_
    · rintro i σ H1 hi ⟨l, xs, z, rfl, s1, nl, h1, px⟩
      have hi' : i < n := by omega
      have xl : xs.length ≤ 2000 := by rw [par_len px]; exact allW_few i (by omega)
      refine ⟨_, rfl, l, rfl, ⟨_, SqL.of h1⟩, fun D hD => ?_⟩
      have hD0 := s1.free hD
      have big : ((allW i).flatMap fun w => withB w ((i + 1 : Nat) : Int)).length ≤ 2000 := allW_few (i + 1) (by omega)
      refine walk_any walk_list (fun j H' => Same H1 H' ∧ ∃ ws, H' D = some (.lst ws) ∧ Paired (SWat H') ws (((allW i).take j).flatMap fun w => withB w ((i + 1 : Nat) : Int))) ⟨(Same.refl H1).new hD, [], upd_same, .nil⟩ (fun j H' _ q => q.1.seq (SqL.of h1)) ?_ ?_
      · rintro j x H2 H3 hj ⟨s2, ws, h2, pw⟩ ⟨rfl, hx⟩
        obtain ⟨way, hway, hw⟩ := par_get px hx
        have wf := okW_len (allW_wf (by omega) (List.mem_of_getElem? hway))
        refine ⟨rfl, _, rfl, _, rfl, x, way, 1 + (i : Int), rfl, hw.same s2, by omega, fun st m => by have := wf.2 st m; omega, fun m ys H4 s4 nm h4 py => ⟨m, rfl, ⟨_, SqL.of h4⟩, ?_⟩⟩
        have eb : (1 + (i : Int)) = ((i + 1 : Nat) : Int) := by omega
        rw [eb] at py
        have mD : m ≠ D := fun e => by
          rw [e, h2] at nm
          cases nm
        have pre : (((allW i).take j).flatMap fun w => withB w ((i + 1 : Nat) : Int)).length ≤ 2000 := by
          have e : (allW i).flatMap (fun w => withB w ((i + 1 : Nat) : Int)) = ((allW i).take j).flatMap (fun w => withB w ((i + 1 : Nat) : Int)) ++ ((allW i).drop j).flatMap fun w => withB w ((i + 1 : Nat) : Int) := by
            rw [← List.flatMap_append, List.take_append_drop]
          rw [e, List.length_append] at big
          omega
        have wb : (withB way ((i + 1 : Nat) : Int)).length ≤ 17 := by
          unfold withB
          rw [withT_len]
          omega
        refine walk_any walk_list (fun k H' => Same H1 H' ∧ H' m = some (.lst ys) ∧ Paired (SWat H') ys (withB way ((i + 1 : Nat) : Int)) ∧ ∃ us, H' D = some (.lst us) ∧ Paired (SWat H') us ((((allW i).take j).flatMap fun w => withB w ((i + 1 : Nat) : Int)) ++ (withB way ((i + 1 : Nat) : Int)).take k)) ⟨s2.trans s4, h4, py, ws, s4 _ _ h2, by rw [List.take_zero, List.append_nil]; exact par_imp (fun _ _ z => z.same s4) pw⟩ (fun k H' _ q => SqL.of q.2.1) ?_ ?_
        · rintro k y H5 H6 hk ⟨s5, h5, py5, us, hD5, pw5⟩ ⟨rfl, hy⟩
          obtain ⟨u, hu, ru⟩ := par_get py5 hy
          refine ⟨rfl, _, rfl, us, hD5, ?_, s5.mut hD, by rw [upd_ne mD]; exact h5, par_imp (fun _ _ z => z.mut hD5) py5, _, upd_same, ?_⟩
          · rw [par_len pw5, List.length_append, List.length_take]
            exact sm (by omega)
          · rw [← take_snoc hu, ← List.append_assoc]
            exact par_app (par_imp (fun _ _ z => z.mut hD5) pw5) (.cons (ru.mut hD5) .nil)
        · rintro H5 ⟨s5, h5, py5, us, hD5, pw5⟩
          refine ⟨s5, us, hD5, ?_⟩
          have eh : ys.length = (withB way ((i + 1 : Nat) : Int)).length := par_len py5
          rw [eh, List.take_length] at pw5
          rw [← take_snoc hway, List.flatMap_append]
          simpa using pw5
      · rintro H2 ⟨s2, ws, h2, pw⟩
        rw [par_len px, List.take_length] at pw
        exact ⟨D, ws, _, rfl, s1.trans s2, hD0, h2, pw⟩
    · rintro σ H1 ⟨l, xs, z, rfl, s1, nl, h1, px⟩
      rw [show (((n + 1 : Nat) : Int) - 1).toNat = n by omega] at px
      exact ⟨_, rfl, q l xs H1 s1 nl h1 px⟩
end
end K
namespace K
open PySem L2 Rg
open Evl (pss_cut)
section
variable {P : Program} {w : World} {K : PySem.W.Frag} {mg : Str → Option Value} {base : Heap}
/-! ### fixed, of a pair, of a strand -/
def spFx1 : Sp := fun vs H Q _ => ∃ (v : V) (q : Int × Int), vs = [v] ∧ SPat H v q ∧ ∀ v' H', Same H H' → SPat H' v' q → Q v' H'
def spFx2 : Sp := fun vs H Q _ => ∃ (v : V) (st : Strd), vs = [v] ∧ SSat H v st ∧ st.length ≤ 8 ∧ ∀ v' H', Same H H' → SSat H' v' st → Q v' H'
abbrev nFx : List Str := ["value", "one"]
theorem scFx : FnScope nFx ["value"] (defScope sFixed) := ⟨rfl, rfl, rfl, by decide +kernel, rfl, by decide +kernel, by decide +kernel⟩
theorem ok_fx1 {f : Addr} {fd : FuncData} (F : Fun K "fixed" "fixed" sFixed f fd) (T : Bi mg) (FX : DefAt P w K mg base CX0 1 "fixed" ["value"] spFixed f fd) : FnOk P w K mg base CX0 2 f fd ["value"] spFx1 := by
  refine F.ok scFx (fun vs H Q E h => ?_) (fun cdv A outer s H vs Q E hr h => ?_)
  · obtain ⟨v, q, rfl, _⟩ := h
    rfl
  · have nd := scFx.nd
    refine ⟨_, pss_cons (ps_if (pt_val (pe_callB call_isiT (by rfl) T.isinstance (by decide +kernel) (pa_cons (pv 0) (pa_cons (pe_tup (pa_cons (pe_bltn (v := .ty "list") (u := .type "list") (by rfl) T.list (by decide +kernel) rfl) (pa_cons (pe_bltn (v := .ty "tuple") (u := .type "tuple") (by rfl) T.tuple (by decide +kernel) rfl) pa_nil))) pa_nil))))
        (pss_one (ps_ret (pe_callTy call_tuple_of (by rfl) T.tuple (by decide +kernel) (pa_cons (pe_lc (own := [("one", 1)]) (g := gName 1) (tt := tYes) rfl nd (pi_tup (pv 0)) (blkOk_by (N := nFx) (sc := defScope sFixed) (by decide +kernel)) (fun _ _ _ _ _ => pg_name (i := 1) nd rfl (Or.inl rfl)) (fun _ _ _ _ _ => pts_nil) (fun _ _ _ _ _ => pe_call FX.ok (hr.mono (by decide)) rfl FX.g FX.kp FX.b .nil pass0 (pa_cons (pv 1) pa_nil))) pa_nil)))) pss_nil)
      (pss_one ps_never), ?_⟩
    obtain ⟨v, q, rfl, ⟨a, rfl, ha⟩, k⟩ := h
    refine ⟨_, rfl, (by show 2 ≤ sizeLine; decide), fun p hp => ?_⟩
    have s1 : Same H (upd H p (.tup [.ty "list", .ty "tuple"])) := (Same.refl H).new hp
    refine ⟨.ref a, p, [.ty "list", .ty "tuple"], .type "tuple", _, true, rfl, upd_same, .cons (.ty _) (.cons (.ty _) .nil), .base (.tup (s1 _ _ ha)), kitAny_cons (b := false) (r := true) (kit_ty (kit_list "tuple" (by decide))) (fun e => kitAny_cons (b := true) (r := true) (kit_ty (kit_tuple "tuple" (by decide))) (fun e' => nomatch e') fun _ => rfl) (fun e => nomatch e), _, rfl, iteT ?_⟩
    generalize upd H p (.tup [.ty "list", .ty "tuple"]) = H1 at s1 ⊢
    have ha1 := s1 _ _ ha
    refine ⟨_, rfl, a, rfl, ⟨_, .inl (.inl ha1)⟩, fun D hD => ?_⟩
    refine lc_tup (K := K) (a := a) (xs := ([q.1, q.2] : List Int).map V.int) (fun j H' => Same H1 H' ∧ H' D = some (.lst ((([q.1, q.2] : List Int).take j).map V.int))) ⟨(Same.refl H1).new hD, upd_same⟩ (fun j H' _ r => .inl (.inl (r.1 _ _ ha1))) ?_ ?_
    · rintro j y H' hj ⟨s2, h2⟩
      obtain ⟨z, hz, rfl⟩ := int_at hj
      have hjl : j < 2 := (List.getElem?_eq_some_iff.mp hz).1
      refine ⟨rfl, _, rfl, z, rfl, fun H3 s3 => ⟨_, s3 _ _ h2, ?_, (s2.trans s3).mut hD, ?_⟩⟩
      · rw [List.length_map, List.length_take]
        exact sm (by omega)
      · rw [upd_same, ← take_snoc hz, List.map_append]
        rfl
    rintro H2 ⟨s2, h2⟩
    refine ⟨D, _, rfl, .inl ⟨SqL.of h2, fun t nt => ?_⟩⟩
    have s3 := (s1.trans s2).new nt (o := .tup ((([q.1, q.2] : List Int).take (([q.1, q.2] : List Int).map V.int).length).map V.int))
    exact k _ _ s3 ⟨t, rfl, upd_same⟩
theorem ok_fx2 {f : Addr} {fd : FuncData} (F : Fun K "fixed" "fixed" sFixed f fd) (T : Bi mg) (FX : DefAt P w K mg base CX0 2 "fixed" ["value"] spFx1 f fd) : FnOk P w K mg base CX0 3 f fd ["value"] spFx2 := by
  refine F.ok scFx (fun vs H Q E h => ?_) (fun cdv A outer s H vs Q E hr h => ?_)
  · obtain ⟨v, q, rfl, _⟩ := h
    rfl
  · have nd := scFx.nd
    refine ⟨_, pss_cons (ps_if (pt_val (pe_callB call_isiT (by rfl) T.isinstance (by decide +kernel) (pa_cons (pv 0) (pa_cons (pe_tup (pa_cons (pe_bltn (v := .ty "list") (u := .type "list") (by rfl) T.list (by decide +kernel) rfl) (pa_cons (pe_bltn (v := .ty "tuple") (u := .type "tuple") (by rfl) T.tuple (by decide +kernel) rfl) pa_nil))) pa_nil))))
        (pss_one (ps_ret (pe_callTy call_tuple_of (by rfl) T.tuple (by decide +kernel) (pa_cons (pe_lc (own := [("one", 1)]) (g := gName 1) (tt := tYes) rfl nd (pi_tup (pv 0)) (blkOk_by (N := nFx) (sc := defScope sFixed) (by decide +kernel)) (fun _ _ _ _ _ => pg_name (i := 1) nd rfl (Or.inl rfl)) (fun _ _ _ _ _ => pts_nil) (fun _ _ _ _ _ => pe_call FX.ok (hr.mono (by decide)) rfl FX.g FX.kp FX.b .nil pass0 (pa_cons (pv 1) pa_nil))) pa_nil)))) pss_nil)
      (pss_one ps_never), ?_⟩
    obtain ⟨v, st, rfl, ⟨a, xs, rfl, ha, px⟩, l8, k⟩ := h
    refine ⟨_, rfl, (by show 2 ≤ sizeLine; decide), fun p hp => ?_⟩
    have s1 : Same H (upd H p (.tup [.ty "list", .ty "tuple"])) := (Same.refl H).new hp
    refine ⟨.ref a, p, [.ty "list", .ty "tuple"], .type "tuple", _, true, rfl, upd_same, .cons (.ty _) (.cons (.ty _) .nil), .base (.tup (s1 _ _ ha)), kitAny_cons (b := false) (r := true) (kit_ty (kit_list "tuple" (by decide))) (fun e => kitAny_cons (b := true) (r := true) (kit_ty (kit_tuple "tuple" (by decide))) (fun e' => nomatch e') fun _ => rfl) (fun e => nomatch e), _, rfl, iteT ?_⟩
    generalize upd H p (.tup [.ty "list", .ty "tuple"]) = H1 at s1 ⊢
    have ha1 := s1 _ _ ha
    refine ⟨_, rfl, a, rfl, ⟨_, .inl (.inl ha1)⟩, fun D hD => ?_⟩
    refine lc_tup (K := K) (a := a) (xs := xs) (fun j H' => Same H1 H' ∧ ∃ us, H' D = some (.lst us) ∧ Paired (SPat H') us (st.take j)) ⟨(Same.refl H1).new hD, [], upd_same, .nil⟩ (fun j H' _ r => .inl (.inl (r.1 _ _ ha1))) ?_ ?_
    · rintro j y H' hj ⟨s2, us, h2, pu⟩
      obtain ⟨q, hq, rq⟩ := par_get px hj
      refine ⟨rfl, _, rfl, y, q, rfl, rq.same (s1.trans s2), fun v' H3 s3 sp => ⟨us, s3 _ _ h2, ?_, (s2.trans s3).mut hD, _, upd_same, ?_⟩⟩
      · rw [par_len pu, List.length_take]
        exact sm (by omega)
      · rw [← take_snoc hq]
        exact par_app (par_imp (fun _ _ z => (z.same s3).mut (s3 _ _ h2)) pu) (.cons (sp.mut (s3 _ _ h2)) .nil)
    rintro H2 ⟨s2, us, h2, pu⟩
    rw [par_len px, List.take_length] at pu
    refine ⟨D, _, rfl, .inl ⟨SqL.of h2, fun t nt => ?_⟩⟩
    have s3 := (s1.trans s2).new nt (o := .tup us)
    exact k _ _ s3 ⟨t, us, rfl, upd_same, par_imp (fun _ _ z => z.same ((Same.refl H2).new nt)) pu⟩
/-! ### is_strand -/
def goodS (st : Strd) : Prop := st ≠ [] ∧ st.length ≤ 8 ∧ ∀ q ∈ st, q.2 = 1 ∨ q.2 = -1
def spIS (K : PySem.W.Frag) : Sp := fun vs H Q _ => ∃ (v : V) (st : Strd), vs = [v] ∧ SSat H v st ∧ goodS st ∧ ∀ H', Same H H' → Q (.bl true) H'
abbrev nIS : List Str := ["value", "pair"]
theorem scIS : FnScope nIS ["value"] (defScope sIsStrand) := ⟨rfl, rfl, rfl, by decide +kernel, rfl, by decide +kernel, by decide +kernel⟩
theorem ok_is {f fL fN : Addr} {fd fdL fdN : FuncData} (F : Fun K "is_strand" "is_strand" sIsStrand f fd) (T : Bi mg) (L : DefAt P w K mg base CX0 1 "is_list" ["value"] (spIsList K) fL fdL) (NT : DefAt P w K mg base CX0 2 "is_numbers" ["value"] (spNumsT K) fN fdN) : FnOk P w K mg base CX0 3 f fd ["value"] (spIS K) := by
  refine F.ok scIS (fun vs H Q E h => ?_) (fun cdv A outer s H vs Q E hr h => ?_)
  · obtain ⟨v, q, rfl, _⟩ := h
    rfl
  · have nd := scIS.nd
    refine ⟨_, pss_cons (ps_if (PW.pt (pw_or (pt_not (pt_val (pe_call L.ok (hr.mono (by decide)) rfl L.g L.kp L.b .nil pass0 (pa_cons (pv 0) pa_nil)))) (pw_or1 (pt_cmpR op_eq (pe_callB call_len_seq (by rfl) T.len PySem.boot_len (pa_cons (pv 0) pa_nil)) pe_int (nomark _))))) (pss_one ps_never) pss_nil)
      (pss_one (ps_ret (pe_callB (cr_all rfl) (by rfl) T.all (by decide +kernel) (pa_cons (pe_lc (own := [("pair", 1)]) (g := gName 1) (tt := tYes) (te := tAndV (tCall (spNumsT K) [] E0 (tCons (tVar 1) tNil)) (tAndV (tOp rEq (tCB (rLenS K) (tCons (tVar 1) tNil)) (tC (.int 2))) (tOp (rIn K false) (tOp (rIxT K) (tVar 1) (tC (.int 1))) (tTup (tCons (tC (.int 1)) (tCons (tUn (rU fun i => .int (-i)) (tC (.int 1))) tNil)))))) rfl nd (pi_tup (pv 0))
        (blkOk_by (N := nIS) (sc := defScope sIsStrand) (by decide +kernel)) (fun _ _ _ _ _ => pg_name (i := 1) nd rfl (Or.inl rfl)) (fun _ _ _ _ _ => pts_nil)
        (fun _ _ _ _ _ => pe_and (pe_call NT.ok hr rfl NT.g NT.kp NT.b .nil pass0 (pa_cons (pv 1) pa_nil)) (pe_and (pe_cmpR op_eq (pe_callB (r := rLenS K) call_len_seq (by rfl) T.len PySem.boot_len (pa_cons (pv 1) pa_nil)) pe_int (nomark _)) (pe_one (pe_cmpR op_in_seq (pe_ix (r := rIxT K) ix_tup (pv 1) pe_int (fun _ _ => rfl)) (pe_tup (pa_cons pe_int (pa_cons (pe_un un_neg pe_int) pa_nil))) (by rfl)))))) pa_nil)))), ?_⟩
    obtain ⟨v, st, rfl, ⟨a, xs, rfl, ha, px⟩, ⟨ne, l8, sg⟩, k⟩ := h
    refine ⟨_, rfl, _, "tuple", rfl, ⟨.base (.tup ha), by decide⟩, fun H1 s1 => ⟨_, rfl, iteF ?_⟩⟩
    have ha1 := s1 _ _ ha
    have xl : xs.length = st.length := par_len px
    have x0 : xs.length ≠ 0 := fun z => ne (List.eq_nil_of_length_eq_zero (by omega))
    refine ⟨_, rfl, a, _, rfl, .inr (.inl (.inl ha1)), rfl, _, rfl, ?_⟩
    rw [dec_int, decide_eq_false (show ¬ ((xs.length : Int) = 0) by omega)]
    refine iteF ?_
    refine ⟨_, rfl, a, rfl, ⟨_, .inl (.inl ha1)⟩, fun D hD => ?_⟩
    refine lc_tup (K := K) (a := a) (xs := xs) (fun j H' => Same H1 H' ∧ ∃ bs : List Bool, (∀ b ∈ bs, b = true) ∧ bs.length ≤ j ∧ H' D = some (.lst (bs.map V.bl))) ⟨(Same.refl H1).new hD, [], (fun b hb => nomatch hb), Nat.le_refl _, upd_same⟩ (fun j H' _ r => .inl (.inl (r.1 _ _ ha1))) ?_ ?_
    · rintro j y H' hj ⟨s2, bs, b1, b2, h2⟩
      have hjl : j < xs.length := (List.getElem?_eq_some_iff.mp hj).1
      obtain ⟨q, hq, b, rfl, hb⟩ := par_get px hj
      have hb2 := s2 _ _ (s1 _ _ hb)
      refine ⟨rfl, _, rfl, b, [.int q.1, .int q.2], fun _ => "int", rfl, ⟨.base (.tup hb2), by decide⟩, .inl (.inl hb2), (by show 2 ≤ 1000; decide), fun x hx => ?_, fun H3 s3 => ⟨_, rfl, ?_⟩⟩
      · rcases List.mem_cons.mp hx with rfl | hx
        · exact Knd.int
        · rw [List.mem_singleton.mp hx]
          exact Knd.int
      have hb3 := s3 _ _ hb2
      have h3 := s3 _ _ h2
      refine iteBT (by simp) ⟨_, rfl, b, _, rfl, .inr (.inl (.inl hb3)), rfl, _, rfl, ?_⟩
      refine iteBT (by simp) ⟨_, rfl, b, _, _, _, rfl, rfl, .inl (.inl hb3), (rfl : atI [V.int q.1, V.int q.2] 1 = some (.int q.2)), 1, rfl, (by show 2 ≤ sizeLine; decide), fun c nc => ?_⟩
      have s4 : Same H3 (upd H3 c (.tup [.int 1, .int (-1)])) := (Same.refl H3).new nc
      refine ⟨c, ([1, -1] : List Int).map V.int, rfl, .inr (.inl (.inl upd_same)), rfl, flat_ints [1, -1], _, s4 _ _ h3, ?_, ((s2.trans s3).trans s4).mut hD, bs ++ [true], fun z hz => ?_, by rw [List.length_append]; exact Nat.succ_le_succ b2, ?_⟩
      · rw [List.length_map]
        exact sm (by omega)
      · rcases List.mem_append.mp hz with m | m
        · exact b1 z m
        · exact List.mem_singleton.mp m
      · have iv : inV (.int q.2) (([1, -1] : List Int).map V.int) = true := by
          rcases sg q (List.mem_of_getElem? hq) with e | e <;> rw [e] <;> decide
        rw [upd_same, List.map_append]
        show some (HO.lst (bs.map V.bl ++ [V.bl (inV (.int q.2) (([1, -1] : List Int).map V.int))])) = _
        rw [iv]
        rfl
    rintro H2 ⟨s2, bs, b1, b2, h2⟩
    refine ⟨D, bs, rfl, SqL.of h2, ?_⟩
    rw [all_true b1]
    exact k H2 (s1.trans s2)
end
end K
namespace K
open PySem L2 Rg
open Evl (pss_cut)
theorem rises_pw : ∀ l : List Int, risesB l = true → l.Pairwise (· < ·)
  | [], _ => .nil
  | [a], _ => List.pairwise_singleton _ _
  | a :: b :: r, h => by
    unfold risesB at h
    rw [Bool.and_eq_true, decide_eq_true_eq] at h
    have ih := rises_pw (b :: r) h.2
    refine List.pairwise_cons.mpr ⟨fun y hy => ?_, ih⟩
    rcases List.mem_cons.mp hy with rfl | hy
    · exact h.1
    · have := (List.pairwise_cons.mp ih).1 y hy
      omega
/-- what a pair holds -/
def pk (H : Hp) (x : V) : Int × Int := match x with
  | .ref a => (match H a with
    | some (.tup [.int i, .int j]) => (i, j)
    | _ => (0, 0))
  | _ => (0, 0)
theorem pk_at {H : Hp} {v : V} {q : Int × Int} (h : SPat H v q) : pk H v = q := by
  obtain ⟨a, rfl, h⟩ := h
  show (match H a with
    | some (.tup [.int i, .int j]) => (i, j)
    | _ => ((0 : Int), (0 : Int))) = q
  rw [h]
theorem pk_map {H : Hp} : ∀ {xs : List V} {st : Strd}, Paired (SPat H) xs st → xs.map (pk H) = st
  | _, _, .nil => rfl
  | _, _, .cons h t => by rw [List.map_cons, pk_at h, pk_map t]
theorem par_mem {α β : Type} {R : α → β → Prop} : ∀ {xs : List α} {ys : List β}, Paired R xs ys → ∀ {x : α}, x ∈ xs → ∃ y ∈ ys, R x y
  | _, _, .cons h t, x, e => by
    rcases List.mem_cons.mp e with rfl | e
    · exact ⟨_, List.mem_cons_self .., h⟩
    · obtain ⟨y, hy, r⟩ := par_mem t e
      exact ⟨y, List.mem_cons_of_mem _ hy, r⟩
/-- a strand as it is kept: its bars rise, its first sign is 1 -/
def keptS (st : Strd) : Prop := goodS st ∧ (st.map (·.1)).Pairwise (· < ·) ∧ ∃ b r, st = (b, 1) :: r
section
variable {P : Program} {w : World} {K : PySem.W.Frag} {mg : Str → Option Value} {base : Heap}
/-! ### as_strand -/
def spAsS : Sp := fun vs H Q _ => ∃ (v : V) (st : Strd), vs = [v] ∧ SSat H v st ∧ keptS st ∧ ∀ v' H', Same H H' → SSat H' v' st → Q v' H'
abbrev nAsS : List Str := ["pairs", "rows", "bar", "sign"]
theorem scAsS : FnScope nAsS ["pairs"] (defScope sAsStrand) := ⟨rfl, rfl, rfl, by decide +kernel, rfl, by decide +kernel, by decide +kernel⟩
theorem ok_asS {f : Addr} {fd : FuncData} (F : Fun K "as_strand" "as_strand" sAsStrand f fd) (T : Bi mg) : FnOk P w K mg base CX0 1 f fd ["pairs"] spAsS := by
  refine F.ok scAsS (fun vs H Q E h => ?_) (fun cdv A outer s H vs Q E hr h => ?_)
  · obtain ⟨v, st, rfl, _⟩ := h
    rfl
  · have nd := scAsS.nd
    refine ⟨_, pss_cons (ps_set (i := 1) nd rfl (Or.inr rfl) (pe_callB cr_sortedTP (by rfl) T.sorted (by decide +kernel) (pa_cons (pv 0) pa_nil)))
      (pss_one (ps_ret (pe_callTy call_tuple_of (by rfl) T.tuple (by decide +kernel) (pa_cons (pe_lc (own := [("bar", 2), ("sign", 3)]) (g := gTup K 2 (gCons (gName 2) (gCons (gName 3) gNil))) (tt := tYes) (te := tTup (tCons (tVar 2) (tCons (tOp (rI CMul fun i j => .int (i * j)) (tVar 3) (tOp (rIxT K) (tOp (rIxL K) (tVar 1) (tC (.int 0))) (tC (.int 1)))) tNil))) rfl nd (pi_list (pv 1))
        (blkOk_by (N := nAsS) (sc := defScope sAsStrand) (by decide +kernel)) (fun _ _ _ _ _ => pg_tup rfl (pgs_cons (pg_name (i := 2) nd rfl (Or.inl rfl)) (pgs_cons (pg_name (i := 3) nd rfl (Or.inl rfl)) pgs_nil))) (fun _ _ _ _ _ => pts_nil)
        (fun _ _ _ _ _ => pe_tup (pa_cons (pv 2) (pa_cons (pe_op op_mul (pv 3) (pe_ix (r := rIxT K) ix_tup (pe_ix (r := rIxL K) ix_list (pv 1) pe_int (fun _ _ => rfl)) pe_int (fun _ _ => rfl))) pa_nil)))) pa_nil)))), ?_⟩
    obtain ⟨v, st, rfl, ⟨a, xs, rfl, ha, px⟩, ⟨⟨ne, l8, sg⟩, asc, b0, r0, e0⟩, k⟩ := h
    have pairs : ∀ y ∈ xs, ∃ t, y = V.ref t ∧ H t = some (.tup [.int (pk H y).1, .int (pk H y).2]) := fun y hy => by
      obtain ⟨q, _, h⟩ := par_mem px hy
      rw [pk_at h]
      exact h
    refine ⟨_, rfl, a, xs, pk H, rfl, .inl (.inl ha), pairs, fun zs p srt stb hp => ?_⟩
    have own : SrtO.Srtd (ltP (pk H)) xs := by
      have z : (xs.map (pk H)).Pairwise fun x y => SrtO.lexB y x = false := by
        rw [pk_map px]
        refine (List.pairwise_map.mp asc).imp fun {x y} h => SrtO.lexB_no.mpr ?_
        omega
      exact List.pairwise_map.mp z
    obtain rfl := SrtO.stb_uniq (ltP_swo (pk H)) srt own stb
    have s1 : Same H (upd H p (.lst zs)) := (Same.refl H).new hp
    have hp1 : upd H p (.lst zs) p = some (.lst zs) := upd_same
    generalize upd H p (.lst zs) = H1 at s1 hp1 ⊢
    have zl : zs.length = st.length := par_len px
    refine ⟨_, rfl, p, rfl, ⟨_, SqL.of hp1⟩, fun D hD => ?_⟩
    refine lc_list (K := K) (a := p) (xs := zs) (fun j H' => Same H1 H' ∧ ∃ us, H' D = some (.lst us) ∧ Paired (SPat H') us (st.take j)) ⟨(Same.refl H1).new hD, [], upd_same, .nil⟩ (fun j H' _ r => r.1.seq (SqL.of hp1)) ?_ ?_
    · rintro j y H' hj ⟨s2, us, h2, pu⟩
      have hjl : j < zs.length := (List.getElem?_eq_some_iff.mp hj).1
      obtain ⟨q, hq, b, rfl, hb⟩ := par_get px hj
      have s12 := s1.trans s2
      -- the first pair
      obtain ⟨y0, hy0⟩ : ∃ y0, zs[0]? = some y0 := ⟨_, List.getElem?_eq_getElem (by omega)⟩
      obtain ⟨q0, hq0, c, rfl, hc⟩ := par_get px hy0
      have eq0 : q0 = (b0, 1) := by
        rw [e0] at hq0
        exact (Option.some.inj hq0).symm
      subst eq0
      refine ⟨b, _, rfl, .inl (.inl (s12 _ _ hb)), rfl, ⟨_, _, rfl, _, _, rfl, rfl, rfl, _, rfl, _, rfl, _, rfl, p, _, _, _, rfl, rfl, SqL.of (s2 _ _ hp1), at_of (j := 0) rfl hy0, c, _, _, _, rfl, rfl, .inl (.inl (s12 _ _ hc)), (rfl : atI [V.int b0, V.int 1] 1 = some (.int 1)), _, _, rfl, rfl, .inr ⟨by decide, by decide⟩, (by show 2 ≤ sizeLine; decide), fun t nt => ⟨us, ?_, ?_, (s2.new nt).mut hD, _, upd_same, ?_⟩⟩⟩
      · rw [upd_ne (ne_of_none h2 nt)]
        exact h2
      · rw [par_len pu, List.length_take]
        exact sm (by omega)
      · have h2t : upd H' t (.tup [.int q.1, .int (q.2 * 1)]) D = some (.lst us) := by
          rw [upd_ne (ne_of_none h2 nt)]
          exact h2
        have sp : SPat (upd H' t (.tup [.int q.1, .int (q.2 * 1)])) (.ref t) q := ⟨t, rfl, by rw [upd_same, Int.mul_one]⟩
        rw [← take_snoc hq]
        exact par_app (par_imp (fun _ _ z => (z.same ((Same.refl H').new nt)).mut h2t) pu) (.cons (sp.mut h2t) .nil)
    rintro H2 ⟨s2, us, h2, pu⟩
    rw [zl, List.take_length] at pu
    refine ⟨D, _, rfl, .inl ⟨SqL.of h2, fun t nt => ?_⟩⟩
    exact k _ _ ((s1.trans s2).new nt) ⟨t, us, rfl, upd_same, par_imp (fun _ _ z => z.same ((Same.refl H2).new nt)) pu⟩
end
end K
namespace K
open PySem L2 Rg
open Evl (pss_cut)
theorem sorted_eqI {a b : List Int} (p : a.Perm b) (ha : a.Pairwise (· ≤ ·)) (hb : b.Pairwise (· ≤ ·)) : a = b := List.Perm.eq_of_pairwise (fun x y _ _ h1 h2 => Int.le_antisymm h1 h2) ha hb p
def rngI (n : Nat) : List Int := (List.range n).map fun j : Nat => (j : Int)
theorem rngI_sorted (n : Nat) : (rngI n).Pairwise (· ≤ ·) := by
  refine List.pairwise_map.mpr (List.Pairwise.imp (fun {a b} h => ?_) List.pairwise_lt_range)
  omega
theorem rngI_len (n : Nat) : (rngI n).length = n := by unfold rngI; rw [List.length_map, List.length_range]
theorem rgV_rngI (n : Nat) : rgV 0 (n : Int) = (rngI n).map V.int := by
  unfold rgV rngI
  rw [List.map_map, Int.sub_zero, Int.toNat_natCast]
  refine List.map_congr_left fun j _ => ?_
  show V.int (0 + (j : Int)) = V.int (j : Int)
  rw [Int.zero_add]
def flatB (way : List Strd) : List Int := way.flatMap fun st => st.map (·.1)
structure goodW (n : Nat) (way : List Strd) : Prop where
  st : ∀ s ∈ way, keptS s
  ln : way.length ≤ 8
  pm : (flatB way).Perm (rngI n)
section
variable {P : Program} {w : World} {K : PySem.W.Frag} {mg : Str → Option Value} {base : Heap}
/-! ### are_strands -/
def spAre (K : PySem.W.Frag) : Sp := fun vs H Q _ => ∃ (v : V) (way : List Strd) (n : Nat), vs = [v] ∧ SWat H v way ∧ goodW n way ∧ 3 ≤ n ∧ n ≤ 8 ∧ ∀ H', Same H H' → Q (.bl true) H'
abbrev nAre : List Str := ["value", "bars", "strand", "pair"]
theorem scAre : FnScope nAre ["value"] (defScope sAreStrands) := ⟨rfl, rfl, rfl, by decide +kernel, rfl, by decide +kernel, by decide +kernel⟩
theorem ok_are {f fL fS : Addr} {fd fdL fdS : FuncData} (F : Fun K "are_strands" "are_strands" sAreStrands f fd) (T : Bi mg) (N : Nm mg) (L : DefAt P w K mg base CX0 1 "is_list" ["value"] (spIsList K) fL fdL) (IS : DefAt P w K mg base CX0 3 "is_strand" ["value"] (spIS K) fS fdS) : FnOk P w K mg base CX0 4 f fd ["value"] (spAre K) := by
  refine F.ok scAre (fun vs H Q E h => ?_) (fun cdv A outer s H vs Q E hr h => ?_)
  · obtain ⟨v, way, n, rfl, _⟩ := h
    rfl
  · have nd := scAre.nd
    obtain ⟨t3, h3⟩ := N.leastB
    obtain ⟨t8, h8⟩ := N.mostB
    refine ⟨_, pss_cons (ps_if (PW.pt (pw_or (pt_not (pt_val (pe_call L.ok (hr.mono (by decide)) rfl L.g L.kp L.b .nil pass0 (pa_cons (pv 0) pa_nil)))) (pw_or1 (pt_not (pt_val (pe_callB (cr_all rfl) (by rfl) T.all (by decide +kernel) (pa_cons (pe_lc (own := [("strand", 2)]) (g := gName 2) (tt := tYes) rfl nd (pi_tup (pv 0))
          (blkOk_by (N := nAre) (sc := defScope sAreStrands) (by decide +kernel)) (fun _ _ _ _ _ => pg_name (i := 2) nd rfl (Or.inl rfl)) (fun _ _ _ _ _ => pts_nil) (fun _ _ _ _ _ => pe_call IS.ok hr rfl IS.g IS.kp IS.b .nil pass0 (pa_cons (pv 2) pa_nil))) pa_nil))))))) (pss_one ps_never) pss_nil)
      (pss_cons (ps_set (i := 1) nd rfl (Or.inl rfl) (pe_callB cr_sortedI (by rfl) T.sorted (by decide +kernel) (pa_cons (pe_lc2 (own := [("strand", 2), ("pair", 3)]) (vs1 := [3]) (g := gName 2) (g1 := gName 3) (tt := tYes) (tt1 := tYes) (wi1 := iTup K (tVar 2)) (te := tOp (rIxT K) (tVar 3) (tC (.int 0))) rfl nd (pi_tup (pv 0)) (blkOk_by (N := nAre) (sc := defScope sAreStrands) (by decide +kernel)) (by decide)
          (fun _ _ _ _ _ => pg_name (i := 2) nd rfl (Or.inl rfl)) (fun _ _ _ _ _ => pts_nil) (fun _ _ _ _ _ => pi_tup (pv 2)) (fun _ _ _ _ _ => pg_name (i := 3) nd rfl (Or.inl rfl)) (fun _ _ _ _ _ => pts_nil) (fun _ _ _ _ _ => pe_ix (r := rIxT K) ix_tup (pv 3) pe_int (fun _ _ => rfl))) pa_nil)))
      (pss_one (ps_ret (pe_and (pe_chain op_le op_le (pe_glob (v := .int 3) rfl h3 ⟨_, rfl⟩) (pe_callB call_len_seq (by rfl) T.len PySem.boot_len (pa_cons (pv 1) pa_nil)) (pe_glob (v := .int 8) rfl h8 ⟨_, rfl⟩)) (pe_one (pe_cmpR (op_eqD hr.units) (pv 1) (pe_listRg rfl (by rfl) T.list (prg_1 (by rfl) T.range (pe_callB call_len_seq (by rfl) T.len PySem.boot_len (pa_cons (pv 1) pa_nil)))) (nomark _))))))), ?_⟩
    obtain ⟨v, way, n, rfl, ⟨a, xs, rfl, ha, px⟩, gw, n3, n8, k⟩ := h
    refine ⟨_, rfl, _, "tuple", rfl, ⟨.base (.tup ha), by decide⟩, fun H1 s1 => ⟨_, rfl, iteF ?_⟩⟩
    have ha1 := s1 _ _ ha
    have xl : xs.length = way.length := par_len px
    have x8 := gw.ln
    refine ⟨_, rfl, a, rfl, ⟨_, .inl (.inl ha1)⟩, fun D hD => ?_⟩
    refine lc_tup (K := K) (a := a) (xs := xs) (fun j H' => Same H1 H' ∧ ∃ bs : List Bool, (∀ b ∈ bs, b = true) ∧ bs.length ≤ j ∧ H' D = some (.lst (bs.map V.bl))) ⟨(Same.refl H1).new hD, [], (fun b hb => nomatch hb), Nat.le_refl _, upd_same⟩ (fun j H' _ r => .inl (.inl (r.1 _ _ ha1))) ?_ ?_
    · rintro j y H' hj ⟨s2, bs, b1, b2, h2⟩
      have hjl : j < xs.length := (List.getElem?_eq_some_iff.mp hj).1
      obtain ⟨st, hst, rs⟩ := par_get px hj
      refine ⟨rfl, _, rfl, y, st, rfl, rs.same (s1.trans s2), (gw.st st (List.mem_of_getElem? hst)).1, fun H3 s3 => ⟨_, s3 _ _ h2, ?_, (s2.trans s3).mut hD, bs ++ [true], fun z hz => ?_, by rw [List.length_append]; exact Nat.succ_le_succ b2, ?_⟩⟩
      · rw [List.length_map]
        exact sm (by omega)
      · rcases List.mem_append.mp hz with m | m
        · exact b1 z m
        · exact List.mem_singleton.mp m
      · rw [upd_same, List.map_append]
        rfl
    rintro H2 ⟨s2, bs, b1, b2, h2⟩
    refine ⟨D, bs, rfl, SqL.of h2, ?_⟩
    rw [all_true b1]
    refine ⟨_, rfl, iteF ?_⟩
    have s02 := s1.trans s2
    have ha2 := s02 _ _ ha
    -- the bars
    have fl : ∀ j, (flatB (way.take j)).length ≤ 64 := fun j => by
      have e : flatB way = flatB (way.take j) ++ flatB (way.drop j) := by
        unfold flatB
        rw [← List.flatMap_append, List.take_append_drop]
      have l := gw.pm.length_eq
      rw [e, List.length_append, rngI_len] at l
      omega
    refine ⟨_, rfl, a, rfl, ⟨_, .inl (.inl ha2)⟩, fun D3 hD3 => ?_⟩
    refine walk_any walk_tup (fun j H' => Same H2 H' ∧ H' D3 = some (.lst ((flatB (way.take j)).map V.int))) ⟨(Same.refl H2).new hD3, upd_same⟩ (fun j H' _ q => .inl (.inl (q.1 _ _ ha2))) ?_ ?_
    · rintro j x H' H'' hj ⟨s3, h3'⟩ ⟨rfl, hx⟩
      obtain ⟨st, hst, sa, ys, rfl, hsa, py⟩ := par_get px hx
      have hsa3 := s3 _ _ (s02 _ _ hsa)
      have st8 := (gw.st st (List.mem_of_getElem? hst)).1.2.1
      have fj := fl j
      refine ⟨rfl, _, rfl, sa, rfl, ⟨_, .inl (.inl hsa3)⟩, ?_⟩
      refine walk_any walk_tup (fun i H4 => Same H2 H4 ∧ H4 D3 = some (.lst ((flatB (way.take j) ++ (st.take i).map (·.1)).map V.int))) ⟨s3, by rw [List.take_zero, List.map_nil, List.append_nil]; exact h3'⟩ (fun i H4 _ q => .inl (.inl (q.1 _ _ (s02 _ _ hsa)))) ?_ ?_
      · rintro i y H4 H5 hi ⟨s4, h4⟩ ⟨rfl, hy⟩
        obtain ⟨q, hq, b, rfl, hb⟩ := par_get py hy
        have hil : i < st.length := (List.getElem?_eq_some_iff.mp hq).1
        refine ⟨rfl, _, rfl, b, _, _, _, rfl, rfl, .inl (.inl (s4 _ _ (s02 _ _ hb))), (rfl : atI [V.int q.1, V.int q.2] 0 = some (.int q.1)), _, h4, ?_, s4.mut hD3, ?_⟩
        · rw [List.length_map, List.length_append, List.length_map, List.length_take]
          exact sm (by omega)
        · rw [upd_same, ← take_snoc hq, List.map_append, List.map_append, List.map_append, List.map_append]
          simp
      · rintro H4 ⟨s4, h4⟩
        refine ⟨s4, ?_⟩
        rw [par_len py, List.take_length] at h4
        rw [h4, ← take_snoc hst]
        unfold flatB
        rw [List.flatMap_append]
        simp
    rintro H3 ⟨s3, h3'⟩
    rw [xl, List.take_length] at h3'
    refine ⟨D3, _, rfl, SqL.of h3', fun ns p pmN odN np => ?_⟩
    have e : ns = rngI n := sorted_eqI (pmN.trans gw.pm) odN (rngI_sorted n)
    subst e
    have s4 : Same H3 (upd H3 p (.lst ((rngI n).map V.int))) := (Same.refl H3).new np
    have hp : upd H3 p (.lst ((rngI n).map V.int)) p = some (.lst ((rngI n).map V.int)) := upd_same
    generalize upd H3 p (.lst ((rngI n).map V.int)) = H4 at s4 hp ⊢
    refine ⟨_, rfl, p, _, rfl, .inl (SqL.of hp), _, _, rfl, rfl, _, rfl, ?_⟩
    rw [List.length_map, rngI_len]
    refine iteDT (by omega) ⟨_, _, rfl, rfl, _, rfl, ?_⟩
    refine iteDT (by omega) ?_
    refine ⟨_, rfl, _, rfl, p, _, rfl, .inl (SqL.of hp), ?_⟩
    rw [List.length_map, rngI_len]
    refine ⟨_, rfl, RgOk.of_le (by omega) (by omega) (by omega) (by omega), fun r nr => ?_⟩
    rw [rgV_rngI]
    have s5 : Same H4 (upd H4 r (.lst ((rngI n).map V.int))) := (Same.refl H4).new nr
    refine ⟨_, _, .lst (SqL.of (s5 _ _ hp)) (dp_ints _), .lst (SqL.of upd_same) (dp_ints _), shaped_ints _, shaped_ints _, ?_⟩
    rw [eqvA_pd, decide_eq_true rfl]
    exact k _ (((s02.trans s3).trans s4).trans s5)
end
end K
namespace K
open PySem L2 Rg
open Evl (pss_cut)
/-! ### strands in order -/
def pairD (q : Int × Int) : PyData := .tuple [.int q.1, .int q.2]
def strdD (st : Strd) : PyData := .tuple (st.map pairD)
theorem alike_pairs : ∀ a b : Strd, PySem.W.alikeAll (a.map pairD) (b.map pairD) = true
  | [], _ => by simp [PySem.W.alikeAll]
  | _ :: _, [] => by simp [PySem.W.alikeAll]
  | x :: a, y :: b => by
    show PySem.W.alikeAll (pairD x :: a.map pairD) (pairD y :: b.map pairD) = true
    rw [PySem.W.alikeAll, alike_pairs a b]
    simp [PySem.W.alike, PySem.W.alikeAll, pairD]
theorem deep_pairs : ∀ a : Strd, PyData.depthAll (a.map pairD) ≤ 1
  | [] => by simp [PyData.depthAll]
  | x :: a => by
    have ih := deep_pairs a
    rw [List.map_cons]
    simp [PyData.depthAll, PyData.depth, pairD]
    omega
theorem strd_dp {K : PySem.W.Frag} {H : Hp} : ∀ {xs : List V} {st : Strd}, Paired (SPat H) xs st → DpAll K H xs (st.map pairD)
  | _, _, .nil => .nil
  | _, _, .cons ⟨a, e, h⟩ t => .cons (by rw [e]; exact .tup (.inl (.inl h)) (.cons (.int _) (.cons (.int _) .nil))) (strd_dp t)
/-- what a strand holds -/
def sk (H : Hp) (x : V) : Strd := match x with
  | .ref a => (match H a with
    | some (.tup xs) => xs.map (pk H)
    | _ => [])
  | _ => []
theorem sk_at {H : Hp} {v : V} {st : Strd} (h : SSat H v st) : sk H v = st := by
  obtain ⟨a, xs, rfl, h, p⟩ := h
  show (match H a with
    | some (.tup xs) => xs.map (pk H)
    | _ => []) = st
  rw [h]
  exact pk_map p
theorem sk_map {H : Hp} : ∀ {xs : List V} {way : List Strd}, Paired (SSat H) xs way → xs.map (sk H) = way
  | _, _, .nil => rfl
  | _, _, .cons h t => by rw [List.map_cons, sk_at h, sk_map t]
theorem each_strd {X : Cx} {pns : List (Addr × Obj)} {σs : St} {Hh : Hp} {s : Shared} (Iv : L2.Inv X pns σs Hh s) : ∀ {ys : List V} {out : List Value}, Vals ys out → (∀ x ∈ ys, ∃ st, SSat Hh x st) →
    PySem.W.EachIs (fun v b => ∃ as, Reads s.heap v (strdD (sk Hh b)) as) out ys
  | _, _, .nil, _ => .nil
  | y :: ys, u :: out, .cons r t, h => by
    refine .cons ?_ (each_strd Iv t fun x hx => h x (List.mem_cons_of_mem _ hx))
    obtain ⟨st, hs⟩ := h y (List.mem_cons_self ..)
    rw [sk_at hs]
    obtain ⟨a, xs, e, ha, px⟩ := hs
    exact Dp.reads Iv (strdD st) y u (by rw [e]; exact .tup (.inl (.inl ha)) (strd_dp px)) r
def rSortedSS (K : PySem.W.Frag) : List V → Hp → VK → Prop := fun vxs Hh Qq => ∃ (a : Addr) (xs : List V) (way : List Strd), vxs = [.ref a] ∧ SqL K Hh a xs ∧ Paired (SSat Hh) xs way ∧ (∀ st ∈ way, st ≠ []) ∧
  ∀ p ys, ys.Perm xs → Hh p = none → Qq (.ref p) (upd Hh p (.lst ys))
theorem cr_sortedSS {X : Cx} (hu : X.A.units + 64 < cLine) : CallR X (.builtin "sorted") (rSortedSS X.K) := by
  rintro pns s σs Hh vxs uvs Qq Iv rr ⟨a, xs, way, rfl, hs, px, hne, qq⟩
  obtain ⟨its, rv, hl, hsz⟩ := Iv.list hs
  rw [Vals.ref1 rr]
  have each : ∀ x ∈ xs, ∃ st, st ≠ [] ∧ SSat Hh x st := fun x hx => by
    obtain ⟨st, m, h⟩ := par_mem px hx
    exact ⟨st, hne st m, h⟩
  refine PySem.W.sorted_data (β := V) (R := fun u x => RelV x u) (enc := fun x => strdD (sk Hh x)) hl.isList (vals_each rv) (each_strd Iv rv fun x hx => let ⟨st, _, h⟩ := each x hx; ⟨st, h⟩) (PySem.W.AllAlike.of fun b b' => by
    show PySem.W.alike (strdD _) (strdD _) = true
    unfold strdD
    rw [PySem.W.alike]
    exact alike_pairs _ _) (.inl fun d hd => ?_) hsz (fun x _ => ?_) fun out ho heach => ?_
  · obtain ⟨x, hxm, rfl⟩ := List.mem_map.mp hd
    obtain ⟨st, ne, h⟩ := each x hxm
    rw [sk_at h]
    cases st with
    | nil => exact absurd rfl ne
    | cons z zs => exact ⟨pairD z, zs.map pairD, rfl⟩
  · have := deep_pairs (sk Hh x)
    simp only [strdD, PyData.depth]
    omega
  · have hpm : (xs.mergeSort (PySem.W.dataLe false fun x => strdD (sk Hh x))).Perm xs := List.mergeSort_perm ..
    obtain ⟨n, hnn⟩ := PyProof.Rows.sortedAll_at s.heap its out.toArray
    have nf := Iv.hok.fresh (Nat.le_succ s.heap.objs.size)
    exact ⟨.ref _, upd Hh (s.heap.objs.size + 1) (.lst (xs.mergeSort (PySem.W.dataLe false fun x => strdD (sk Hh x)))), Iv.laid (t' := s.toks) (fun _ _ => PyProof.Rows.sortedAll_old) (Nat.le_succ _) ⟨by rw [hpm.length_eq]; exact hsz, out, n, each_vals heach, hnn⟩, rfl, qq _ _ hpm nf⟩
/-- the way in another order -/
theorem par_perm {H : Hp} {xs ys : List V} {way : List Strd} (p : ys.Perm xs) (h : Paired (SSat H) xs way) : ∃ way', way'.Perm way ∧ Paired (SSat H) ys way' := by
  have go : ∀ zs : List V, (∀ z ∈ zs, ∃ st, SSat H z st) → Paired (SSat H) zs (zs.map (sk H)) := by
    intro zs
    induction zs with
    | nil => exact fun _ => .nil
    | cons z zs ih =>
      intro k
      obtain ⟨st, hs⟩ := k z (List.mem_cons_self ..)
      exact .cons (by rw [sk_at hs]; exact hs) (ih fun y hy => k y (List.mem_cons_of_mem _ hy))
  refine ⟨ys.map (sk H), ?_, go ys fun z hz => let ⟨st, _, h⟩ := par_mem h (p.mem_iff.mp hz); ⟨st, h⟩⟩
  rw [← sk_map h]
  exact p.map _
end K
namespace K
open PySem L2 Rg
open Evl (pss_cut)
structure LineC (K : PySem.W.Frag) (mg : Str → Option Value) (C : Addr) : Prop where
  cl : Cls K C
  nS : NoAttr K C "strands"
  nL : NoAttr K C "lots"
  nM : NoAttr K C "many"
  g : mg "LineUp" = some (.ref C)
def rTupOf (K : PySem.W.Frag) : List V → Hp → VK → Prop := fun xs H Q => ∃ p ys, xs = [V.ref p] ∧ ((SqL K H p ys ∧ ∀ l, H l = none → Q (.ref l) (upd H l (.tup ys))) ∨ SqT K H p ys ∧ Q (.ref p) H)
/-- a line-up, of which nothing is known but its strands -/
def LineW (C : Addr) (H : Hp) (r : Addr) (way : List Strd) : Prop := ∃ (dx t : Addr) (fs : List (Str × V)), H r = some (.ins C dx fs) ∧ fs.lookup ("strands" : Str) = some (.ref t) ∧ SWat H (.ref t) way
def LotR (H : Hp) (v : V) (st : Strd) : Prop := ∃ a ys, v = .ref a ∧ H a = some (.tup ys) ∧ ys.length = st.length
theorem LotR.same {H H' : Hp} {v : V} {st : Strd} (h : LotR H v st) (s : Same H H') : LotR H' v st := let ⟨a, ys, e, z, l⟩ := h; ⟨a, ys, e, s _ _ z, l⟩
theorem LotR.mut {H : Hp} {D : Addr} {us ws : List V} {v : V} {st : Strd} (h : LotR H v st) (hD : H D = some (.lst us)) : LotR (upd H D (.lst ws)) v st := by
  obtain ⟨a, ys, e, z, l⟩ := h
  exact ⟨a, ys, e, by rw [upd_ne fun k => by rw [k, hD] at z; cases z]; exact z, l⟩
theorem LotR.off {H : Hp} {r C dx : Addr} {fs : List (Str × V)} {o : HO} {v : V} {st : Strd} (h : LotR H v st) (hr : H r = some (.ins C dx fs)) : LotR (upd H r o) v st := by
  obtain ⟨a, ys, e, z, l⟩ := h
  exact ⟨a, ys, e, by rw [upd_ne fun k => by rw [k, hr] at z; cases z]; exact z, l⟩
theorem SPat.off {H : Hp} {r C dx : Addr} {fs : List (Str × V)} {o : HO} {v : V} {q : Int × Int} (h : SPat H v q) (hr : H r = some (.ins C dx fs)) : SPat (upd H r o) v q := by
  obtain ⟨a, e, z⟩ := h
  exact ⟨a, e, by rw [upd_ne fun k => by rw [k, hr] at z; cases z]; exact z⟩
theorem SSat.off {H : Hp} {r C dx : Addr} {fs : List (Str × V)} {o : HO} {v : V} {q : Strd} (h : SSat H v q) (hr : H r = some (.ins C dx fs)) : SSat (upd H r o) v q := by
  obtain ⟨a, xs, e, z, p⟩ := h
  exact ⟨a, xs, e, by rw [upd_ne fun k => by rw [k, hr] at z; cases z]; exact z, par_imp (fun _ _ k => k.off hr) p⟩
section
variable {P : Program} {w : World} {K : PySem.W.Frag} {mg : Str → Option Value} {base : Heap}
def spLU (C : Addr) : Sp := fun vs H Q _ => ∃ (r dx : Addr) (v : V) (way : List Strd) (n : Nat), vs = [.ref r, v] ∧ H r = some (.ins C dx []) ∧ SWat H v way ∧ goodW n way ∧ 3 ≤ n ∧ n ≤ 8 ∧
  ∀ H' way', way'.Perm way → LineW C H' r way' → (∀ b o, H b = some o → b ≠ r → H' b = some o) → Q .non H'
abbrev nLU : List Str := ["self", "strands", "strand", "bar", "sign", "lot"]
theorem scLU : FnScope nLU ["self", "strands"] (defScope sLineUpInit) := ⟨rfl, rfl, rfl, by decide +kernel, rfl, by decide +kernel, by decide +kernel⟩
def scLUo : Scope := { kind := .function, names := [(Str.ofString ".0", .local), (Str.ofString "strand", .local), (Str.ofString "tuple", .globalImplicit)], isGenerator := false, isCoroutine := false }
theorem ok_lu {C f fA fS fX : Addr} {fd fdA fdS fdX : FuncData} (F : Fun K "__init__" "LineUp.__init__" sLineUpInit f fd) (T : Bi mg) (R : LineC K mg C) (ARE : DefAt P w K mg base CX0 4 "are_strands" ["value"] (spAre K) fA fdA) (AS : DefAt P w K mg base CX0 1 "as_strand" ["pairs"] spAsS fS fdS) (FX : DefAt P w K mg base CX0 3 "fixed" ["value"] spFx2 fX fdX) : FnOk P w K mg base CX0 5 f fd ["self", "strands"] (spLU C) := by
  refine F.ok scLU (fun vs H Q E h => ?_) (fun cdv A outer s H vs Q E hr h => ?_)
  · obtain ⟨r, dx, v, way, n, rfl, _⟩ := h
    rfl
  · have nd := scLU.nd
    refine ⟨_, pss_cons (ps_if (pt_not (pt_val (pe_call ARE.ok hr rfl ARE.g ARE.kp ARE.b .nil pass0 (pa_cons (pv 1) pa_nil)))) (pss_one ps_never) pss_nil)
      (pss_cons (ps_fld (pv 0) (pe_callTy call_tuple_of (by rfl) T.tuple (by decide +kernel) (pa_cons (pe_callB (cr_sortedSS hr.units) (by rfl) T.sorted (by decide +kernel) (pa_cons (pe_lc (own := [("strand", 2)]) (g := gName 2) (tt := tYes) (te := tCall spAsS [] E0 (tCons (tCall spFx2 [] E0 (tCons (tVar 2) tNil)) tNil)) rfl nd (pi_tup (pv 1))
          (blkOk_by (N := nLU) (sc := defScope sLineUpInit) (by decide +kernel)) (fun _ _ _ _ _ => pg_name (i := 2) nd rfl (Or.inl rfl)) (fun _ _ _ _ _ => pts_nil) (fun _ _ _ _ _ => pe_call AS.ok (hr.mono (by decide)) rfl AS.g AS.kp AS.b .nil pass0 (pa_cons (pe_call FX.ok (hr.mono (by decide)) rfl FX.g FX.kp FX.b .nil pass0 (pa_cons (pv 2) pa_nil)) pa_nil))) pa_nil)) pa_nil)) rfl)
      (pss_cons (ps_fld (pv 0) (pe_callTy call_tuple_of (by rfl) T.tuple (by decide +kernel) (pa_cons (pe_lc (own := [("strand", 2)]) (g := gName 2) (tt := tYes) (te := tCB (rTupOf K) (tCons (tLc (iTup K (tVar 2)) (gTup K 2 (gCons (gName 3) (gCons (gName 4) gNil))) tYes (tVar 3) [3, 4]) tNil)) rfl nd (pi_tup (pe_fld (pv 0) rfl))
          (blkOk_by (N := nLU) (sc := defScope sLineUpInit) (by decide +kernel)) (fun _ _ _ _ _ => pg_name (i := 2) nd rfl (Or.inl rfl)) (fun _ _ _ _ _ => pts_nil)
          (fun _ _ _ _ _ => pe_callTy (r := rTupOf K) call_tuple_of (by rfl) T.tuple (by decide +kernel) (pa_cons (pe_lc (own := [("bar", 3), ("sign", 4)]) (g := gTup K 2 (gCons (gName 3) (gCons (gName 4) gNil))) (tt := tYes) (te := tVar 3) rfl nd (pi_tup (pv 2))
            (blkOk_by (N := nLU) (sc := relS scLUo (defScope sLineUpInit)) (by decide +kernel)) (fun _ _ _ _ _ => pg_tup rfl (pgs_cons (pg_name (i := 3) nd rfl (Or.inl rfl)) (pgs_cons (pg_name (i := 4) nd rfl (Or.inl rfl)) pgs_nil))) (fun _ _ _ _ _ => pts_nil) (fun _ _ _ _ _ => pv 3)) pa_nil))) pa_nil)) rfl)
      (pss_one (ps_fld (pv 0) (pe_callB (cr_sum rfl) (by rfl) T.sum (by decide +kernel) (pa_cons (pe_lc (own := [("lot", 5)]) (g := gName 5) (tt := tYes) (te := tCB (rLenS K) (tCons (tVar 5) tNil)) rfl nd (pi_tup (pe_fld (pv 0) rfl))
          (blkOk_by (N := nLU) (sc := defScope sLineUpInit) (by decide +kernel)) (fun _ _ _ _ _ => pg_name (i := 5) nd rfl (Or.inl rfl)) (fun _ _ _ _ _ => pts_nil) (fun _ _ _ _ _ => pe_callB (r := rLenS K) call_len_seq (by rfl) T.len PySem.boot_len (pa_cons (pv 5) pa_nil))) pa_nil)) rfl)))), ?_⟩
    obtain ⟨r, dx, v, way, n, rfl, hr0, sw, gw, n3, n8, k⟩ := h
    refine ⟨_, rfl, v, way, n, rfl, sw, gw, n3, n8, fun H1 s1 => ⟨_, rfl, iteF ?_⟩⟩
    obtain ⟨a, xs, rfl, ha, px⟩ := sw
    have ha1 := s1 _ _ ha
    have xl : xs.length = way.length := par_len px
    have w8 := gw.ln
    -- the strands
    refine ⟨_, rfl, a, rfl, ⟨_, .inl (.inl ha1)⟩, fun D hD => ?_⟩
    refine lc_tup (K := K) (a := a) (xs := xs) (fun j H' => Same H1 H' ∧ ∃ us, H' D = some (.lst us) ∧ Paired (SSat H') us (way.take j)) ⟨(Same.refl H1).new hD, [], upd_same, .nil⟩ (fun j H' _ q => .inl (.inl (q.1 _ _ ha1))) ?_ ?_
    · rintro j y H' hj ⟨s2, us, h2, pu⟩
      obtain ⟨st, hst, rs⟩ := par_get px hj
      have ks := gw.st st (List.mem_of_getElem? hst)
      refine ⟨rfl, _, rfl, y, st, rfl, rs.same (s1.trans s2), ks.1.2.1, fun v1 H3 s3 r3 => ⟨v1, st, rfl, r3, ks, fun v2 H4 s4 r4 => ?_⟩⟩
      have s34 := s3.trans s4
      refine ⟨us, s34 _ _ h2, ?_, (s2.trans s34).mut hD, _, upd_same, ?_⟩
      · rw [par_len pu, List.length_take]
        exact sm (by omega)
      · rw [← take_snoc hst]
        exact par_app (par_imp (fun _ _ z => (z.same s34).mut (s34 _ _ h2)) pu) (.cons (r4.mut (s34 _ _ h2)) .nil)
    rintro H2 ⟨s2, us, h2, pu⟩
    rw [xl, List.take_length] at pu
    refine ⟨D, us, way, rfl, SqL.of h2, pu, fun st m => (gw.st st m).1.1, fun p ys pm np => ?_⟩
    obtain ⟨way', pmw, py⟩ := par_perm pm pu
    have s3 : Same H2 (upd H2 p (.lst ys)) := (Same.refl H2).new np
    have hp : upd H2 p (.lst ys) p = some (.lst ys) := upd_same
    generalize upd H2 p (.lst ys) = H3 at s3 hp ⊢
    refine ⟨p, _, rfl, .inl ⟨SqL.of hp, fun t nt => ?_⟩⟩
    have s4 : Same H3 (upd H3 t (.tup ys)) := (Same.refl H3).new nt
    have ht : upd H3 t (.tup ys) t = some (.tup ys) := upd_same
    generalize upd H3 t (.tup ys) = H4 at s4 ht ⊢
    have s14 := (s2.trans s3).trans s4
    have hr4 := s14 _ _ (s1 _ _ hr0)
    have py4 : Paired (SSat H4) ys way' := par_imp (fun _ _ z => z.same (s3.trans s4)) py
    have nrt : t ≠ r := fun z => by rw [z, hr4] at ht; cases ht
    refine ⟨_, rfl, r, C, dx, [], rfl, hr4, R.cl, R.nS, (by show 0 < 1000; decide), ?_⟩
    have fresh_ne : ∀ {H' : Hp} {b : Addr} {o : HO}, H' b = some o → ∀ {l : Addr}, H' l = none → b ≠ l := fun h _ n z => by rw [z, n] at h; cases h
    have off1 : ∀ b o, H b = some o → b ≠ r → upd H4 r (.ins C dx (putF ("strands" : Str) (.ref t) [])) b = some o := fun b o hb nb => by rw [upd_ne nb]; exact s14 _ _ (s1 _ _ hb)
    have hr5 : upd H4 r (.ins C dx (putF ("strands" : Str) (.ref t) [])) r = some (.ins C dx [(("strands" : Str), .ref t)]) := upd_same
    have ht5 : upd H4 r (.ins C dx (putF ("strands" : Str) (.ref t) [])) t = some (.tup ys) := by rw [upd_ne nrt]; exact ht
    have py5 : Paired (SSat (upd H4 r (.ins C dx (putF ("strands" : Str) (.ref t) [])))) ys way' := par_imp (fun _ _ z => z.off hr4) py4
    generalize upd H4 r (.ins C dx (putF ("strands" : Str) (.ref t) [])) = H5 at off1 hr5 ht5 py5 ⊢
    have yl : ys.length = way'.length := par_len py5
    have wl : way'.length = way.length := pmw.length_eq
    -- the lots
    refine ⟨_, rfl, r, C, dx, _, _, rfl, hr5, R.cl, R.nS, rfl, t, rfl, ⟨_, .inl (.inl ht5)⟩, fun D2 hD2 => ?_⟩
    refine lc_tup (K := K) (a := t) (xs := ys) (fun j H' => Same H5 H' ∧ ∃ us, H' D2 = some (.lst us) ∧ Paired (LotR H') us (way'.take j)) ⟨(Same.refl H5).new hD2, [], upd_same, .nil⟩ (fun j H' _ q => .inl (.inl (q.1 _ _ ht5))) ?_ ?_
    · rintro j y H' hj ⟨s6, us6, h6, pu6⟩
      obtain ⟨st, hst, rs⟩ := par_get py5 hj
      obtain ⟨b, zs, rfl, hb, pz⟩ := rs.same s6
      have zl : zs.length = st.length := par_len pz
      have st8 : st.length ≤ 8 := (gw.st st (pmw.mem_iff.mp (List.mem_of_getElem? hst))).1.2.1
      refine ⟨rfl, _, rfl, b, rfl, ⟨_, .inl (.inl hb)⟩, fun D3 hD3 => ?_⟩
      refine lc_tup (K := K) (a := b) (xs := zs) (fun i G => Same H' G ∧ ∃ us, G D3 = some (.lst us) ∧ us.length = i) ⟨(Same.refl H').new hD3, [], upd_same, rfl⟩ (fun i G _ q => .inl (.inl (q.1 _ _ hb))) ?_ ?_
      · rintro i z G hi ⟨s7, vs7, h7, l7⟩
        have hil : i < zs.length := (List.getElem?_eq_some_iff.mp hi).1
        obtain ⟨q, hq, c, rfl, hc⟩ := par_get pz hi
        refine ⟨c, _, rfl, .inl (.inl (s7 _ _ hc)), rfl, _, _, rfl, _, _, rfl, rfl, rfl, _, rfl, vs7, h7, sm (by omega), s7.mut hD3, _, upd_same, ?_⟩
        rw [List.length_append, l7]
        rfl
      rintro G1 ⟨s7, vs7, h7, l7⟩
      refine ⟨D3, _, rfl, .inl ⟨SqL.of h7, fun l nl => ?_⟩⟩
      have s8 : Same H' (upd G1 l (.tup vs7)) := s7.new nl
      have hl8 : upd G1 l (.tup vs7) l = some (.tup vs7) := upd_same
      generalize upd G1 l (.tup vs7) = G2 at s8 hl8 ⊢
      refine ⟨us6, s8 _ _ h6, ?_, (s6.trans s8).mut hD2, _, upd_same, ?_⟩
      · rw [par_len pu6, List.length_take]
        exact sm (by omega)
      · have lr : LotR G2 (.ref l) st := ⟨l, vs7, rfl, hl8, by rw [l7, zl]⟩
        rw [← take_snoc hst]
        exact par_app (par_imp (fun _ _ z => (z.same s8).mut (s8 _ _ h6)) pu6) (.cons (lr.mut (s8 _ _ h6)) .nil)
    rintro H6 ⟨s6, us6, h6, pu6⟩
    rw [yl, List.take_length] at pu6
    have u6l : us6.length = way'.length := par_len pu6
    refine ⟨D2, _, rfl, .inl ⟨SqL.of h6, fun t2 nt2 => ?_⟩⟩
    have s7 : Same H5 (upd H6 t2 (.tup us6)) := s6.new nt2
    have ht2 : upd H6 t2 (.tup us6) t2 = some (.tup us6) := upd_same
    have pu7 : Paired (LotR (upd H6 t2 (.tup us6))) us6 way' := par_imp (fun _ _ z => z.same ((Same.refl H6).new nt2)) pu6
    generalize upd H6 t2 (.tup us6) = H7 at s7 ht2 pu7 ⊢
    have hr7 := s7 _ _ hr5
    have nrt2 : t2 ≠ r := fun z => by rw [z, hr7] at ht2; cases ht2
    refine ⟨_, rfl, r, C, dx, _, rfl, hr7, R.cl, R.nL, (by show 1 < 1000; decide), ?_⟩
    have off2 : ∀ b o, H b = some o → b ≠ r → upd H7 r (.ins C dx (putF ("lots" : Str) (.ref t2) [(("strands" : Str), .ref t)])) b = some o := fun b o hb nb => by rw [upd_ne nb]; exact s7 _ _ (off1 b o hb nb)
    have hr8 : upd H7 r (.ins C dx (putF ("lots" : Str) (.ref t2) [(("strands" : Str), .ref t)])) r = some (.ins C dx [(("strands" : Str), .ref t), (("lots" : Str), .ref t2)]) := upd_same
    have ht8 : upd H7 r (.ins C dx (putF ("lots" : Str) (.ref t2) [(("strands" : Str), .ref t)])) t = some (.tup ys) := by rw [upd_ne nrt]; exact s7 _ _ ht5
    have ht28 : upd H7 r (.ins C dx (putF ("lots" : Str) (.ref t2) [(("strands" : Str), .ref t)])) t2 = some (.tup us6) := by rw [upd_ne nrt2]; exact ht2
    have py8 : Paired (SSat (upd H7 r (.ins C dx (putF ("lots" : Str) (.ref t2) [(("strands" : Str), .ref t)])))) ys way' := par_imp (fun _ _ z => (z.same s7).off hr7) py5
    have pu8 : Paired (LotR (upd H7 r (.ins C dx (putF ("lots" : Str) (.ref t2) [(("strands" : Str), .ref t)])))) us6 way' := par_imp (fun _ _ z => z.off hr7) pu7
    generalize upd H7 r (.ins C dx (putF ("lots" : Str) (.ref t2) [(("strands" : Str), .ref t)])) = H8 at off2 hr8 ht8 ht28 py8 pu8 ⊢
    -- how many
    refine ⟨_, rfl, r, C, dx, _, _, rfl, hr8, R.cl, R.nL, rfl, t2, rfl, ⟨_, .inl (.inl ht28)⟩, fun D4 hD4 => ?_⟩
    refine lc_tup (K := K) (a := t2) (xs := us6) (fun j H' => Same H8 H' ∧ H' D4 = some (.lst (((way'.take j).map fun st => (st.length : Int)).map V.int))) ⟨(Same.refl H8).new hD4, upd_same⟩ (fun j H' _ q => .inl (.inl (q.1 _ _ ht28))) ?_ ?_
    · rintro j y H' hj ⟨s9, h9⟩
      obtain ⟨st, hst, b, zs, rfl, hb, lz⟩ := par_get pu8 hj
      refine ⟨rfl, _, rfl, b, zs, rfl, .inr (.inl (.inl (s9 _ _ hb))), _, h9, ?_, s9.mut hD4, ?_⟩
      · rw [List.length_map, List.length_map, List.length_take]
        exact sm (by omega)
      · rw [upd_same, ← take_snoc hst, List.map_append, List.map_append, lz]
        rfl
    rintro H9 ⟨s9, h9⟩
    refine ⟨D4, _, rfl, SqL.of h9, ?_⟩
    have hr9 := s9 _ _ hr8
    refine ⟨_, rfl, r, C, dx, _, rfl, hr9, R.cl, R.nM, (by show 2 < 1000; decide), ?_⟩
    refine k _ way' pmw ⟨dx, t, _, upd_same, rfl, t, ys, rfl, ?_, par_imp (fun _ _ z => (z.same s9).off hr9) py8⟩ fun b o hb nb => ?_
    · rw [upd_ne nrt]
      exact s9 _ _ ht8
    · rw [upd_ne nb]
      exact s9 _ _ (off2 b o hb nb)
end
end K
namespace K
open PySem L2 Rg
open Evl (pss_cut)
def absI (z : Int) : Int := if z < 0 then -z else z
theorem absI_nat (z : Int) : absI z = (z.natAbs : Int) := by
  unfold absI
  split <;> omega
theorem get_len {ls : List Int} {b : Int} (h0 : 0 ≤ b) (h1 : b < (ls.length : Int)) : atI (ls.map V.int) b = some (V.int (ls.getD b.toNat 0)) := by
  have hb : b.toNat < ls.length := by omega
  refine at_of (j := b.toNat) (by omega) ?_
  rw [int_get hb, List.getD_eq_getElem?_getD, List.getElem?_eq_getElem hb]
  rfl
def fitW (m : Nat) (way : List Strd) : Prop := way.length ≤ 8 ∧ ∀ st ∈ way, st.length ≤ 8 ∧ ∀ q ∈ st, 0 ≤ q.1 ∧ q.1 < (m : Int) ∧ (q.2 = 1 ∨ q.2 = -1)
theorem LineW.same {C : Addr} {H H' : Hp} {r : Addr} {way : List Strd} (h : LineW C H r way) (s : Same H H') : LineW C H' r way := by
  obtain ⟨dx, t, fs, h1, h2, h3⟩ := h
  exact ⟨dx, t, fs, s _ _ h1, h2, h3.same s⟩
section
variable {P : Program} {w : World} {K : PySem.W.Frag} {mg : Str → Option Value} {base : Heap}
def spNets (K : PySem.W.Frag) (CR CL : Addr) : Sp := fun vs H Q _ => ∃ (r l : Addr) (ls : List Int) (way : List Strd), vs = [.ref r, .ref l] ∧ RingAt K CR H r ls ∧ LineW CL H l way ∧ fitW ls.length way ∧
  ∀ p H', Same H H' → H p = none → H' p = some (.lst ((way.map fun st => absI (net ls st)).map V.int)) → Q (.ref p) H'
abbrev nNets : List Str := ["ring", "lineup", "strands", "strand", "bar", "sign"]
theorem scNets : FnScope nNets ["ring", "lineup"] (defScope sNetsOf) := ⟨rfl, rfl, rfl, by decide +kernel, rfl, by decide +kernel, by decide +kernel⟩
def rAb : List V → Hp → VK → Prop := fun xs H Q => ∃ i, xs = [.int i] ∧ Q (.int (if i < 0 then -i else i)) H
def scNo : Scope := { kind := .function, names := [(Str.ofString ".0", .local), (Str.ofString "strand", .local), (Str.ofString "abs", .globalImplicit), (Str.ofString "sum", .globalImplicit), (Str.ofString "ring", .free)], isGenerator := false, isCoroutine := false }
abbrev teN (K : PySem.W.Frag) : TE := tCB rAb (tCons (tCB (rSum K) (tCons (tLc (iTup K (tVar 3)) (gTup K 2 (gCons (gName 4) (gCons (gName 5) gNil))) tYes (tOp (rI CMul fun i j => .int (i * j)) (tOp (rIxT K) (tFld K (tVar 0) "lengths") (tVar 4)) (tVar 5)) [4, 5]) tNil)) tNil)
theorem ok_nets {CR CL f : Addr} {fd : FuncData} (F : Fun K "nets_of" "nets_of" sNetsOf f fd) (T : Bi mg) (RR : RingC K mg CR) (RL : LineC K mg CL) : FnOk P w K mg base CX0 1 f fd ["ring", "lineup"] (spNets K CR CL) := by
  refine F.ok scNets (fun vs H Q E h => ?_) (fun cdv A outer s H vs Q E hr h => ?_)
  · obtain ⟨r, l, ls, way, rfl, _⟩ := h
    rfl
  · have nd := scNets.nd
    refine ⟨_, pss_cons (ps_set (i := 2) nd rfl (Or.inl rfl) (pe_fld (pv 1) rfl))
      (pss_one (ps_ret (pe_lc (own := [("strand", 3)]) (g := gName 3) (tt := tYes) (te := teN K) rfl nd (pi_tup (pv 2))
        (blkOk_by (N := nNets) (sc := defScope sNetsOf) (by decide +kernel)) (fun _ _ _ _ _ => pg_name (i := 3) nd rfl (Or.inl rfl)) (fun _ _ _ _ _ => pts_nil)
        (fun _ _ _ _ _ => pe_callB (r := rAb) call_abs (by rfl) T.abs (by decide +kernel) (pa_cons (pe_callB (cr_sum rfl) (by rfl) T.sum (by decide +kernel) (pa_cons (pe_lc (own := [("bar", 4), ("sign", 5)]) (g := gTup K 2 (gCons (gName 4) (gCons (gName 5) gNil))) (tt := tYes) (te := tOp (rI CMul fun i j => .int (i * j)) (tOp (rIxT K) (tFld K (tVar 0) "lengths") (tVar 4)) (tVar 5)) rfl nd (pi_tup (pv 3))
          (blkOk_by (N := nNets) (sc := relS scNo (defScope sNetsOf)) (by decide +kernel)) (fun _ _ _ _ _ => pg_tup rfl (pgs_cons (pg_name (i := 4) nd rfl (Or.inl rfl)) (pgs_cons (pg_name (i := 5) nd rfl (Or.inl rfl)) pgs_nil))) (fun _ _ _ _ _ => pts_nil)
          (fun _ _ _ _ _ => pe_op op_mul (pe_ix (r := rIxT K) ix_tup (pe_fld (pv 0) rfl) (pv 4) (fun _ _ => rfl)) (pv 5))) pa_nil)) pa_nil))))), ?_⟩
    obtain ⟨r, l, ls, way, rfl, ⟨dx, t, hr0, ht, _⟩, ⟨dl, a, fs, hl0, fl, sw⟩, ⟨w8, fit⟩, k⟩ := h
    obtain ⟨b0, xs, e0, ha, px⟩ := sw
    obtain rfl : a = b0 := V.ref.inj e0
    have xl : xs.length = way.length := par_len px
    refine ⟨_, rfl, l, CL, dl, fs, _, rfl, hl0, RL.cl, RL.nS, fl, ?_⟩
    refine ⟨_, rfl, a, rfl, ⟨_, .inl (.inl ha)⟩, fun D hD => ?_⟩
    refine lc_tup (K := K) (a := a) (xs := xs) (fun j H' => Same H H' ∧ H' D = some (.lst (((way.take j).map fun st => absI (net ls st)).map V.int))) ⟨(Same.refl H).new hD, upd_same⟩ (fun j H' _ q => .inl (.inl (q.1 _ _ ha))) ?_ ?_
    · rintro j y H' hj ⟨s1, h1⟩
      obtain ⟨st, hst, rs⟩ := par_get px hj
      have hm := fit st (List.mem_of_getElem? hst)
      obtain ⟨b, zs, rfl, hb, pz⟩ := rs.same s1
      have zl : zs.length = st.length := par_len pz
      refine ⟨rfl, _, rfl, b, rfl, ⟨_, .inl (.inl hb)⟩, fun D3 hD3 => ?_⟩
      refine lc_tup (K := K) (a := b) (xs := zs) (fun i G => Same H' G ∧ G D3 = some (.lst (((st.take i).map fun q => ls.getD q.1.toNat 0 * q.2).map V.int))) ⟨(Same.refl H').new hD3, upd_same⟩ (fun i G _ q => .inl (.inl (q.1 _ _ hb))) ?_ ?_
      · rintro i z G hi ⟨s7, h7⟩
        have hil : i < zs.length := (List.getElem?_eq_some_iff.mp hi).1
        obtain ⟨q, hq, c, rfl, hc⟩ := par_get pz hi
        have hqb := hm.2 q (List.mem_of_getElem? hq)
        have s17 := s1.trans s7
        refine ⟨c, _, rfl, .inl (.inl (s7 _ _ hc)), rfl, _, _, rfl, _, _, rfl, rfl, rfl, ?_⟩
        refine ⟨_, rfl, r, CR, dx, _, _, rfl, s17 _ _ hr0, RR.cl, RR.nL, rf_lengths _ _, _, rfl, t, _, q.1, _, rfl, rfl, s17.tup ht, get_len hqb.1 hqb.2.1, _, rfl, _, _, rfl, rfl, .inr ⟨?_, ?_⟩, _, h7, ?_, s7.mut hD3, ?_⟩
        · have z := hqb.2.2
          omega
        · have z := hqb.2.2
          omega
        · rw [List.length_map, List.length_map, List.length_take]
          exact sm (by omega)
        · rw [upd_same, ← take_snoc hq, List.map_append, List.map_append]
          rfl
      rintro G1 ⟨s7, h7⟩
      rw [zl, List.take_length] at h7
      have s8 := s1.trans s7
      refine ⟨D3, _, rfl, SqL.of h7, _, rfl, ?_⟩
      refine ⟨_, s7 _ _ h1, ?_, s8.mut hD, ?_⟩
      · rw [List.length_map, List.length_map, List.length_take]
        exact sm (by omega)
      · rw [upd_same, ← take_snoc hst, List.map_append, List.map_append]
        rfl
    rintro H6 ⟨s6, h6⟩
    rw [xl, List.take_length] at h6
    exact k D H6 s6 hD h6
end
end K
namespace K
open PySem L2 Rg
open Evl (pss_cut)
/-- too_great of a row of nets is None -/
theorem first_at {m : Int} : ∀ {ns : List Int}, m ∈ ns → ∃ j, ns[j]? = some m ∧ ∀ (i : Nat) (z : Int), i < j → ns[i]? = some z → z ≠ m
  | [], h => nomatch h
  | a :: r, h => by
    by_cases e : a = m
    · exact ⟨0, by rw [e]; rfl, fun i z hi => absurd hi (Nat.not_lt_zero i)⟩
    · have h' : m ∈ r := by
        rcases List.mem_cons.mp h with x | x
        · exact absurd x.symm e
        · exact x
      obtain ⟨j, hj, q⟩ := first_at h'
      refine ⟨j + 1, hj, fun i z hi hz => ?_⟩
      cases i with
      | zero => cases hz; exact e
      | succ i => exact q i z (by omega) hz
def hadN (ns : List Int) : Bool := ns.all fun m => decide (2 * m ≤ ns.sum)
theorem had_max {ns : List Int} {m : Int} (hm : m ∈ ns) (hx : ∀ y, y ∈ ns → y ≤ m) : hadN ns = decide (2 * m ≤ ns.sum) := by
  unfold hadN
  by_cases h : 2 * m ≤ ns.sum
  · rw [decide_eq_true h]
    refine List.all_eq_true.mpr fun y hy => decide_eq_true ?_
    have := hx y hy
    omega
  · rw [decide_eq_false h]
    refine Bool.eq_false_iff.mpr fun k => h ?_
    exact of_decide_eq_true (List.all_eq_true.mp k m hm)
section
variable {P : Program} {w : World} {K : PySem.W.Frag} {mg : Str → Option Value} {base : Heap}
def spTG (K : PySem.W.Frag) : Sp := fun vs H Q _ => ∃ (a : Addr) (ns : List Int), vs = [.ref a] ∧ H a = some (.lst (ns.map V.int)) ∧ 0 < ns.length ∧ ns.length ≤ 1000 ∧ (hadN ns = true → Q .non H) ∧ (hadN ns = false → ∀ i : Int, Q (.int i) H)
theorem scTG : FnScope ["nets", "most"] ["nets"] (defScope sTooGreat) := ⟨rfl, rfl, rfl, by decide +kernel, rfl, by decide +kernel, by decide +kernel⟩
theorem ok_tg {f : Addr} {fd : FuncData} (F : Fun K "too_great" "too_great" sTooGreat f fd) (T : Bi mg) : FnOk P w K mg base CX0 1 f fd ["nets"] (spTG K) := by
  refine F.ok scTG (fun vs H Q E h => ?_) (fun cdv A outer s H vs Q E hr h => ?_)
  · obtain ⟨a, ns, rfl, _⟩ := h
    rfl
  · have nd := scTG.nd
    refine ⟨_, pss_cons (ps_set (i := 1) nd rfl (Or.inl rfl) (pe_callB (cr_max rfl) (by rfl) T.max (by decide +kernel) (pa_cons (pv 0) pa_nil)))
      (pss_one (ps_ret (pe_ifExp (pt_cmpR op_gt (pe_op op_mul pe_int (pv 1)) (pe_callB (cr_sum rfl) (by rfl) T.sum (by decide +kernel) (pa_cons (pv 0) pa_nil)) (nomark _)) (pe_bm PySem.F.plainAttrs_list PySem.F.slot_list_index PySem.F.type_list_index mt_index (pv 0) (pa_cons (pv 1) pa_nil)) pe_non))), ?_⟩
    obtain ⟨a, ns, rfl, ha, pos, n1, k1, k2⟩ := h
    refine ⟨_, rfl, a, ns, rfl, SqL.of ha, pos, fun m hm hx => ?_⟩
    have e := had_max hm hx
    refine ⟨_, rfl, _, _, rfl, rfl, .inl ⟨by decide, by decide⟩, _, rfl, a, ns, rfl, SqL.of ha, _, _, rfl, rfl, ?_⟩
    refine ⟨_, rfl, ?_⟩
    by_cases q : ns.sum < 2 * m
    · rw [decide_eq_false (by omega)] at e
      obtain ⟨j, hj, no⟩ := first_at hm
      refine Eq.mpr (if_pos (decide_eq_true q)) ?_
      refine ⟨_, rfl, .inl ⟨rfl, _, SqL.of ha⟩, _, rfl, a, ns.map V.int, V.int m, j, V.int m, rfl, rfl, SqL.of ha, rfl, ?_, ?_, ?_, ?_, k2 e j⟩
      · refine List.all_eq_true.mpr fun y hy => ?_
        obtain ⟨z, _, rfl⟩ := List.mem_map.mp hy
        rfl
      · rw [List.getElem?_map, hj]
        rfl
      · exact beq_self_eq_true m
      · intro i z hi hz
        obtain ⟨z', hz', rfl⟩ := int_at hz
        exact beq_eq_false_iff_ne.mpr (no i z' hi hz')
    · rw [decide_eq_true (by omega)] at e
      refine Eq.mpr (if_neg (by rw [decide_eq_false q]; exact Bool.false_ne_true)) ?_
      exact k1 e
/-! ### is_had -/
def spHad (K : PySem.W.Frag) (CR CL : Addr) : Sp := fun vs H Q _ => ∃ (r l : Addr) (ls : List Int) (way : List Strd), vs = [.ref r, .ref l] ∧ RingAt K CR H r ls ∧ LineW CL H l way ∧ fitW ls.length way ∧ 0 < way.length ∧
  ∀ H', Same H H' → Q (.bl (hadN (way.map fun st => absI (net ls st)))) H'
theorem scHad : FnScope ["ring", "lineup"] ["ring", "lineup"] (defScope sIsHad) := ⟨rfl, rfl, rfl, by decide +kernel, rfl, by decide +kernel, by decide +kernel⟩
theorem ok_had {CR CL f fN fT : Addr} {fd fdN fdT : FuncData} (F : Fun K "is_had" "is_had" sIsHad f fd) (NE : DefAt P w K mg base CX0 1 "nets_of" ["ring", "lineup"] (spNets K CR CL) fN fdN) (TG : DefAt P w K mg base CX0 1 "too_great" ["nets"] (spTG K) fT fdT) : FnOk P w K mg base CX0 2 f fd ["ring", "lineup"] (spHad K CR CL) := by
  refine F.ok scHad (fun vs H Q E h => ?_) (fun cdv A outer s H vs Q E hr h => ?_)
  · obtain ⟨r, l, ls, way, rfl, _⟩ := h
    rfl
  · have nd := scHad.nd
    refine ⟨_, pss_one (ps_ret (pe_cmpR op_isN (pe_call TG.ok hr rfl TG.g TG.kp TG.b .nil pass0 (pa_cons (pe_call NE.ok hr rfl NE.g NE.kp NE.b .nil pass0 (pa_cons (pv 0) (pa_cons (pv 1) pa_nil))) pa_nil)) pe_non (nomark _))), ?_⟩
    obtain ⟨r, l, ls, way, rfl, hr0, hl, fit, pos, k⟩ := h
    refine ⟨_, rfl, _, rfl, r, l, ls, way, rfl, hr0, hl, fit, fun p H1 s1 np h1 => ⟨p, _, rfl, h1, by rw [List.length_map]; exact pos, by rw [List.length_map]; exact Nat.le_trans fit.1 (by decide), fun e => ?_, fun e i => ?_⟩⟩
    · have z := k H1 s1
      rw [e] at z
      exact ⟨rfl, z⟩
    · have z := k H1 s1
      rw [e] at z
      exact ⟨rfl, z⟩
end
end K
namespace K
open PySem L2 Rg
theorem okW_good {n : Nat} {w : List Strd} (n5 : n ≤ 5) (h : okW n w = true) : goodW (n + 1) w ∧ fitW (n + 1) w ∧ 0 < w.length := by
  have hl := okW_len h
  unfold okW at h
  simp only [Bool.and_eq_true, decide_eq_true_eq, List.all_eq_true] at h
  obtain ⟨⟨⟨⟨hs, _⟩, _⟩, hp⟩, _⟩ := h
  have perm : (w.flatMap fun st => st.map (·.1)).Perm ((List.range (n + 1)).map fun j : Nat => (j : Int)) := List.isPerm_iff.mp hp
  refine ⟨⟨fun st m => ?_, by omega, perm⟩, ⟨by omega, fun st m => ⟨by have := hl.2 st m; omega, fun q hq => ?_⟩⟩, ?_⟩
  · have hst := hs st m
    have h1 := hst.1
    unfold okS at h1
    rw [Bool.and_eq_true] at h1
    have signs : ∀ q ∈ st, q.2 = 1 ∨ q.2 = -1 := fun q hq => by
      have z := List.all_eq_true.mp h1.2 q hq
      simp only [Bool.and_eq_true, Bool.or_eq_true, decide_eq_true_eq] at z
      exact z.2
    obtain _ | ⟨⟨b, s⟩, r⟩ := st
    · exact absurd h1.1 Bool.false_ne_true
    · obtain rfl : s = 1 := of_decide_eq_true h1.1
      exact ⟨⟨fun e => (nomatch e), by have := hl.2 _ m; omega, signs⟩, rises_pw _ hst.2, b, r, rfl⟩
  · have hst := hs st m
    have h1 := hst.1
    unfold okS at h1
    rw [Bool.and_eq_true] at h1
    have z := List.all_eq_true.mp h1.2 q hq
    simp only [Bool.and_eq_true, Bool.or_eq_true, decide_eq_true_eq] at z
    refine ⟨z.1.1, by omega, z.2⟩
  · refine Nat.pos_of_ne_zero fun e => ?_
    rw [List.eq_nil_of_length_eq_zero e] at perm
    have := perm.length_eq
    simp at this
theorem sum_prm {a b : List Int} (p : a.Perm b) : a.sum = b.sum := by
  induction p with
  | nil => rfl
  | cons x _ ih => rw [List.sum_cons, List.sum_cons, ih]
  | swap x y l => rw [List.sum_cons, List.sum_cons, List.sum_cons, List.sum_cons]; omega
  | trans _ _ i j => exact i.trans j
theorem hadN_perm {a b : List Int} (p : a.Perm b) : hadN a = hadN b := by
  unfold hadN
  have s : a.sum = b.sum := sum_prm p
  rw [s]
  rw [Bool.eq_iff_iff, List.all_eq_true, List.all_eq_true]
  exact ⟨fun h x hx => h x (p.mem_iff.mpr hx), fun h x hx => h x (p.mem_iff.mp hx)⟩
theorem fitW_perm {m : Nat} {a b : List Strd} (p : a.Perm b) (h : fitW m b) : fitW m a := ⟨by rw [p.length_eq]; exact h.1, fun st hst => h.2 st (p.mem_iff.mp hst)⟩
/-- whether the line-up of a way is had -/
def hadW (ls : List Int) (w : List Strd) : Bool := hadN (w.map fun st => absI (net ls st))
theorem hadW_perm (ls : List Int) {a b : List Strd} (p : a.Perm b) : hadW ls a = hadW ls b := hadN_perm (p.map _)
theorem hadW_row (ls : List Int) (w : List Strd) : hadW ls w = hadR (w.map (net ls)) := by
  unfold hadW hadN hadR
  have e : (w.map fun st => absI (net ls st)) = (w.map (net ls)).map fun z => (z.natAbs : Int) := by
    rw [List.map_map]
    exact List.map_congr_left fun st _ => absI_nat _
  rw [e]
/-- the ways that are counted -/
def hadL (ls : List Int) (n k : Nat) : List (List Strd) := ((allW n).filter fun w => decide (w.length = k)).filter (hadW ls)
theorem hadL_len {ls : List Int} {n : Nat} (h : ls.length = n + 1) (k : Nat) : (hadL ls n k).length = countR ls k := by
  unfold hadL countR
  rw [h, ← all_net ls n, List.filter_map, List.length_map, List.filter_filter]
  congr 1
  refine List.filter_congr fun w _ => ?_
  show (hadW ls w && decide (w.length = k)) = (decide ((w.map (net ls)).length = k) && hadR (w.map (net ls)))
  rw [hadW_row, List.length_map, Bool.and_comm]
end K
namespace K
open PySem L2 Rg
open Evl (pss_cut)
section
variable {P : Program} {w : World} {K : PySem.W.Frag} {mg : Str → Option Value} {base : Heap}
/-! ### errors with two fields: TooMany(what, most) -/
def spIni2 (K : PySem.W.Frag) (f g : Str) : Sp := fun vs H Q _ => ∃ (a C : Addr) (v u : V), vs = [.ref a, v, u] ∧ OexC K C ∧ PySem.W.findIn K (.ref C) f = some none ∧ PySem.W.findIn K (.ref C) g = some none ∧ H a = some (exo a C none) ∧
  ∀ d, H d = none → d ≠ a → Q .non (upd (upd (upd H d (exd d [(f, v)])) a (exo a C (some d))) d (exd d [(g, u), (f, v)]))
theorem scTooMany : FnScope ["self", "what", "most"] ["self", "what", "most"] (defScope sTooManyInit) := ⟨rfl, rfl, rfl, by decide +kernel, rfl, by decide +kernel, by decide +kernel⟩
theorem ok_tooManyI {f : Addr} {fd : FuncData} (F : Fun K "__init__" "TooMany.__init__" sTooManyInit f fd) : FnOk P w K mg base CX0 1 f fd ["self", "what", "most"] (spIni2 K "what" "most") := by
  refine F.ok scTooMany (fun vs H Q E h => ?_) (fun cdv A outer s H vs Q E hr h => ?_)
  · obtain ⟨a, C, v, u, rfl, _⟩ := h
    rfl
  · refine ⟨_, pss_cons (ps_ost (pv 0) (pv 1)) (pss_one (ps_ost (pv 0) (pv 2))), ?_⟩
    obtain ⟨a, C, v, u, rfl, o, n, n2, ha, k⟩ := h
    refine ⟨_, rfl, _, rfl, a, C, rfl, o, n, .inl ⟨ha, fun d h1 h2 => ?_⟩⟩
    refine ⟨_, rfl, _, rfl, a, C, rfl, o, n2, .inr ⟨d, [("what", v)], upd_same, ?_, (by show 1 ≤ 900; decide), k d h1 h2⟩⟩
    rw [upd_ne h2, upd_same]
/-- the class x of errors with the fields f, g, at C, its __init__ at fI -/
structure Err2At (P : Program) (w : World) (K : PySem.W.Frag) (mg : Str → Option Value) (base : Heap) (x f f2 : Str) (C fI : Addr) (fdI : FuncData) : Prop where
  oex : OexC K C
  ic : PySem.W.findIn K (.ref C) "__init__" = some (some (.ref fI))
  ti : PySem.W.typeIn K (.ref fI) = some (.type "function")
  nf : PySem.W.findIn K (.ref C) f = some none
  ng : PySem.W.findIn K (.ref C) f2 = some none
  g : mg x = some (.ref C)
  b : Binds K fdI ["self", f, f2] []
  ok : FnOk P w K mg base CX0 1 fI fdI ["self", f, f2] (spIni2 K f f2)
/-- an error of the class at C with these fields leaves; what was tracked stands -/
def ErrsF (E : XK) (C : Addr) (fs : List (Str × V)) (H : Hp) : Prop := ∀ (d : Addr) (H' : Hp), Same H H' → H d = none → H' d = some (.xd fs) → E (.ref C) (some d) H'
theorem err_made2 {E : XK} {C : Addr} {f g : Str} {v u : V} {H : Hp} (o : OexC K C) (n : PySem.W.findIn K (.ref C) f = some none) (n2 : PySem.W.findIn K (.ref C) g = some none) (h : ErrsF E C [(g, u), (f, v)] H) :
    ([v, u] : List V).length ≤ 1000 ∧ ∀ a, H a = none → spIni2 K f g (.ref a :: ([v, u] ++ [])) (upd H a (exo a C none))
      (fun x H2 => x = .non ∧ ∃ (d : Addr) (fs : List (Str × V)), H2 a = some (exo a C (some d)) ∧ H2 d = some (exd d fs) ∧ H d = none ∧ E (.ref C) (some d) (upd (del H2 a) d (.xd fs))) (fun _ _ _ => False) := by
  refine ⟨(by show 2 ≤ 1000; decide), fun a ha => ⟨a, C, v, u, rfl, o, n, n2, upd_same, fun d hd hda => ⟨rfl, d, [(g, u), (f, v)], by rw [upd_ne hda.symm, upd_same], upd_same, ?_, ?_⟩⟩⟩
  · rw [upd_ne hda] at hd
    exact hd
  · rw [upd_ne hda] at hd
    refine h d _ (fun b x e => ?_) hd upd_same
    have hba : b ≠ a := ne_of_none e ha
    have hbd : b ≠ d := ne_of_none e hd
    rw [upd_ne hbd, del_ne hba, upd_ne hbd, upd_ne hba, upd_ne hbd, upd_ne hba]
    exact e
/-! ### want_few -/
def ErrM (E : XK) (C : Addr) (m : Int) (H : Hp) : Prop := ErrsF E C [("most", .int m), ("what", .str "bars")] H
def spFew (K : PySem.W.Frag) (C cM : Addr) : Sp := fun vs H Q E => ∃ (r : Addr) (ls : List Int) (m : Int), vs = [.ref r, .int m] ∧ RingW K C H r ls ∧ ls.length ≤ 1000 ∧ (((ls.length : Int) ≤ m ∧ Q .non H) ∨ (m < (ls.length : Int) ∧ ErrM E cM m H))
theorem scFew : FnScope ["ring", "most"] ["ring", "most"] (defScope sWantFew) := ⟨rfl, rfl, rfl, by decide +kernel, rfl, by decide +kernel, by decide +kernel⟩
theorem ok_few {C cM f fN fI : Addr} {fd fdN fdI : FuncData} (F : Fun K "want_few" "want_few" sWantFew f fd) (T : Bi mg) (NM : Meth K C "__len__" fN) (NL : FnOk P w K mg base CX0 1 fN fdN ["self"] (spRLen K C)) (NB : Binds K fdN ["self"] [])
    (M : Err2At P w K mg base "TooMany" "what" "most" cM fI fdI) : FnOk P w K mg base (L2.CX P w) 3 f fd ["ring", "most"] (spFew K C cM) := by
  refine F.okX scFew (fun vs H Q E h => ?_) (fun cdv A outer s H vs Q E hr h => ?_)
  · obtain ⟨r, ls, m, rfl, _⟩ := h
    rfl
  · refine ⟨_, pss_one (ps_if (pt_cmpR op_gt (pe_callB (call_lenO NL (hr.mono (by decide)) NB) (by rfl) T.len PySem.boot_len (pa_cons (pv 0) pa_nil)) (pv 1) (nomark _))
      (pss_one (ps_raise rfl (takes_of rfl rfl rfl rfl) (pmk_oex M.oex M.ic M.ti M.ok (hr.mono (by decide)) M.b .nil pass0 rfl M.g (pa_cons pe_str (pa_cons (pv 1) pa_nil))))) pss_nil), ?_⟩
    obtain ⟨r, ls, m, rfl, ring, l8, h⟩ := h
    obtain ⟨dx, t, hr0, ht⟩ := id ring
    refine ⟨_, rfl, r, C, dx, _, rfl, hr0, NM.at_, NM.fn, r, ls, rfl, ring, _, rfl, by omega, by omega, ?_⟩
    refine ⟨_, rfl, _, _, rfl, rfl, ?_⟩
    refine ⟨_, rfl, ?_⟩
    rcases h with ⟨e, q⟩ | ⟨e, q⟩
    · refine Eq.mpr (if_neg (by rw [decide_eq_false (by omega)]; exact Bool.false_ne_true)) ?_
      exact q
    · refine Eq.mpr (if_pos (decide_eq_true e)) ?_
      exact ⟨_, rfl, err_made2 M.oex M.nf M.ng q⟩
end
end K
namespace K
open PySem L2 Rg
open Evl (pss_cut)
section
variable {P : Program} {w : World} {K : PySem.W.Frag} {mg : Str → Option Value} {base : Heap}
theorem madeW {C : Addr} {E : XK} {H : Hp} {v : V} {way : List Strd} {n : Nat} {R : Addr → VK} (sw : SWat H v way) (gw : goodW n way) (n3 : 3 ≤ n) (n8 : n ≤ 8) (h : ∀ x H' way', way'.Perm way → LineW C H' x way' → Same H H' → R x .non H') :
    ∀ x dx, H x = none → H dx = none → dx ≠ x → spLU C (.ref x :: ([v] ++ [])) (upd (upd H dx (.own x)) x (.ins C dx [])) (R x) E := by
  intro x dx hx hdx _
  have s0 : Same H (upd (upd H dx (.own x)) x (.ins C dx [])) := fun b o q => by
    rw [upd_ne (ne_of_none q hx), upd_ne (ne_of_none q hdx)]
    exact q
  exact ⟨x, dx, v, way, n, rfl, upd_same, sw.same s0, gw, n3, n8, fun H' way' p l kp => h x H' way' p l fun b o e => kp b o (s0 b o e) (ne_of_none e hx)⟩
structure LineP (P : Program) (w : World) (K : PySem.W.Frag) (mg : Str → Option Value) (base : Heap) (C fI : Addr) (fdI : FuncData) : Prop where
  made : Mk K C fI
  ok : FnOk P w K mg base CX0 5 fI fdI ["self", "strands"] (spLU C)
  b : Binds K fdI ["self", "strands"] []
/-! ### many_lineups -/
structure Ce where
  r : Addr
  n : Addr
  m : Addr
def spMany (K : PySem.W.Frag) (C : Addr) (c : Ce) : Sp := fun vs H Q E => ∃ (v q : V), vs = [v, q] ∧ ((NoR K C H v ∧ Errs E c.r "part" (.str "ring") H) ∨ ∃ (r : Addr) (ls : List Int) (k : String), v = .ref r ∧ RingAt K C H r ls ∧ 3 ≤ ls.length ∧ ls.length ≤ 8 ∧ KndI K H q k ∧
  ((winB k 1 ls.length q = false ∧ Errs E c.n "part" (.str "many") H) ∨ ∃ i : Int, q = .int i ∧ winB k 1 ls.length q = true ∧ ((6 < ls.length ∧ ErrM E c.m 6 H) ∨ (ls.length ≤ 6 ∧ ∀ H', Same H H' → Q (.int (countR ls i.toNat)) H'))))
abbrev nML : List Str := ["ring", "many", "rows", "strands"]
theorem scML : FnScope nML ["ring", "many"] (defScope sManyLineups) := ⟨rfl, rfl, rfl, by decide +kernel, rfl, by decide +kernel, by decide +kernel⟩
theorem ok_ml {C CL f fR fQ fF fA fH fN fI : Addr} {c : Ce} {fd fdR fdQ fdF fdA fdH fdN fdI : FuncData} (F : Fun K "many_lineups" "many_lineups" sManyLineups f fd) (T : Bi mg) (h6 : ∃ t, mg "MOST_LISTED" = some (.int 6 t)) (RL : LineC K mg CL) (LP : LineP P w K mg base CL fI fdI)
    (NM : Meth K C "__len__" fN) (NL : FnOk P w K mg base CX0 1 fN fdN ["self"] (spRLen K C)) (NB : Binds K fdN ["self"] [])
    (WR : DefAt P w K mg base (L2.CX P w) 3 "want_ring" ["value", "part"] (spWantR K C c.r) fR fdR) (WN : DefAt P w K mg base (L2.CX P w) 3 "want_number" ["value", "least", "most", "part"] (spNumG K c.n) fQ fdQ) (WF : DefAt P w K mg base (L2.CX P w) 3 "want_few" ["ring", "most"] (spFew K C c.m) fF fdF)
    (AS : DefAt P w K mg base CX0 2 "all_strands" ["many"] (spAS K) fA fdA) (HD : DefAt P w K mg base CX0 2 "is_had" ["ring", "lineup"] (spHad K C CL) fH fdH) : FnOk P w K mg base (L2.CX P w) 7 f fd ["ring", "many"] (spMany K C c) := by
  refine F.okX scML (fun vs H Q E h => ?_) (fun cdv A outer s H vs Q E hr h => ?_)
  · obtain ⟨v, q, rfl, _⟩ := h
    rfl
  · have nd := scML.nd
    obtain ⟨t6, h6⟩ := h6
    refine ⟨_, pss_cons (ps_expr (pe_call WR.ok (hr.mono (by decide)) rfl WR.g WR.kp WR.b .nil (passes_call (takes_of rfl rfl rfl rfl) (fun _ _ _ _ h => h)) (pa_cons (pv 0) (pa_cons pe_str pa_nil))))
      (pss_cons (ps_expr (pe_call WN.ok (hr.mono (by decide)) rfl WN.g WN.kp WN.b .nil (passes_call (takes_of rfl rfl rfl rfl) (fun _ _ _ _ h => h)) (pa_cons (pv 1) (pa_cons pe_int (pa_cons (pe_callB (call_lenO NL (hr.mono (by decide)) NB) (by rfl) T.len PySem.boot_len (pa_cons (pv 0) pa_nil)) (pa_cons pe_str pa_nil))))))
      (pss_cons (ps_expr (pe_call WF.ok (hr.mono (by decide)) rfl WF.g WF.kp WF.b .nil (passes_call (takes_of rfl rfl rfl rfl) (fun _ _ _ _ h => h)) (pa_cons (pv 0) (pa_cons (pe_glob (v := .int 6) rfl h6 ⟨_, rfl⟩) pa_nil))))
      (pss_cons (ps_setLc (i := 2) (own := [("strands", 3)]) (g := gName 3) (tt := tTest (tOp rEq (tCB (rLenS K) (tCons (tVar 3) tNil)) (tVar 1))) (te := tVar 3) rfl nd rfl rfl (sw_true rfl rfl rfl (by decide +kernel)) (pi_list (pe_call AS.ok (hr.mono (by decide)) rfl AS.g AS.kp AS.b .nil pass0 (pa_cons (pe_callB (call_lenO NL (hr.mono (by decide)) NB) (by rfl) T.len PySem.boot_len (pa_cons (pv 0) pa_nil)) pa_nil)))
        (blkOk_by (N := nML) (sc := defScope sManyLineups) (by decide +kernel)) (fun _ _ _ _ _ => pg_name (i := 3) nd rfl (Or.inl rfl)) (fun _ _ _ _ _ => pts_one (pt_cmpR op_eq (pe_callB (r := rLenS K) call_len_seq (by rfl) T.len PySem.boot_len (pa_cons (pv 3) pa_nil)) (pv 1) (nomark _))) (fun _ _ _ _ _ => pv 3))
      (pss_one (ps_ret (pe_callB (r := rLenS K) call_len_seq (by rfl) T.len PySem.boot_len (pa_cons (pe_lc (own := [("strands", 3)]) (g := gName 3) (te := tVar 3) rfl nd (pi_list (pv 2))
        (blkOk_by (N := nML) (sc := defScope sManyLineups) (by decide +kernel)) (fun _ _ _ _ _ => pg_name (i := 3) nd rfl (Or.inl rfl)) (fun _ _ _ _ _ => pts_one (pt_val (pe_call HD.ok (hr.mono (by decide)) rfl HD.g HD.kp HD.b .nil pass0 (pa_cons (pv 0) (pa_cons (pe_make LP.made LP.ok (hr.mono (by decide)) (by rfl) RL.g LP.b .nil pass0 (pa_cons (pv 3) pa_nil)) pa_nil))))) (fun _ _ _ _ _ => pv 3)) pa_nil))))))), ?_⟩
    obtain ⟨v, q, rfl, h⟩ := h
    rcases h with ⟨no, er⟩ | ⟨r, ls, kd, rfl, ring, l3, l8, hk, h⟩
    · exact ⟨_, rfl, v, "ring", rfl, .inr ⟨no, er⟩⟩
    obtain ⟨dx, t, hr0, ht⟩ := id ring.weak
    refine ⟨_, rfl, .ref r, "ring", rfl, .inl ⟨r, ls, rfl, ring.weak, ?_⟩⟩
    refine ⟨_, rfl, _, rfl, r, C, dx, _, rfl, hr0, NM.at_, NM.fn, r, ls, rfl, ring.weak, _, rfl, by omega, by omega, q, kd, 1, ls.length, "many", rfl, hk, ?_⟩
    rcases h with ⟨e, er⟩ | ⟨i, rfl, e, h⟩
    · exact .inr ⟨e, er⟩
    refine .inl ⟨e, ?_⟩
    refine ⟨_, rfl, r, ls, 6, rfl, ring.weak, by omega, ?_⟩
    rcases h with ⟨g, er⟩ | ⟨g, k⟩
    · exact .inr ⟨by omega, er⟩
    refine .inl ⟨by omega, ?_⟩
    obtain ⟨n, hn⟩ : ∃ n, ls.length = n + 1 := ⟨ls.length - 1, by omega⟩
    have n5 : n ≤ 5 := by omega
    have few := allW_few n n5
    have i0 : 0 ≤ i := by
      unfold winB at e
      simp only [Bool.and_eq_true, decide_eq_true_eq] at e
      omega
    refine ⟨_, rfl, r, C, dx, _, rfl, hr0, NM.at_, NM.fn, r, ls, rfl, ring.weak, _, rfl, by omega, by omega, n, by rw [hn]; rfl, n5, fun p xs H1 s1 np h1 px => ⟨p, rfl, ⟨_, SqL.of h1⟩, fun D hD => ?_⟩⟩
    have xl : xs.length = (allW n).length := par_len px
    refine lc_list (K := K) (a := p) (xs := xs) (fun j H' => Same H1 H' ∧ ∃ us, H' D = some (.lst us) ∧ Paired (SWat H') us (((allW n).take j).filter fun w => decide (w.length = i.toNat))) ⟨(Same.refl H1).new hD, [], upd_same, .nil⟩ (fun j H' _ z => z.1.seq (SqL.of h1)) ?_ ?_
    · rintro j y H' hj ⟨s2, us, h2, pu⟩
      obtain ⟨way, hway, hw⟩ := par_get px hj
      obtain ⟨b, zs, rfl, hb, pz⟩ := hw.same s2
      have zl : zs.length = way.length := par_len pz
      refine ⟨rfl, _, rfl, b, zs, rfl, .inr (.inl (.inl hb)), _, rfl, ?_⟩
      refine ⟨rfl, _, rfl, ?_⟩
      by_cases c : way.length = i.toNat
      · refine Eq.mpr (if_pos (decide_eq_true (by rw [zl]; exact congrArg V.int (by omega)))) ?_
        refine ⟨_, rfl, us, h2, ?_, s2.mut hD, _, upd_same, ?_⟩
        · have l1 := par_len pu
          have l2 := Nat.le_trans (List.length_filter_le (fun w : List Strd => decide (w.length = i.toNat)) ((allW n).take j)) (List.length_take_le' ..)
          exact sm (by omega)
        · rw [← take_snoc hway, List.filter_append, show [way].filter (fun w : List Strd => decide (w.length = i.toNat)) = [way] from List.filter_cons_of_pos (p := fun w : List Strd => decide (w.length = i.toNat)) (decide_eq_true c)]
          exact par_app (par_imp (fun _ _ z => z.mut h2) pu) (.cons (SWat.mut ⟨b, zs, rfl, hb, pz⟩ h2) .nil)
      · refine Eq.mpr (if_neg (by rw [decide_eq_false (fun z => c (by have z2 := V.int.inj z; omega))]; exact Bool.false_ne_true)) ?_
        refine ⟨s2, us, h2, ?_⟩
        rw [← take_snoc hway, List.filter_append, show [way].filter (fun w : List Strd => decide (w.length = i.toNat)) = [] from List.filter_cons_of_neg (p := fun w : List Strd => decide (w.length = i.toNat)) (by rw [decide_eq_false c]; exact Bool.false_ne_true), List.append_nil]
        exact pu
    rintro H2 ⟨s2, us, h2, pu⟩
    rw [xl, List.take_length] at pu
    have ul := par_len pu
    have ul2 := Nat.le_trans (List.length_filter_le (fun w : List Strd => decide (w.length = i.toNat)) (allW n)) few
    refine ⟨_, rfl, D, rfl, ⟨_, SqL.of h2⟩, fun D2 hD2 => ?_⟩
    have ring2 := (ring.same s1).same s2
    refine lc_list (K := K) (a := D) (xs := us) (fun j H' => Same H2 H' ∧ ∃ ws, H' D2 = some (.lst ws) ∧ ws.length = ((((allW n).filter fun w => decide (w.length = i.toNat)).take j).filter (hadW ls)).length) ⟨(Same.refl H2).new hD2, [], upd_same, rfl⟩ (fun j H' _ z => z.1.seq (SqL.of h2)) ?_ ?_
    · rintro j y H' hj ⟨s3, ws, h3, lw⟩
      obtain ⟨way, hway, hw⟩ := par_get pu hj
      have hwm := (List.mem_filter.mp (List.mem_of_getElem? hway)).1
      obtain ⟨good, fit, pos⟩ := okW_good n5 (allW_wf n5 hwm)
      rw [← hn] at good fit
      refine ⟨rfl, _, rfl, _, rfl, madeW (hw.same s3) good l3 l8 fun o H4 way' pw lo s4 => ⟨rfl, ?_⟩⟩
      refine ⟨r, o, ls, way', rfl, (ring2.same s3).same s4, lo, fitW_perm pw fit, by rw [pw.length_eq]; exact pos, fun H5 s5 => ⟨_, rfl, ?_⟩⟩
      have s45 := s4.trans s5
      have same := hadW_perm ls pw
      by_cases c : hadW ls way = true
      · rw [c] at same
        refine Eq.mpr (if_pos same) ?_
        refine ⟨_, rfl, ws, s45 _ _ h3, ?_, (s3.trans s45).mut hD2, _, upd_same, ?_⟩
        · have l3 := List.length_filter_le (hadW ls) (((allW n).filter fun w => decide (w.length = i.toNat)).take j)
          have l4 : (((allW n).filter fun w => decide (w.length = i.toNat)).take j).length ≤ ((allW n).filter fun w => decide (w.length = i.toNat)).length := List.length_take_le' ..
          exact sm (by omega)
        · rw [← take_snoc hway, List.filter_append, List.filter_cons_of_pos c, List.length_append, List.length_append, lw]
          rfl
      · rw [Bool.not_eq_true] at c
        rw [c] at same
        refine Eq.mpr (if_neg (show ¬ hadW ls way' = true by rw [same]; exact Bool.false_ne_true)) ?_
        refine ⟨s3.trans s45, ws, s45 _ _ h3, ?_⟩
        rw [← take_snoc hway, List.filter_append, List.filter_cons_of_neg (by rw [c]; exact Bool.false_ne_true), List.filter_nil, List.append_nil]
        exact lw
    rintro H3 ⟨s3, ws, h3, lw⟩
    rw [show us.length = ((allW n).filter fun w => decide (w.length = i.toNat)).length from ul, List.take_length] at lw
    refine ⟨D2, ws, rfl, .inl (SqL.of h3), ?_⟩
    have z := k H3 ((s1.trans s2).trans s3)
    rw [← hadL_len hn, show (hadL ls n i.toNat).length = ws.length from lw.symm] at z
    exact z
end
end K
namespace K
open PySem L2 Rg
/-! ### the sums of all signs, of all parts -/
def pmI (x a : Int) : List Int := [a + x, a - x]
def onesL (ls : List Int) : Nat → List Int
  | 0 => []
  | 1 => [ls.getD 0 0]
  | n + 2 => (onesL ls (n + 1)).flatMap (pmI (ls.getD (n + 1) 0))
def signL (ls : List Int) : Nat → List Int
  | 0 => [0]
  | n + 1 => (signL ls n).flatMap (pmI (ls.getD n 0))
def subsL (ls : List Int) : Nat → List Int
  | 0 => [0]
  | n + 1 => subsL ls n ++ (subsL ls n).map fun s => s + ls.getD n 0
def totL (ls : List Int) : Nat → Int
  | 0 => 0
  | n + 1 => totL ls n + ls.getD n 0
theorem pm_perm (x : Int) (l : List Int) : (l.flatMap (pmI x)).Perm (l.map (fun a => a - x) ++ l.map fun a => a + x) := by
  induction l with
  | nil => exact .nil
  | cons a l ih =>
    rw [List.flatMap_cons, List.map_cons, List.map_cons]
    show ((a + x) :: (a - x) :: l.flatMap (pmI x)).Perm ((a - x) :: (l.map (fun a => a - x) ++ ((a + x) :: l.map fun a => a + x)))
    refine (List.Perm.swap _ _ _).trans (.cons _ ?_)
    exact ((List.Perm.cons _ ih)).trans List.perm_middle.symm
theorem sign_subs (ls : List Int) : ∀ n, (signL ls n).Perm ((subsL ls n).map fun s => 2 * s - totL ls n)
  | 0 => by simp [signL, subsL, totL]
  | n + 1 => by
    have ih := sign_subs ls n
    refine (pm_perm _ _).trans ?_
    show ((signL ls n).map (fun a => a - ls.getD n 0) ++ (signL ls n).map fun a => a + ls.getD n 0).Perm ((subsL ls n ++ (subsL ls n).map fun s => s + ls.getD n 0).map fun s => 2 * s - (totL ls n + ls.getD n 0))
    rw [List.map_append]
    refine List.Perm.append ?_ ?_
    · refine (ih.map _).trans ?_
      rw [List.map_map]
      refine List.Perm.of_eq (List.map_congr_left fun s _ => ?_)
      show 2 * s - totL ls n - ls.getD n 0 = 2 * s - (totL ls n + ls.getD n 0)
      omega
    · refine (ih.map _).trans ?_
      rw [List.map_map, List.map_map]
      refine List.Perm.of_eq (List.map_congr_left fun s _ => ?_)
      show 2 * s - totL ls n + ls.getD n 0 = 2 * (s + ls.getD n 0) - (totL ls n + ls.getD n 0)
      omega
theorem flat_perm {α β : Type} {a b : List α} (p : a.Perm b) (f : α → List β) : (a.flatMap f).Perm (b.flatMap f) := by
  induction p with
  | nil => exact .nil
  | cons x _ ih => rw [List.flatMap_cons, List.flatMap_cons]; exact List.Perm.append_left _ ih
  | swap x y l =>
    rw [List.flatMap_cons, List.flatMap_cons, List.flatMap_cons, List.flatMap_cons, ← List.append_assoc, ← List.append_assoc]
    exact List.Perm.append_right _ List.perm_append_comm
  | trans _ _ i j => exact i.trans j
theorem pm_neg (x : Int) (l : List Int) : ((l.map fun a => -a).flatMap (pmI x)).Perm ((l.flatMap (pmI x)).map fun a => -a) := by
  induction l with
  | nil => exact .nil
  | cons a l ih =>
    rw [List.map_cons, List.flatMap_cons, List.flatMap_cons, List.map_append]
    refine List.Perm.append ?_ ih
    show ([-a + x, -a - x] : List Int).Perm [-(a + x), -(a - x)]
    rw [show -(a + x) = -a - x by omega, show -(a - x) = -a + x by omega]
    exact List.Perm.swap _ _ _
theorem sign_ones (ls : List Int) : ∀ n, (signL ls (n + 1)).Perm (onesL ls (n + 1) ++ (onesL ls (n + 1)).map fun a => -a)
  | 0 => by
    show ([0 + ls.getD 0 0, 0 - ls.getD 0 0] : List Int).Perm [ls.getD 0 0, -ls.getD 0 0]
    rw [Int.zero_add, Int.zero_sub]
  | n + 1 => by
    show ((signL ls (n + 1)).flatMap (pmI (ls.getD (n + 1) 0))).Perm ((onesL ls (n + 1)).flatMap (pmI (ls.getD (n + 1) 0)) ++ ((onesL ls (n + 1)).flatMap (pmI (ls.getD (n + 1) 0))).map fun a => -a)
    refine (flat_perm (sign_ones ls n) _).trans ?_
    rw [List.flatMap_append]
    exact List.Perm.append_left _ (pm_neg _ _)
def zeros (l : List Int) : Nat := (l.filter fun a => decide (a = 0)).length
theorem zeros_perm {a b : List Int} (p : a.Perm b) : zeros a = zeros b := (p.filter _).length_eq
theorem zeros_neg (l : List Int) : zeros (l.map fun a => -a) = zeros l := by
  unfold zeros
  rw [List.filter_map, List.length_map]
  congr 1
  refine List.filter_congr fun a _ => ?_
  show decide (-a = 0) = decide (a = 0)
  rw [Bool.eq_iff_iff, decide_eq_true_eq, decide_eq_true_eq]
  omega
/-- how many parts have half of all -/
def halfL (ls : List Int) (n : Nat) : Nat := ((subsL ls n).filter fun s => decide (2 * s = totL ls n)).length
theorem half_zeros (ls : List Int) (n : Nat) : halfL ls (n + 1) = 2 * zeros (onesL ls (n + 1)) := by
  have a := zeros_perm (sign_ones ls n)
  have b := zeros_perm (sign_subs ls (n + 1))
  have c : zeros (onesL ls (n + 1) ++ (onesL ls (n + 1)).map fun a => -a) = zeros (onesL ls (n + 1)) + zeros ((onesL ls (n + 1)).map fun a => -a) := by
    unfold zeros
    rw [List.filter_append, List.length_append]
  rw [c, zeros_neg] at a
  have d : zeros ((subsL ls (n + 1)).map fun s => 2 * s - totL ls (n + 1)) = halfL ls (n + 1) := by
    unfold zeros halfL
    rw [List.filter_map, List.length_map]
    congr 1
    refine List.filter_congr fun s _ => ?_
    show decide (2 * s - totL ls (n + 1) = 0) = decide (2 * s = totL ls (n + 1))
    rw [Bool.eq_iff_iff, decide_eq_true_eq, decide_eq_true_eq]
    omega
  omega
end K
namespace K
open PySem L2 Rg
theorem twoR_len {row : List Int} {x : Int} {i : Nat} (h : i < row.length) : ∀ r ∈ twoR row x i, r.length = row.length := by
  intro r hr
  unfold twoR at hr
  rcases List.mem_cons.mp hr with rfl | hr
  · simp only [List.length_append, List.length_take, List.length_drop, List.length_cons, List.length_nil]
    omega
  · rw [List.mem_singleton.mp hr]
    simp only [List.length_append, List.length_take, List.length_drop, List.length_cons, List.length_nil]
    omega
theorem stepR_len {row : List Int} {x : Int} : ∀ r ∈ stepR row x, r = row ++ [x] ∨ (r.length = row.length ∧ 0 < row.length) := by
  intro r hr
  unfold stepR stepT at hr
  rcases List.mem_cons.mp hr with rfl | hr
  · exact .inl rfl
  · obtain ⟨i, hi, m⟩ := List.mem_flatMap.mp hr
    have il := List.mem_range.mp hi
    exact .inr ⟨twoR_len il r m, by omega⟩
theorem rows_pos (ls : List Int) : ∀ n, ∀ r ∈ rowsL ls n, r.length ≤ n ∧ (0 < n → 0 < r.length)
  | 0 => fun r hr => by
    rw [List.mem_singleton.mp hr]
    exact ⟨Nat.le_refl _, fun h => absurd h (Nat.lt_irrefl _)⟩
  | n + 1 => fun r hr => by
    obtain ⟨row, hrow, m⟩ := List.mem_flatMap.mp hr
    have ih := rows_pos ls n row hrow
    rcases stepR_len r m with rfl | ⟨e, p⟩
    · rw [List.length_append]
      exact ⟨Nat.succ_le_succ ih.1, fun _ => Nat.succ_pos _⟩
    · exact ⟨by omega, fun _ => by omega⟩
def isLen (k : Nat) (r : List Int) : Bool := decide (r.length = k)
theorem step_one {row : List Int} {x : Int} (h : 0 < row.length) : (stepR row x).filter (isLen 1) = if isLen 1 row = true then [[row.getD 0 0 + x], [row.getD 0 0 - x]] else [] := by
  obtain _ | ⟨a, _ | ⟨b, t⟩⟩ := row
  · exact absurd h (Nat.lt_irrefl _)
  · simp [stepR, stepT, twoR, isLen]
  · rw [if_neg (by unfold isLen; rw [decide_eq_false (by simp)]; exact Bool.false_ne_true)]
    refine List.filter_eq_nil_iff.mpr fun r hr => ?_
    unfold isLen
    rw [decide_eq_true_eq]
    rcases stepR_len r hr with rfl | ⟨e, _⟩
    · simp
    · rw [e]; simp
theorem steps_one (x : Int) : ∀ R : List (List Int), (∀ r ∈ R, 0 < r.length) → (R.flatMap fun r => stepR r x).filter (isLen 1) = (R.filter (isLen 1)).flatMap fun r => [[r.getD 0 0 + x], [r.getD 0 0 - x]]
  | [], _ => rfl
  | r :: R, h => by
    rw [List.flatMap_cons, List.filter_append, step_one (h r (List.mem_cons_self ..)), steps_one x R fun y hy => h y (List.mem_cons_of_mem _ hy)]
    by_cases c : isLen 1 r = true
    · rw [if_pos c, List.filter_cons_of_pos c, List.flatMap_cons]
    · rw [if_neg c, List.filter_cons_of_neg c, List.nil_append]
theorem rows_ones (ls : List Int) : ∀ n, (rowsL ls n).filter (isLen 1) = (onesL ls n).map fun a => [a]
  | 0 => rfl
  | 1 => by simp [rowsL, stepR, stepT, isLen, onesL]
  | n + 2 => by
    show ((rowsL ls (n + 1)).flatMap fun row => stepR row (ls.getD (n + 1) 0)).filter (isLen 1) = ((onesL ls (n + 1)).flatMap (pmI (ls.getD (n + 1) 0))).map fun a => [a]
    rw [steps_one _ _ (fun r hr => (rows_pos ls (n + 1) r hr).2 (Nat.succ_pos _)), rows_ones ls (n + 1), List.flatMap_map, List.map_flatMap]
    rfl
theorem had_one (a : Int) : hadR [a] = decide (a = 0) := by
  unfold hadR
  simp only [List.map_cons, List.map_nil, List.all_cons, List.all_nil, Bool.and_true, List.sum_cons, List.sum_nil]
  rw [Bool.eq_iff_iff, decide_eq_true_eq, decide_eq_true_eq]
  omega
theorem count_eq (ls : List Int) (k : Nat) : countR ls k = (((rowsL ls ls.length).filter (isLen k)).filter hadR).length := by
  unfold countR
  rw [List.filter_filter]
  congr 1
  refine List.filter_congr fun r _ => ?_
  rw [Bool.and_comm]
  rfl
theorem count_one (ls : List Int) : countR ls 1 = zeros (onesL ls ls.length) := by
  rw [count_eq, rows_ones, List.filter_map, List.length_map]
  unfold zeros
  congr 1
  exact List.filter_congr fun a _ => had_one a
/-- twice the line-ups of one strand are the parts with half of all -/
theorem count_half {ls : List Int} (h : 0 < ls.length) : halfL ls ls.length = 2 * countR ls 1 := by
  obtain ⟨n, e⟩ : ∃ n, ls.length = n + 1 := ⟨ls.length - 1, by omega⟩
  rw [count_one, e]
  exact half_zeros ls n
/-! ### each bar by itself -/
def fullL (ls : List Int) : Nat → List Int
  | 0 => []
  | n + 1 => fullL ls n ++ [ls.getD n 0]
theorem full_len (ls : List Int) : ∀ n, (fullL ls n).length = n
  | 0 => rfl
  | n + 1 => by
    show (fullL ls n ++ [ls.getD n 0]).length = n + 1
    rw [List.length_append, full_len ls n]
    rfl
theorem full_take (ls : List Int) : ∀ n, n ≤ ls.length → fullL ls n = ls.take n
  | 0, _ => by rw [List.take_zero]; rfl
  | n + 1, h => by
    show fullL ls n ++ [ls.getD n 0] = _
    rw [full_take ls n (by omega), List.getD_eq_getElem?_getD, List.getElem?_eq_getElem (by omega)]
    exact take_snoc (List.getElem?_eq_getElem (by omega))
theorem steps_full (x : Int) (n : Nat) : ∀ R : List (List Int), (∀ r ∈ R, r.length ≤ n) → (R.flatMap fun r => stepR r x).filter (isLen (n + 1)) = (R.filter (isLen n)).map fun r => r ++ [x]
  | [], _ => rfl
  | r :: R, h => by
    rw [List.flatMap_cons, List.filter_append, steps_full x n R fun y hy => h y (List.mem_cons_of_mem _ hy)]
    have hr := h r (List.mem_cons_self ..)
    have tl : ((List.range r.length).flatMap (twoR r x)).filter (isLen (n + 1)) = [] := by
      refine List.filter_eq_nil_iff.mpr fun y hy => ?_
      obtain ⟨i, hi, m⟩ := List.mem_flatMap.mp hy
      unfold isLen
      rw [decide_eq_true_eq, twoR_len (List.mem_range.mp hi) y m]
      omega
    show ((r ++ [x]) :: (List.range r.length).flatMap (twoR r x)).filter (isLen (n + 1)) ++ _ = _
    have e : (r ++ [x]).length = r.length + 1 := by rw [List.length_append]; rfl
    by_cases c : r.length = n
    · rw [List.filter_cons_of_pos (show isLen (n + 1) (r ++ [x]) = true from decide_eq_true (by omega)), tl, List.filter_cons_of_pos (show isLen n r = true from decide_eq_true c), List.map_cons]
      rfl
    · rw [List.filter_cons_of_neg (show ¬ isLen (n + 1) (r ++ [x]) = true by unfold isLen; rw [decide_eq_true_eq]; omega), tl, List.filter_cons_of_neg (show ¬ isLen n r = true by unfold isLen; rw [decide_eq_true_eq]; exact c)]
      rfl
theorem rows_full (ls : List Int) : ∀ n, (rowsL ls n).filter (isLen n) = [fullL ls n]
  | 0 => by rfl
  | n + 1 => by
    show ((rowsL ls n).flatMap fun row => stepR row (ls.getD n 0)).filter (isLen (n + 1)) = _
    rw [steps_full _ _ _ (fun r hr => (rows_pos ls n r hr).1), rows_full ls n]
    rfl
theorem count_full (ls : List Int) : countR ls ls.length = if hadR ls = true then 1 else 0 := by
  rw [count_eq, rows_full, full_take ls ls.length (Nat.le_refl _), List.take_length]
  by_cases c : hadR ls = true
  · rw [if_pos c, List.filter_cons_of_pos c]
    rfl
  · rw [if_neg c, List.filter_cons_of_neg c]
    rfl
end K
namespace K
open PySem L2 Rg
/-! ### lengths made twice as long -/
def dbl (r : List Int) : List Int := r.map fun a => 2 * a
theorem dbl_get (r : List Int) (i : Nat) : (dbl r).getD i 0 = 2 * r.getD i 0 := by
  unfold dbl
  rw [List.getD_eq_getElem?_getD, List.getD_eq_getElem?_getD, List.getElem?_map]
  cases r[i]? with
  | none => rfl
  | some a => rfl
theorem two_dbl (row : List Int) (x : Int) (i : Nat) : twoR (dbl row) (2 * x) i = (twoR row x i).map dbl := by
  unfold twoR
  rw [dbl_get]
  simp only [List.map_cons, List.map_nil]
  unfold dbl
  simp only [List.map_append, List.map_cons, List.map_nil, List.map_take, List.map_drop]
  rw [show 2 * (row.getD i 0 + x) = 2 * row.getD i 0 + 2 * x by omega, show 2 * (row.getD i 0 - x) = 2 * row.getD i 0 - 2 * x by omega]
theorem step_dbl (row : List Int) (x : Int) : stepR (dbl row) (2 * x) = (stepR row x).map dbl := by
  unfold stepR stepT
  rw [List.map_cons, List.map_flatMap, show (dbl row).length = row.length from List.length_map ..]
  congr 1
  · unfold dbl
    rw [List.map_append]
    rfl
  · congr 1
    funext i
    exact two_dbl row x i
theorem rows_dbl (ls : List Int) : ∀ n, rowsL (dbl ls) n = (rowsL ls n).map dbl
  | 0 => rfl
  | n + 1 => by
    show (rowsL (dbl ls) n).flatMap (fun row => stepR row ((dbl ls).getD n 0)) = ((rowsL ls n).flatMap fun row => stepR row (ls.getD n 0)).map dbl
    rw [rows_dbl ls n, dbl_get, List.flatMap_map, List.map_flatMap]
    congr 1
    funext r
    exact step_dbl r _
theorem abs_dbl (r : List Int) : (dbl r).map (fun z => (z.natAbs : Int)) = dbl (r.map fun z => (z.natAbs : Int)) := by
  unfold dbl
  rw [List.map_map, List.map_map]
  refine List.map_congr_left fun a _ => ?_
  show ((2 * a).natAbs : Int) = 2 * (a.natAbs : Int)
  omega
theorem sum_dbl : ∀ r : List Int, (dbl r).sum = 2 * r.sum
  | [] => rfl
  | a :: r => by
    show (2 * a :: dbl r).sum = 2 * (a :: r).sum
    rw [List.sum_cons, List.sum_cons, sum_dbl r]
    omega
theorem had_dbl (r : List Int) : hadR (dbl r) = hadR r := by
  unfold hadR
  rw [abs_dbl, sum_dbl]
  generalize (r.map fun z => (z.natAbs : Int)) = m
  unfold dbl
  rw [List.all_map]
  congr 1
  funext a
  show decide (2 * (2 * a) ≤ 2 * m.sum) = decide (2 * a ≤ m.sum)
  rw [Bool.eq_iff_iff, decide_eq_true_eq, decide_eq_true_eq]
  omega
theorem count_dbl (ls : List Int) (k : Nat) : countR (dbl ls) k = countR ls k := by
  unfold countR
  rw [show (dbl ls).length = ls.length from List.length_map .., rows_dbl, List.filter_map, List.length_map]
  congr 1
  refine List.filter_congr fun r _ => ?_
  show (decide ((dbl r).length = k) && hadR (dbl r)) = (decide (r.length = k) && hadR r)
  rw [had_dbl, show (dbl r).length = r.length from List.length_map ..]
end K
namespace K
open PySem L2 Rg
/-! ### lengths in another order: rows alike up to order and signs -/
inductive Sim : List Int → List Int → Prop
  | nil : Sim [] []
  | cons {a b : Int} {m n : List Int} : a.natAbs = b.natAbs → Sim m n → Sim (a :: m) (b :: n)
  | swap (a b : Int) (m : List Int) : Sim (a :: b :: m) (b :: a :: m)
  | trans {a b c : List Int} : Sim a b → Sim b c → Sim a c
theorem Sim.refl : ∀ m, Sim m m
  | [] => .nil
  | _ :: m => .cons rfl (Sim.refl m)
inductive SimL : List (List Int) → List (List Int) → Prop
  | nil : SimL [] []
  | cons {a b : List Int} {m n : List (List Int)} : Sim a b → SimL m n → SimL (a :: m) (b :: n)
  | swap (a b : List Int) (m : List (List Int)) : SimL (a :: b :: m) (b :: a :: m)
  | trans {a b c : List (List Int)} : SimL a b → SimL b c → SimL a c
theorem SimL.refl : ∀ m, SimL m m
  | [] => .nil
  | r :: m => .cons (Sim.refl r) (SimL.refl m)
theorem SimL.perm {a b : List (List Int)} (p : a.Perm b) : SimL a b := by
  induction p with
  | nil => exact .nil
  | cons x _ ih => exact .cons (Sim.refl x) ih
  | swap x y l => exact .swap y x l
  | trans _ _ i j => exact i.trans j
theorem SimL.app_left : ∀ (A : List (List Int)) {C D : List (List Int)}, SimL C D → SimL (A ++ C) (A ++ D)
  | [], _, _, h => h
  | r :: A, _, _, h => .cons (Sim.refl r) (SimL.app_left A h)
theorem SimL.app {A B C D : List (List Int)} (h : SimL A B) (k : SimL C D) : SimL (A ++ C) (B ++ D) := by
  refine SimL.trans (SimL.app_left A k) ?_
  clear k
  induction h with
  | nil => exact SimL.refl _
  | cons s _ ih => exact .cons s ih
  | swap a b m => exact .swap a b _
  | trans _ _ i j => exact i.trans j
theorem SimL.map {A B : List (List Int)} {f g : List Int → List Int} (h : SimL A B) (k : ∀ r s, Sim r s → Sim (f r) (g s)) (kf : ∀ r s, Sim r s → Sim (f r) (f s)) : SimL (A.map f) (B.map g) := by
  have e : ∀ R : List (List Int), SimL (R.map f) (R.map g) := fun R => by
    induction R with
    | nil => exact .nil
    | cons r R ih => exact .cons (k r r (Sim.refl r)) ih
  refine SimL.trans ?_ (e B)
  induction h with
  | nil => exact .nil
  | cons s _ ih => exact .cons (kf _ _ s) ih
  | swap a b m => exact .swap _ _ _
  | trans _ _ i j => exact i.trans j
theorem SimL.flat {A B : List (List Int)} {f g : List Int → List (List Int)} (h : SimL A B) (k : ∀ r s, Sim r s → SimL (f r) (f s)) (kg : ∀ r, SimL (f r) (g r)) : SimL (A.flatMap f) (B.flatMap g) := by
  have e : ∀ R : List (List Int), SimL (R.flatMap f) (R.flatMap g) := fun R => by
    induction R with
    | nil => exact .nil
    | cons r R ih => rw [List.flatMap_cons, List.flatMap_cons]; exact (kg r).app ih
  refine SimL.trans ?_ (e B)
  induction h with
  | nil => exact .nil
  | cons s _ ih => rw [List.flatMap_cons, List.flatMap_cons]; exact (k _ _ s).app ih
  | swap a b m => exact SimL.perm (flat_perm (List.Perm.swap b a m) f)
  | trans _ _ i j => exact i.trans j
def chg (x : Int) : List Int → List (List Int)
  | [] => []
  | a :: m => ((a + x) :: m) :: ((a - x) :: m) :: (chg x m).map fun r => a :: r
def stepC (x : Int) (m : List Int) : List (List Int) := (x :: m) :: chg x m
theorem chg_sim (x : Int) {m n : List Int} (h : Sim m n) : SimL (chg x m) (chg x n) := by
  induction h with
  | nil => exact .nil
  | @cons a b m n e s ih =>
    have tl : SimL ((chg x m).map fun r => a :: r) ((chg x n).map fun r => b :: r) := ih.map (fun _ _ k => .cons e k) fun _ _ k => .cons rfl k
    by_cases c : a = b
    · subst c
      exact .cons (.cons rfl s) (.cons (.cons rfl s) tl)
    · refine (SimL.swap _ _ _).trans ?_
      exact .cons (.cons (by omega) s) (.cons (.cons (by omega) s) tl)
  | swap a b m =>
    have tl : SimL (((chg x m).map fun r => b :: r).map fun r => a :: r) (((chg x m).map fun r => a :: r).map fun r => b :: r) := by
      rw [List.map_map, List.map_map]
      exact (SimL.refl (chg x m)).map (fun r s k => (Sim.swap a b r).trans (.cons rfl (.cons rfl k))) fun r s k => .cons rfl (.cons rfl k)
    show SimL (((a + x) :: b :: m) :: ((a - x) :: b :: m) :: (a :: (b + x) :: m) :: (a :: (b - x) :: m) :: ((chg x m).map fun r => b :: r).map fun r => a :: r) (((b + x) :: a :: m) :: ((b - x) :: a :: m) :: (b :: (a + x) :: m) :: (b :: (a - x) :: m) :: ((chg x m).map fun r => a :: r).map fun r => b :: r)
    refine SimL.trans (SimL.perm (b := (a :: (b + x) :: m) :: (a :: (b - x) :: m) :: ((a + x) :: b :: m) :: ((a - x) :: b :: m) :: ((chg x m).map fun r => b :: r).map fun r => a :: r) ?_) ?_
    · exact List.Perm.append_right (t₁ := _) (l₁ := [(a + x) :: b :: m, (a - x) :: b :: m, a :: (b + x) :: m, a :: (b - x) :: m]) (l₂ := [a :: (b + x) :: m, a :: (b - x) :: m, (a + x) :: b :: m, (a - x) :: b :: m]) (List.perm_append_comm (l₁ := [(a + x) :: b :: m, (a - x) :: b :: m]) (l₂ := [a :: (b + x) :: m, a :: (b - x) :: m]))
    · exact .cons (.swap _ _ _) (.cons (.swap _ _ _) (.cons (.swap _ _ _) (.cons (.swap _ _ _) tl)))
  | trans _ _ i j => exact i.trans j
theorem stepC_sim (x : Int) {m n : List Int} (h : Sim m n) : SimL (stepC x m) (stepC x n) := .cons (.cons rfl h) (chg_sim x h)
theorem flat_two {f : List Int → List Int} {g : List Int → List (List Int)} : ∀ R : List (List Int), (R.flatMap fun r => f r :: g r).Perm (R.map f ++ R.flatMap g)
  | [] => .nil
  | r :: R => by
    rw [List.flatMap_cons, List.flatMap_cons, List.map_cons]
    show (f r :: (g r ++ R.flatMap fun r => f r :: g r)).Perm (f r :: (R.map f ++ (g r ++ R.flatMap g)))
    refine .cons _ ?_
    refine (List.Perm.append_left _ (flat_two R)).trans ?_
    rw [← List.append_assoc, ← List.append_assoc]
    exact List.Perm.append_right _ List.perm_append_comm
theorem Sim.abs {m n : List Int} (h : Sim m n) : (m.map fun z => (z.natAbs : Int)).Perm (n.map fun z => (z.natAbs : Int)) := by
  induction h with
  | nil => exact .nil
  | cons e _ ih => rw [List.map_cons, List.map_cons, e]; exact .cons _ ih
  | swap a b m => exact List.Perm.swap _ _ _
  | trans _ _ i j => exact i.trans j
theorem Sim.had {m n : List Int} (h : Sim m n) : m.length = n.length ∧ hadR m = hadR n := by
  have p := h.abs
  refine ⟨by have := p.length_eq; simpa using this, ?_⟩
  exact hadN_perm p
theorem SimL.count {R S : List (List Int)} (h : SimL R S) (k : Nat) : (R.filter fun r => decide (r.length = k) && hadR r).length = (S.filter fun r => decide (r.length = k) && hadR r).length := by
  induction h with
  | nil => rfl
  | @cons a b m n s _ ih =>
    have e := s.had
    rw [List.filter_cons, List.filter_cons, e.1, e.2]
    split
    · rw [List.length_cons, List.length_cons, ih]
    · exact ih
  | swap a b m => exact (List.Perm.filter _ (List.Perm.swap b a m)).length_eq
  | trans _ _ i j => exact i.trans j
end K
namespace K
open PySem L2 Rg
theorem twoR_succ (a : Int) (m : List Int) (x : Int) (i : Nat) : twoR (a :: m) x (i + 1) = (twoR m x i).map fun r => a :: r := by
  unfold twoR
  simp
theorem twos_chg (x : Int) : ∀ m : List Int, (List.range m.length).flatMap (twoR m x) = chg x m
  | [] => rfl
  | a :: m => by
    rw [List.length_cons, List.range_succ_eq_map, List.flatMap_cons, List.flatMap_map]
    have e : (List.range m.length).flatMap (fun i => twoR (a :: m) x (i + 1)) = (chg x m).map fun r => a :: r := by
      rw [← twos_chg x m, List.map_flatMap]
      refine congrArg (fun f => (List.range m.length).flatMap f) ?_
      funext i
      exact twoR_succ a m x i
    show twoR (a :: m) x 0 ++ (List.range m.length).flatMap (fun i => twoR (a :: m) x (i + 1)) = _
    rw [e]
    simp [twoR, chg]
theorem snoc_sim (x : Int) : ∀ m : List Int, Sim (m ++ [x]) (x :: m)
  | [] => Sim.refl _
  | a :: m => Sim.trans (.cons rfl (snoc_sim x m)) (.swap _ _ _)
theorem step_sim (x : Int) (m : List Int) : SimL (stepR m x) (stepC x m) := by
  unfold stepR stepT stepC
  rw [twos_chg]
  exact .cons (snoc_sim x m) (SimL.refl _)
theorem chg_two (x y a : Int) (m : List Int) : ((chg x (a :: m)).flatMap (chg y)).Perm ([(a + x + y) :: m, (a + x - y) :: m, (a - x + y) :: m, (a - x - y) :: m] ++ ((chg y m).map (fun r => (a + x) :: r) ++ ((chg y m).map (fun r => (a - x) :: r) ++ ((chg x m).map (fun r => (a + y) :: r) ++ ((chg x m).map (fun r => (a - y) :: r) ++ ((chg x m).flatMap (chg y)).map fun r => a :: r))))) := by
  have third : (((chg x m).map fun r => a :: r).flatMap (chg y)).Perm ((chg x m).map (fun r => (a + y) :: r) ++ ((chg x m).map (fun r => (a - y) :: r) ++ ((chg x m).flatMap (chg y)).map fun r => a :: r)) := by
    rw [List.flatMap_map]
    refine (flat_two (f := fun r => (a + y) :: r) (g := fun r => ((a - y) :: r) :: (chg y r).map fun r => a :: r) (chg x m)).trans ?_
    refine List.Perm.append_left _ ?_
    refine (flat_two (f := fun r => (a - y) :: r) (g := fun r => (chg y r).map fun r => a :: r) (chg x m)).trans ?_
    rw [List.map_flatMap]
  show (((a + x + y) :: m) :: ((a + x - y) :: m) :: (chg y m).map (fun r => (a + x) :: r) ++ (((a - x + y) :: m) :: ((a - x - y) :: m) :: (chg y m).map (fun r => (a - x) :: r) ++ ((chg x m).map fun r => a :: r).flatMap (chg y))).Perm _
  refine (List.Perm.append_left _ (List.Perm.append_left _ third)).trans ?_
  generalize (chg x m).map (fun r => (a + y) :: r) ++ ((chg x m).map (fun r => (a - y) :: r) ++ ((chg x m).flatMap (chg y)).map fun r => a :: r) = Z
  generalize (chg y m).map (fun r => (a + x) :: r) = U
  generalize (chg y m).map (fun r => (a - x) :: r) = W
  show ([(a + x + y) :: m, (a + x - y) :: m] ++ (U ++ ([(a - x + y) :: m, (a - x - y) :: m] ++ (W ++ Z)))).Perm ([(a + x + y) :: m, (a + x - y) :: m] ++ ([(a - x + y) :: m, (a - x - y) :: m] ++ (U ++ (W ++ Z))))
  refine List.perm_iff_count.mpr fun z => ?_
  simp only [List.count_append]
  omega
theorem chg_ex (x y : Int) : ∀ m : List Int, SimL ((chg x m).flatMap (chg y)) ((chg y m).flatMap (chg x))
  | [] => .nil
  | a :: m => by
    have ih := (chg_ex x y m).map (f := fun r => a :: r) (g := fun r => a :: r) (fun _ _ k => .cons rfl k) fun _ _ k => .cons rfl k
    refine (SimL.perm (chg_two x y a m)).trans (SimL.trans ?_ (SimL.perm (chg_two y x a m).symm))
    refine SimL.app ?_ ?_
    · rw [show a + y + x = a + x + y by omega, show a + y - x = a - x + y by omega, show a - y + x = a + x - y by omega, show a - y - x = a - x - y by omega]
      exact .cons (Sim.refl _) (.swap _ _ _)
    · refine SimL.trans (SimL.app_left _ (SimL.app_left _ (SimL.app_left _ (SimL.app_left _ ih)))) ?_
      generalize (chg y m).map (fun r => (a + x) :: r) = A
      generalize (chg y m).map (fun r => (a - x) :: r) = B
      generalize (chg x m).map (fun r => (a + y) :: r) = C
      generalize (chg x m).map (fun r => (a - y) :: r) = D
      generalize ((chg y m).flatMap (chg x)).map (fun r => a :: r) = Z
      refine SimL.perm ?_
      refine List.perm_iff_count.mpr fun z => ?_
      simp only [List.count_append]
      omega
theorem step_ex (x y : Int) (m : List Int) : SimL ((stepC x m).flatMap (stepC y)) ((stepC y m).flatMap (stepC x)) := by
  have go : ∀ x y : Int, SimL ((stepC x m).flatMap (stepC y)) ([y :: x :: m, (x + y) :: m, (x - y) :: m] ++ ((chg y m).map (fun r => x :: r) ++ ((chg x m).map (fun r => y :: r) ++ (chg x m).flatMap (chg y)))) := fun x y => by
    show SimL ((y :: x :: m) :: ((x + y) :: m) :: ((x - y) :: m) :: (chg y m).map (fun r => x :: r) ++ (chg x m).flatMap (stepC y)) _
    have t := SimL.perm (flat_two (f := fun r => y :: r) (g := chg y) (chg x m))
    have z := SimL.app_left ((y :: x :: m) :: ((x + y) :: m) :: ((x - y) :: m) :: (chg y m).map (fun r => x :: r)) t
    exact z
  have back : SimL ([x :: y :: m, (y + x) :: m, (y - x) :: m] ++ ((chg x m).map (fun r => y :: r) ++ ((chg y m).map (fun r => x :: r) ++ (chg y m).flatMap (chg x)))) ((stepC y m).flatMap (stepC x)) := by
    have t := SimL.perm (flat_two (f := fun r => x :: r) (g := chg x) (chg y m)).symm
    have z := SimL.app_left ((x :: y :: m) :: ((y + x) :: m) :: ((y - x) :: m) :: (chg x m).map (fun r => y :: r)) t
    exact z
  refine (go x y).trans (SimL.trans ?_ back)
  refine SimL.app ?_ ?_
  · rw [show y + x = x + y by omega]
    exact .cons (.swap _ _ _) (.cons (Sim.refl _) (.cons (.cons (by omega) (Sim.refl m)) .nil))
  · refine SimL.trans (SimL.app_left _ (SimL.app_left _ (chg_ex x y m))) (SimL.perm ?_)
    refine List.perm_iff_count.mpr fun z => ?_
    simp only [List.count_append]
    omega
/-- the rows of these lengths, one after another -/
def rowsF : List Int → List (List Int) → List (List Int)
  | [], R => R
  | x :: l, R => rowsF l (R.flatMap (stepC x))
theorem rowsF_sim : ∀ (l : List Int) {R S : List (List Int)}, SimL R S → SimL (rowsF l R) (rowsF l S)
  | [], _, _, h => h
  | x :: l, _, _, h => rowsF_sim l (h.flat (fun _ _ s => stepC_sim x s) fun _ => SimL.refl _)
theorem rowsF_perm {l k : List Int} (p : l.Perm k) : ∀ R, SimL (rowsF l R) (rowsF k R) := by
  induction p with
  | nil => exact fun R => SimL.refl _
  | cons x _ ih => exact fun R => ih _
  | swap x y l =>
    intro R
    show SimL (rowsF l ((R.flatMap (stepC y)).flatMap (stepC x))) (rowsF l ((R.flatMap (stepC x)).flatMap (stepC y)))
    refine rowsF_sim l ?_
    rw [List.flatMap_assoc, List.flatMap_assoc]
    induction R with
    | nil => exact .nil
    | cons r R ih => rw [List.flatMap_cons, List.flatMap_cons]; exact (step_ex y x r).app ih
  | trans _ _ i j => exact fun R => (i R).trans (j R)
theorem rowsF_snoc (x : Int) : ∀ (l : List Int) (R : List (List Int)), rowsF (l ++ [x]) R = (rowsF l R).flatMap (stepC x)
  | [], _ => rfl
  | _ :: l, _ => rowsF_snoc x l _
theorem rows_rowsF (ls : List Int) : ∀ n, SimL (rowsL ls n) (rowsF (fullL ls n) [[]])
  | 0 => SimL.refl _
  | n + 1 => by
    show SimL ((rowsL ls n).flatMap fun row => stepR row (ls.getD n 0)) (rowsF (fullL ls n ++ [ls.getD n 0]) [[]])
    rw [rowsF_snoc]
    have a : SimL ((rowsL ls n).flatMap fun row => stepR row (ls.getD n 0)) ((rowsL ls n).flatMap (stepC (ls.getD n 0))) := by
      generalize rowsL ls n = R
      induction R with
      | nil => exact .nil
      | cons r R ih => rw [List.flatMap_cons, List.flatMap_cons]; exact (step_sim _ r).app ih
    exact a.trans ((rows_rowsF ls n).flat (fun _ _ s => stepC_sim _ s) fun _ => SimL.refl _)
theorem count_rowsF (ls : List Int) (k : Nat) : countR ls k = ((rowsF ls [[]]).filter fun r => decide (r.length = k) && hadR r).length := by
  have a := (rows_rowsF ls ls.length).count k
  rw [full_take ls ls.length (Nat.le_refl _), List.take_length] at a
  exact a
/-- the count is the same for the lengths in any order -/
theorem count_perm {l m : List Int} (p : l.Perm m) (k : Nat) : countR l k = countR m k := by
  rw [count_rowsF, count_rowsF]
  exact (rowsF_perm p [[]]).count k
end K
namespace K
open PySem L2 Rg
open Evl (pss_cut)
theorem subs_sums (ls : List Int) : ∀ n, n ≤ ls.length → subsL ls n = sumsOf (ls.take n)
  | 0, _ => by rw [List.take_zero]; rfl
  | n + 1, h => by
    have hz : ls[n]? = some (ls.getD n 0) := by rw [List.getD_eq_getElem?_getD, List.getElem?_eq_getElem (by omega)]; rfl
    rw [sums_take hz, ← subs_sums ls n (by omega)]
    rfl
theorem tot_sum (ls : List Int) : ∀ n, n ≤ ls.length → totL ls n = (ls.take n).sum
  | 0, _ => by rw [List.take_zero]; rfl
  | n + 1, h => by
    have hz : ls[n]? = some (ls.getD n 0) := by rw [List.getD_eq_getElem?_getD, List.getElem?_eq_getElem (by omega)]; rfl
    rw [← take_snoc hz, List.sum_append, ← tot_sum ls n (by omega)]
    simp [totL]
theorem half_sums (ls : List Int) : halfL ls ls.length = ((sumsOf ls).filter fun o => decide (2 * o = ls.sum)).length := by
  unfold halfL
  rw [subs_sums ls ls.length (Nat.le_refl _), tot_sum ls ls.length (Nat.le_refl _), List.take_length]
section
variable {P : Program} {w : World} {K : PySem.W.Frag} {mg : Str → Option Value} {base : Heap}
/-! ### the law's levels -/
def spLev (K : PySem.W.Frag) : Sp := fun vs H Q _ => ∃ (t : Addr) (ls : List Int), vs = [.ref t] ∧ SqL K H t (ls.map V.int) ∧ ls.length ≤ 8 ∧ ∀ H', Same H H' → Q (.int (halfL ls ls.length)) H'
abbrev nLev : List Str := ["_law_lengths_here", "_law_sums", "_law_length", "_law_one"]
theorem scLev : FnScope nLev ["_law_lengths_here"] (defScope sLwLevels) := ⟨rfl, rfl, rfl, by decide +kernel, rfl, by decide +kernel, by decide +kernel⟩
theorem ok_lev {f : Addr} {fd : FuncData} (F : Fun K "_law_levels" "_law_levels" sLwLevels f fd) (T : Bi mg) : FnOk P w K mg base CX0 2 f fd ["_law_lengths_here"] (spLev K) := by
  refine F.ok scLev (fun vs H Q E h => ?_) (fun cdv A outer s H vs Q E hr h => ?_)
  · obtain ⟨a, ls, rfl, _⟩ := h
    rfl
  · have nd := scLev.nd
    refine ⟨_, pss_cons (ps_set (i := 1) nd rfl (Or.inl rfl) (pe_lst (pa_cons pe_int pa_nil)))
      (pss_cons (ps_for PassesOwn.never rfl (pi_list (pv 0)) (pg_name (i := 2) nd rfl (Or.inr rfl)) (pss_one (ps_set (i := 1) nd rfl (Or.inl rfl) (pe_op op_cat (pv 1) (pe_lc (own := [("_law_one", 3)]) (g := gName 3) (tt := tYes) rfl nd (pi_list (pv 1))
        (blkOk_by (N := nLev) (sc := defScope sLwLevels) (by decide +kernel)) (fun _ _ _ _ _ => pg_name (i := 3) nd rfl (Or.inl rfl)) (fun _ _ _ _ _ => pts_nil) (fun _ _ _ _ _ => pe_op op_add (pv 3) (pv 2)))))))
      (pss_one (ps_ret (pe_callB (r := rLenS K) call_len_seq (by rfl) T.len PySem.boot_len (pa_cons (pe_lc (own := [("_law_one", 3)]) (g := gName 3) (tt := tTest (tOp rEq (tOp (rI CMul fun i j => .int (i * j)) (tC (.int 2)) (tVar 3)) (tCB (rSum K) (tCons (tVar 0) tNil)))) (te := tVar 3) rfl nd (pi_list (pv 1))
        (blkOk_by (N := nLev) (sc := defScope sLwLevels) (by decide +kernel)) (fun _ _ _ _ _ => pg_name (i := 3) nd rfl (Or.inl rfl)) (fun _ _ _ _ _ => pts_one (pt_cmpR op_eq (pe_op op_mul pe_int (pv 3)) (pe_callB (r := rSum K) (cr_sum (by rfl)) (by rfl) T.sum (by decide +kernel) (pa_cons (pv 0) pa_nil)) (nomark _))) (fun _ _ _ _ _ => pv 3)) pa_nil))))), ?_⟩
    obtain ⟨t, ls, rfl, hs, hl, q⟩ := h
    refine ⟨(by show 1 ≤ sizeLine; decide), fun l0 hl0 => ?_⟩
    have s0 : Same H (upd H l0 (.lst [.int 0])) := (Same.refl H).new hl0
    have pw : ∀ i, i ≤ ls.length → (sumsOf (ls.take i)).length ≤ 256 := fun i hi => by
      rw [sums_len ls i hi]
      exact Nat.pow_le_pow_right (by decide) (show i ≤ 8 by omega)
    refine ⟨_, rfl, t, rfl, ⟨_, s0.seq hs⟩, for_list (K := K) (a := t) (xs := ls.map V.int) (fun i σ H' => ∃ (l : Addr) (z : Option V), σ = [some (.ref t), some (.ref l), z, none] ∧ Same H H' ∧ H' l = some (.lst ((sumsOf (ls.take i)).map V.int)))
      ⟨l0, none, rfl, s0, upd_same⟩ (fun i σ H' _ ⟨_, _, _, s, _⟩ => s.seq hs) ?_ ?_⟩
    · rintro i x σ H' hi ⟨l, z, rfl, s1, h1⟩
      obtain ⟨z, hz, rfl⟩ := int_at hi
      have hil : i < ls.length := (List.getElem?_eq_some_iff.mp hz).1
      have p1 := pw i (by omega)
      refine ⟨_, rfl, _, rfl, l, rfl, ⟨_, SqL.of h1⟩, fun D hD => ?_⟩
      have hlD : l ≠ D := ne_of_none h1 hD
      refine lc_list (K := K) (a := l) (xs := (sumsOf (ls.take i)).map V.int) (fun j H2 => Same H' H2 ∧ H2 D = some (.lst ((((sumsOf (ls.take i)).take j).map (· + z)).map V.int))) ⟨(Same.refl H').new hD, upd_same⟩ (fun j H2 _ p => p.1.seq (SqL.of h1)) ?_ ?_
      · rintro j y H2 hj ⟨s2, h2⟩
        obtain ⟨o, ho, rfl⟩ := int_at hj
        refine ⟨rfl, _, rfl, _, rfl, _, _, rfl, rfl, _, h2, (by rw [List.length_map, List.length_map, List.length_take]; exact sm (by omega)), s2.mut hD, ?_⟩
        rw [upd_same, ← take_snoc ho, List.map_append, List.map_append]
        rfl
      · rintro H2 ⟨s2, h2⟩
        rw [List.length_map, List.take_length] at h2
        refine ⟨l, D, _, _, rfl, rfl, s2 _ _ h1, h2, (by rw [List.length_map, List.length_map, List.length_map]; exact Nat.le_of_lt (sm (by omega))), fun p hp => ⟨p, _, rfl, (s1.trans s2).new hp, ?_⟩⟩
        rw [upd_same, sums_take hz, List.map_append]
    · rintro σ H' ⟨l, z, rfl, s1, h1⟩
      rw [List.length_map, List.take_length] at h1
      have p1 := pw ls.length (Nat.le_refl _)
      rw [List.take_length] at p1
      refine ⟨_, rfl, l, rfl, ⟨_, SqL.of h1⟩, fun D hD => ?_⟩
      refine lc_list (K := K) (a := l) (xs := (sumsOf ls).map V.int) (fun j H2 => Same H' H2 ∧ H2 D = some (.lst ((((sumsOf ls).take j).filter fun o => decide (2 * o = ls.sum)).map V.int))) ⟨(Same.refl H').new hD, upd_same⟩ (fun j H2 _ p => p.1.seq (SqL.of h1)) ?_ ?_
      · rintro j y H2 hj ⟨s2, h2⟩
        obtain ⟨o, ho, rfl⟩ := int_at hj
        have l1 := List.length_filter_le (fun o : Int => decide (2 * o = ls.sum)) ((sumsOf ls).take j)
        have l2 : ((sumsOf ls).take j).length ≤ (sumsOf ls).length := List.length_take_le' ..
        refine ⟨rfl, _, rfl, _, _, rfl, rfl, .inl ⟨by decide, by decide⟩, _, rfl, t, ls, rfl, (s1.trans s2).seq hs, rfl, _, rfl, ?_⟩
        by_cases c : 2 * o = ls.sum
        · refine Eq.mpr (if_pos (decide_eq_true (congrArg V.int c))) ?_
          refine ⟨_, rfl, _, h2, by rw [List.length_map]; exact sm (by omega), s2.mut hD, ?_⟩
          rw [upd_same, ← take_snoc ho, List.filter_append, show [o].filter (fun o : Int => decide (2 * o = ls.sum)) = [o] from List.filter_cons_of_pos (p := fun o : Int => decide (2 * o = ls.sum)) (decide_eq_true c), List.map_append]
          rfl
        · refine Eq.mpr (if_neg (by rw [decide_eq_false (fun z => c (V.int.inj z))]; exact Bool.false_ne_true)) ?_
          refine ⟨s2, ?_⟩
          rw [← take_snoc ho, List.filter_append, show [o].filter (fun o : Int => decide (2 * o = ls.sum)) = [] from List.filter_cons_of_neg (p := fun o : Int => decide (2 * o = ls.sum)) (by rw [decide_eq_false c]; exact Bool.false_ne_true), List.append_nil]
          exact h2
      · rintro H2 ⟨s2, h2⟩
        rw [List.length_map, List.take_length] at h2
        refine ⟨D, _, rfl, .inl (SqL.of h2), ?_⟩
        rw [List.length_map, ← half_sums]
        exact q H2 (s1.trans s2)
end
end K
namespace K
open PySem L2 Rg
theorem had_pos {ls : List Int} {m : Int} (pos : ∀ x ∈ ls, 0 < x) (hm : m ∈ ls) (hx : ∀ y, y ∈ ls → y ≤ m) : hadR ls = decide (2 * m ≤ ls.sum) := by
  have e : (ls.map fun z => (z.natAbs : Int)) = ls := by
    conv => rhs; rw [← List.map_id ls]
    refine List.map_congr_left fun x h => ?_
    have := pos x h
    show (x.natAbs : Int) = x
    omega
  show hadN (ls.map fun z => (z.natAbs : Int)) = _
  rw [e]
  exact had_max hm hx
/-- how many rows of k nets can close -/
def cntR (R : List (List Int)) (k : Nat) : Nat := (R.filter fun r => decide (r.length = k) && hadR r).length
theorem cnt_count (ls : List Int) (k : Nat) : cntR (rowsL ls ls.length) k = countR ls k := rfl
theorem cnt_snoc (R : List (List Int)) (r : List Int) (k : Nat) : cntR (R ++ [r]) k = cntR R k + if r.length = k ∧ hadR r = true then 1 else 0 := by
  unfold cntR
  rw [List.filter_append, List.length_append, List.filter_cons, List.filter_nil]
  by_cases c : r.length = k ∧ hadR r = true
  · rw [if_pos c, if_pos (by rw [decide_eq_true c.1, c.2]; rfl)]
    rfl
  · rw [if_neg c, if_neg (by
      intro z
      rw [Bool.and_eq_true, decide_eq_true_eq] at z
      exact c z)]
    rfl
def cntL (R : List (List Int)) (n : Nat) : List Int := (List.range (n + 1)).map fun k : Nat => (cntR R k : Int)
theorem cntL_len (R : List (List Int)) (n : Nat) : (cntL R n).length = n + 1 := by
  unfold cntL
  rw [List.length_map, List.length_range]
theorem cntL_get (R : List (List Int)) {n k : Nat} (h : k ≤ n) : (cntL R n)[k]? = some (cntR R k : Int) := by
  unfold cntL
  rw [List.getElem?_map, List.getElem?_range (by omega)]
  rfl
theorem cntL_nil (n : Nat) : cntL [] n = List.replicate (n + 1) 0 := by
  refine List.ext_getElem? fun k => ?_
  by_cases h : k ≤ n
  · rw [cntL_get _ h, List.getElem?_replicate, if_pos (by omega)]
    rfl
  · rw [List.getElem?_eq_none (by rw [cntL_len]; omega), List.getElem?_eq_none (by rw [List.length_replicate]; omega)]
theorem cntL_no {R : List (List Int)} {r : List Int} {n : Nat} (h : hadR r = false) : cntL (R ++ [r]) n = cntL R n := by
  unfold cntL
  refine List.map_congr_left fun k _ => ?_
  rw [cnt_snoc, if_neg (by rw [h]; exact fun z => Bool.false_ne_true z.2)]
  rfl
theorem cntL_up {R : List (List Int)} {r : List Int} {n : Nat} (h : hadR r = true) (hl : r.length ≤ n) : cntL (R ++ [r]) n = (cntL R n).set r.length ((cntR R r.length : Int) + 1) := by
  refine List.ext_getElem? fun k => ?_
  by_cases g : k ≤ n
  · rw [cntL_get _ g, cnt_snoc, List.getElem?_set]
    by_cases c : r.length = k
    · subst c
      rw [if_pos ⟨rfl, h⟩, if_pos rfl, if_pos (by rw [cntL_len]; omega)]
      rfl
    · rw [if_neg c, if_neg (fun z => c z.1), cntL_get _ g]
      rfl
  · rw [List.getElem?_eq_none (by rw [cntL_len]; omega), List.getElem?_eq_none (by rw [List.length_set, cntL_len]; omega)]
end K
namespace K
open PySem L2 Rg LamX
open Evl (pss_cut)
/-- isinstance(e, c), e the caught error with its dict -/
def rIsX (K : PySem.W.Frag) (a : Addr) (cls : Value) (d : Option Addr) : List V → Hp → VK → Prop := fun xs H Q => ∃ (c : V) (cv : Value) (b : Bool) (D dd : Addr) (fs : List (Str × V)), xs = [.ref a, c] ∧ (∀ u, RelV c u → u = cv) ∧ cls = .ref D ∧ ExcC K D ∧ d = some dd ∧ H dd = some (.xd fs) ∧ PySem.W.kitOne K (.ref D) cv = some b ∧ Q (.bl b) H
theorem cr_isX {X : Cx} {a : Addr} {cls : Value} {d : Option Addr} {oe : Obj} {pn : List (Addr × Obj)} (hz : Zc cls d oe) (hf : ∃ vs, oe.data = .fields vs) : CallR (X.suite a ((a, oe) :: pn)) (.builtin "isinstance") (rIsX X.K a cls d) := by
  intro pins s σ H xs us Q I r ⟨c, cv, b, D, dd, fs, ex, hcv, ec, C, ed, hdd, e, q⟩
  subst ex ec ed
  obtain ⟨u1, u2, rfl, r1, r2⟩ := vals2 r
  obtain rfl : u1 = Value.ref a := r1
  obtain rfl := hcv _ r2
  obtain ⟨hget, _⟩ := I.pin (a, oe) (List.mem_append_left _ List.mem_cons_self)
  obtain ⟨vs, hv⟩ := hf
  obtain ⟨mA, hns, _⟩ := (show ObjOk X.prog X.w H s.heap dd (.xd fs) from I.hok dd _ hdd)
  obtain ⟨od, ho, _⟩ := lookIn_ns hns
  have J : PySem.W.InstAt s.heap a oe D (some od) := ⟨hget, hz.1, by unfold PySem.W.notCls; rw [hv] <;> rfl, by rw [hz.2]; exact ho⟩
  have hcl : (PySem.W.clsIn X.K D).isSome = true := by
    obtain ⟨cd, hc, _⟩ := PySem.W.any_some C.hd
    rw [hc]
    rfl
  exact PySem.W.kia_one (PySem.W.kitx_exc hcl C.hg C.hk C.hs C.ha C.hn C.ht C.hm) I.kIn J e (fun z => nomatch z) fun tk => ⟨.bl b, H, I.kept (t' := tk) fun _ _ z => z, rfl, q⟩
/-- isinstance(e, (A, B)), e the caught error with its dict -/
def rIsXT (K : PySem.W.Frag) (a : Addr) (cls : Value) (d : Option Addr) : List V → Hp → VK → Prop := fun xs H Q => ∃ (tp : Addr) (cs : List V) (us : List Value) (b : Bool) (D dd : Addr) (fs : List (Str × V)), xs = [.ref a, .ref tp] ∧ H tp = some (.tup cs) ∧ Paired ClsV cs us ∧ cls = .ref D ∧ ExcC K D ∧ d = some dd ∧ H dd = some (.xd fs) ∧ PySem.W.kitAny K (.ref D) us = some b ∧ Q (.bl b) H
theorem cr_isXT {X : Cx} {a : Addr} {cls : Value} {d : Option Addr} {oe : Obj} {pn : List (Addr × Obj)} (hz : Zc cls d oe) (hf : ∃ vs, oe.data = .fields vs) : CallR (X.suite a ((a, oe) :: pn)) (.builtin "isinstance") (rIsXT X.K a cls d) := by
  intro pins s σ H xs us Q I r ⟨tp, cs, cv, b, D, dd, fs, ex, hT, hk, ec, C, ed, hdd, e, q⟩
  subst ex ec ed
  obtain ⟨u1, u2, rfl, r1, r2⟩ := vals2 r
  obtain rfl : u1 = Value.ref a := r1
  cases (show u2 = Value.ref tp from r2)
  obtain ⟨_, its, rv, o, h1, h2, n, h3⟩ := (show ObjOk X.prog X.w H s.heap tp (.tup cs) from I.hok tp _ hT)
  have e3 := ClsV.all hk rv
  subst e3
  obtain ⟨oc, odt, dt, sl⟩ := o
  simp only at h2 h3
  subst h2 h3
  obtain ⟨hget, _⟩ := I.pin (a, oe) (List.mem_append_left _ List.mem_cons_self)
  obtain ⟨vs, hv⟩ := hf
  obtain ⟨mA, hns, _⟩ := (show ObjOk X.prog X.w H s.heap dd (.xd fs) from I.hok dd _ hdd)
  obtain ⟨od, ho, _⟩ := lookIn_ns hns
  have J : PySem.W.InstAt s.heap a oe D (some od) := ⟨hget, hz.1, by unfold PySem.W.notCls; rw [hv] <;> rfl, by rw [hz.2]; exact ho⟩
  have hcl : (PySem.W.clsIn X.K D).isSome = true := by
    obtain ⟨cd, hc, _⟩ := PySem.W.any_some C.hd
    rw [hc]
    rfl
  exact PySem.W.kia_tup (PySem.W.kitx_exc hcl C.hg C.hk C.hs C.ha C.hn C.ht C.hm) I.kIn J h1 e (fun z => nomatch z) fun tk => ⟨.bl b, H, I.kept (t' := tk) fun _ _ z => z, rfl, q⟩
end K
namespace K
open PySem L2 Rg
open Evl (pss_cut)
theorem sm5 {n : Nat} (h : n ≤ 100000) : n < sizeLine := Nat.lt_of_le_of_lt h (by decide)
theorem rows_few (ls : List Int) : ∀ n, n ≤ 6 → (rowsL ls n).length ≤ 2000
  | 0, _ => (by decide : [([] : List Int)].length ≤ 2000)
  | n + 1, h => by
    rw [← all_net ls n, List.length_map]
    exact allW_few n (by omega)
theorem stepT_len (row : List Int) (x : Int) (n : Nat) : (stepT row x n).length = 1 + 2 * n := by
  unfold stepT
  induction n with
  | zero => rfl
  | succ n ih =>
    rw [List.range_succ, List.flatMap_append, List.length_cons, List.length_append]
    rw [List.length_cons] at ih
    show _ + 2 + 1 = _
    omega
theorem stepT_succ (row : List Int) (x : Int) (n : Nat) : stepT row x (n + 1) = stepT row x n ++ twoR row x n := by
  unfold stepT
  rw [List.range_succ, List.flatMap_append]
  simp
theorem flat_len {α β : Type} (f : α → List β) (b : Nat) : ∀ l : List α, (∀ x ∈ l, (f x).length ≤ b) → (l.flatMap f).length ≤ b * l.length
  | [], _ => by simp
  | x :: l, h => by
    have i := flat_len f b l fun y hy => h y (List.mem_cons_of_mem _ hy)
    have j := h x (List.mem_cons_self ..)
    rw [List.flatMap_cons, List.length_append, List.length_cons, Nat.mul_succ]
    omega
theorem flat_snoc {α β : Type} (f : α → List β) {l : List α} {j : Nat} {x : α} (h : l[j]? = some x) : (l.take (j + 1)).flatMap f = (l.take j).flatMap f ++ f x := by
  rw [← take_snoc h, List.flatMap_append]
  simp
/-- a row of nets in the heap -/
def RW (H : Hp) (v : V) (r : List Int) : Prop := ∃ a, v = .ref a ∧ H a = some (.tup (r.map V.int))
theorem RW.same {H H' : Hp} {v : V} {r : List Int} (h : RW H v r) (s : Same H H') : RW H' v r := let ⟨a, e, z⟩ := h; ⟨a, e, s _ _ z⟩
theorem RW.mut {H : Hp} {D : Addr} {us ws : List V} {v : V} {r : List Int} (h : RW H v r) (hD : H D = some (.lst us)) : RW (upd H D (.lst ws)) v r := by
  obtain ⟨a, e, z⟩ := h
  exact ⟨a, e, by rw [upd_ne fun k => by rw [k, hD] at z; cases z]; exact z⟩
section
variable {P : Program} {w : World} {K : PySem.W.Frag} {mg : Str → Option Value} {base : Heap}
def spCnts (K : PySem.W.Frag) : Sp := fun vs H Q _ => ∃ (t : Addr) (ls : List Int), vs = [.ref t] ∧ SqL K H t (ls.map V.int) ∧ 1 ≤ ls.length ∧ ls.length ≤ 6 ∧
  ∀ p H', Same H H' → H p = none → H' p = some (.lst ((cntL (rowsL ls ls.length) ls.length).map V.int)) → Q (.ref p) H'
abbrev nCnt : List Str := ["_law_lengths_here", "_law_rows", "_law_found", "_law_length", "_law_longer", "_law_row", "_law_at", "_law_nets", "_law_number"]
theorem scCnt : FnScope nCnt ["_law_lengths_here"] (defScope sLwCounts) := ⟨rfl, rfl, rfl, by decide +kernel, rfl, by decide +kernel, by decide +kernel⟩
theorem ok_cnts {f : Addr} {fd : FuncData} (F : Fun K "_law_counts" "_law_counts" sLwCounts f fd) (T : Bi mg) : FnOk P w K mg base CX0 2 f fd ["_law_lengths_here"] (spCnts K) := by
  refine F.ok scCnt (fun vs H Q E h => ?_) (fun cdv A outer s H vs Q E hr h => ?_)
  · obtain ⟨a, ls, rfl, _⟩ := h
    rfl
  · have nd := scCnt.nd
    refine ⟨_, pss_cons (ps_par (i := 1) (j := 2) (by rfl) nd rfl rfl (by decide) rfl rfl (pa_cons (pe_lst (pa_cons (pe_tup pa_nil) pa_nil)) (pa_cons (pe_op op_rep (pe_lst (pa_cons pe_int pa_nil)) (pe_op op_add (pe_callB call_len_seq (by rfl) T.len PySem.boot_len (pa_cons (pv 0) pa_nil)) pe_int)) pa_nil)) (by rfl))
      (pss_cons (ps_for PassesOwn.never rfl (pi_list (pv 0)) (pg_name (i := 3) nd rfl (Or.inl rfl))
        (pss_cons (ps_set (i := 4) nd rfl (Or.inl rfl) (pe_lst pa_nil))
        (pss_cons (ps_for PassesOwn.never rfl (pi_list (pv 1)) (pg_name (i := 5) nd rfl (Or.inl rfl))
          (pss_cons (ps_expr (pe_bm PySem.F.plainAttrs_list PySem.F.slot_list_append PySem.F.type_list_append mt_append (pv 4) (pa_cons (pe_op op_catA (pv 5) (pe_tup (pa_cons (pv 3) pa_nil))) pa_nil)))
          (pss_one (ps_for PassesOwn.never rfl (pi_range1 (by rfl) T.range (pa_cons (pe_callB call_len_seq (by rfl) T.len PySem.boot_len (pa_cons (pv 5) pa_nil)) pa_nil)) (pg_name (i := 6) nd rfl (Or.inl rfl))
            (pss_one (ps_expr (pe_bm PySem.F.plainAttrs_list PySem.F.slot_list_extend PySem.F.type_list_extend mt_extend (pv 4) (pa_cons (pe_lst
              (pa_cons (pe_op op_catA (pe_op op_catA (pe_slice sl_tupA (pv 5) po_none (po_some (pv 6))) (pe_tup (pa_cons (pe_op op_add (pe_ix ix_tup (pv 5) (pv 6) (fun _ _ => rfl)) (pv 3)) pa_nil))) (pe_slice sl_tupA (pv 5) (po_some (pe_op op_add (pv 6) pe_int)) po_none))
              (pa_cons (pe_op op_catA (pe_op op_catA (pe_slice sl_tupA (pv 5) po_none (po_some (pv 6))) (pe_tup (pa_cons (pe_op op_sub (pe_ix ix_tup (pv 5) (pv 6) (fun _ _ => rfl)) (pv 3)) pa_nil))) (pe_slice sl_tupA (pv 5) (po_some (pe_op op_add (pv 6) pe_int)) po_none)) pa_nil))) pa_nil))))))))
        (pss_one (ps_set (i := 1) nd rfl (Or.inl rfl) (pv 4))))))
      (pss_cons (ps_for PassesOwn.never rfl (pi_list (pv 1)) (pg_name (i := 5) nd rfl (Or.inl rfl))
        (pss_cons (ps_setLc (i := 7) (own := [("_law_number", 8)]) (g := gName 8) (tt := tYes) (te := tCB rAb (tCons (tVar 8) tNil)) rfl nd rfl rfl (sw_true rfl rfl rfl (by decide +kernel)) (pi_tup (pv 5))
          (blkOk_by (N := nCnt) (sc := defScope sLwCounts) (by decide +kernel)) (fun _ _ _ _ _ => pg_name (i := 8) nd rfl (Or.inl rfl)) (fun _ _ _ _ _ => pts_nil) (fun _ _ _ _ _ => pe_callB (r := rAb) call_abs (by rfl) T.abs (by decide +kernel) (pa_cons (pv 8) pa_nil)))
        (pss_one (ps_if (pt_cmpR op_le (pe_op op_mul pe_int (pe_callB (cr_max rfl) (by rfl) T.max (by decide +kernel) (pa_cons (pv 7) pa_nil))) (pe_callB (cr_sum rfl) (by rfl) T.sum (by decide +kernel) (pa_cons (pv 7) pa_nil)) (nomark _))
          (pss_one (ps_asg (pe_op op_add (pe_ix ix_list (pv 2) (pe_callB call_len_seq (by rfl) T.len PySem.boot_len (pa_cons (pv 5) pa_nil)) (fun _ _ => rfl)) pe_int) (pg_sub (pv 2) (pe_callB call_len_seq (by rfl) T.len PySem.boot_len (pa_cons (pv 5) pa_nil)) set_list))) pss_nil))))
      (pss_one (ps_ret (pv 2))))), ?_⟩
    obtain ⟨t, ls, rfl, hs, l1, l6, q⟩ := h
    refine ⟨(by show 0 ≤ sizeLine; decide), fun e0 ne0 => ⟨(by show 1 ≤ sizeLine; decide), fun a0 na0 => ?_⟩⟩
    have s1 : Same H (upd H e0 (.tup [])) := (Same.refl H).new ne0
    have he0 : upd H e0 (.tup []) e0 = some (.tup []) := upd_same
    generalize upd H e0 (.tup []) = H1 at s1 he0 na0 ⊢
    have s2 : Same H1 (upd H1 a0 (.lst [.ref e0])) := (Same.refl H1).new na0
    have ha0 : upd H1 a0 (.lst [.ref e0]) a0 = some (.lst [.ref e0]) := upd_same
    generalize upd H1 a0 (.lst [.ref e0]) = H2 at s2 ha0 ⊢
    refine ⟨(by show 1 ≤ sizeLine; decide), fun z0 nz0 => ?_⟩
    have s3 : Same H2 (upd H2 z0 (.lst [.int 0])) := (Same.refl H2).new nz0
    have hz0 : upd H2 z0 (.lst [.int 0]) z0 = some (.lst [.int 0]) := upd_same
    generalize upd H2 z0 (.lst [.int 0]) = H3 at s3 hz0 ⊢
    have s03 := (s1.trans s2).trans s3
    refine ⟨_, rfl, t, _, rfl, .inl (s03.seq hs), _, _, rfl, rfl, ?_⟩
    rw [List.length_map]
    refine ⟨z0, _, _, rfl, rfl, hz0, by omega, by omega, ?_, fun fo nfo => ?_⟩
    · show 1 * _ ≤ _
      exact Nat.le_of_lt (sm (by omega))
    have nfo0 := s03.free nfo
    have efo : (List.replicate ((ls.length : Int) + 1).toNat ([.int 0] : List V)).flatten = (cntL [] ls.length).map V.int := by
      rw [cntL_nil, List.map_replicate, show ((ls.length : Int) + 1).toNat = ls.length + 1 by omega]
      generalize ls.length + 1 = n
      induction n with
      | zero => rfl
      | succ n ih => rw [List.replicate_succ, List.replicate_succ, List.flatten_cons, ih]; rfl
    rw [efo]
    have s4 : Same H3 (upd H3 fo (.lst ((cntL [] ls.length).map V.int))) := (Same.refl H3).new nfo
    have hfo : upd H3 fo (.lst ((cntL [] ls.length).map V.int)) fo = some (.lst ((cntL [] ls.length).map V.int)) := upd_same
    generalize upd H3 fo (.lst ((cntL [] ls.length).map V.int)) = H4 at s4 hfo ⊢
    have s04 := s03.trans s4
    have nfa0 : a0 ≠ fo := ne_of_none (s3 _ _ ha0) nfo
    have ha4 := s4 _ _ (s3 _ _ ha0)
    have he4 := s4 _ _ (s3 _ _ (s2 _ _ he0))
    refine ⟨_, _, rfl, ?_⟩
    -- the rows
    refine ⟨_, rfl, t, rfl, ⟨_, s04.seq hs⟩, for_list (K := K) (a := t) (xs := ls.map V.int) (fun i σ H' => ∃ (a : Addr) (us : List V) (z3 z4 z5 z6 : Option V), σ = [some (.ref t), some (.ref a), some (.ref fo), z3, z4, z5, z6, none, none] ∧ a ≠ fo ∧ Same H4 H' ∧ H' a = some (.lst us) ∧ Paired (RW H') us (rowsL ls i))
      ⟨a0, [.ref e0], none, none, none, none, rfl, nfa0, Same.refl H4, ha4, .cons ⟨e0, rfl, he4⟩ .nil⟩ (fun i σ H' _ ⟨_, _, _, _, _, _, _, _, s, _⟩ => (s04.trans s).seq hs) ?_ ?_⟩
    · rintro i x σ H5 hi ⟨a, us, z3, z4, z5, z6, rfl, nfa, s5, ha, pu⟩
      obtain ⟨x, hx, rfl⟩ := int_at hi
      have hil : i < ls.length := (List.getElem?_eq_some_iff.mp hx).1
      have ex : ls.getD i 0 = x := by rw [List.getD_eq_getElem?_getD, hx]; rfl
      have ul := par_len pu
      have few := rows_few ls i (by omega)
      have pos := rows_pos ls i
      refine ⟨(by show 0 ≤ sizeLine; decide), fun g ng => ?_⟩
      have ngf : g ≠ fo := (ne_of_none (s5 _ _ hfo) ng).symm
      have s6 : Same H5 (upd H5 g (.lst [])) := (Same.refl H5).new ng
      have hg : upd H5 g (.lst []) g = some (.lst []) := upd_same
      generalize upd H5 g (.lst []) = H6 at s6 hg ⊢
      refine ⟨_, rfl, a, rfl, ⟨_, SqL.of (s6 _ _ ha)⟩, for_list (K := K) (a := a) (xs := us) (fun j σ H' => ∃ (ws : List V) (z5 z6 : Option V), σ = [some (.ref t), some (.ref a), some (.ref fo), some (.int x), some (.ref g), z5, z6, none, none] ∧ Same H5 H' ∧ H' g = some (.lst ws) ∧ Paired (RW H') ws (((rowsL ls i).take j).flatMap fun row => stepR row x))
        ⟨[], z5, z6, rfl, s6, hg, .nil⟩ (fun j σ H' _ ⟨_, _, _, _, s, _⟩ => SqL.of (s _ _ ha)) ?_ ?_⟩
      · rintro j y σ H7 hj ⟨ws, z5, z6, rfl, s7, hg7, pw⟩
        obtain ⟨row, hrow, rr⟩ := par_get pu hj
        have hjl : j < us.length := (List.getElem?_eq_some_iff.mp hj).1
        have rl : row.length ≤ 6 := Nat.le_trans (pos row (List.mem_of_getElem? hrow)).1 (by omega)
        obtain ⟨b, rfl, hb⟩ := rr.same s7
        have wl : ws.length ≤ 26000 := by
          rw [par_len pw]
          refine Nat.le_trans (flat_len _ 13 _ fun r hr => ?_) ?_
          · show (stepT r x r.length).length ≤ 13
            rw [stepT_len]
            have := (pos r (List.mem_of_mem_take hr)).1
            omega
          · have := List.length_take_le j (rowsL ls i)
            have h2 : ((rowsL ls i).take j).length ≤ 2000 := Nat.le_trans (List.length_take_le' ..) few
            omega
        refine ⟨_, rfl, .inl ⟨rfl, _, SqL.of hg7⟩, _, rfl, _, rfl, (by show 1 ≤ sizeLine; decide), fun c nc => ?_⟩
        have s8 : Same H7 (upd H7 c (.tup [.int x])) := (Same.refl H7).new nc
        have hc : upd H7 c (.tup [.int x]) c = some (.tup [.int x]) := upd_same
        generalize upd H7 c (.tup [.int x]) = H8 at s8 hc ⊢
        refine catV (s8 _ _ hb) hc (by rw [List.length_map]; show row.length + 1 ≤ 1000; omega) fun d H9 hd s9 => ?_
        have s79 := s8.trans s9
        have hg9 := s79 _ _ hg7
        refine ⟨g, ws, _, rfl, rfl, hg9, sm5 (by omega), ?_⟩
        have hd' : H9 d = some (.tup ((row ++ [x]).map V.int)) := by rw [hd, List.map_append]; rfl
        have ngH5 := ng
        have s5a : Same H5 (upd H9 g (.lst (ws ++ [.ref d]))) := (s7.trans s79).mut ng
        have hga : upd H9 g (.lst (ws ++ [.ref d])) g = some (.lst (ws ++ [.ref d])) := upd_same
        have pwa : Paired (RW (upd H9 g (.lst (ws ++ [.ref d])))) (ws ++ [.ref d]) (((rowsL ls i).take j).flatMap (fun row => stepR row x) ++ stepT row x 0) :=
          par_app (par_imp (fun _ _ k => (k.same s79).mut hg9) pw) (.cons (RW.mut ⟨d, rfl, hd'⟩ hg9) .nil)
        have hba : upd H9 g (.lst (ws ++ [.ref d])) b = some (.tup (row.map V.int)) := by
          have z := s79 _ _ hb
          rw [upd_ne fun k => by rw [k, hg9] at z; cases z]
          exact z
        generalize upd H9 g (.lst (ws ++ [.ref d])) = HA at s5a hga pwa hba ⊢
        refine ⟨_, rfl, b, _, rfl, .inr (.inl (.inl hba)), ?_⟩
        rw [List.length_map]
        refine ⟨_, rfl, by omega, by omega, ?_⟩
        refine for_range (lo := 0) (n := ((row.length : Nat) : Int).toNat) (fun k σ H' => ∃ (vs : List V) (z6 : Option V), σ = [some (.ref t), some (.ref a), some (.ref fo), some (.int x), some (.ref g), some (.ref b), z6, none, none] ∧ Same H5 H' ∧ H' g = some (.lst vs) ∧ H' b = some (.tup (row.map V.int)) ∧ Paired (RW H') vs (((rowsL ls i).take j).flatMap (fun row => stepR row x) ++ stepT row x k))
          ⟨_, z6, rfl, s5a, hga, hba, pwa⟩ ?_ ?_
        · rintro k σ HB hk ⟨vs, z6, rfl, sB, hgB, hbB, pv'⟩
          have hk' : k < row.length := by omega
          have vl : vs.length ≤ 27000 := by
            rw [par_len pv', List.length_append, ← par_len pw, stepT_len]
            omega
          have ek : atI (row.map V.int) (0 + (k : Int)) = some (V.int (row.getD k 0)) := by
            rw [show (0 + (k : Int)) = (k : Int) by omega]
            have := get_len (ls := row) (b := (k : Int)) (by omega) (by omega)
            rw [Int.toNat_natCast] at this
            exact this
          rw [show (0 + (k : Int)) = (k : Int) by omega] at ek ⊢
          have tkl : (row.take k).length ≤ 6 := Nat.le_trans (List.length_take_le' ..) rl
          have dpl : (row.drop (k + 1)).length ≤ 6 := by rw [List.length_drop]; omega
          refine ⟨_, rfl, .inl ⟨rfl, _, SqL.of hgB⟩, _, rfl, _, rfl, _, rfl, slTo hbB fun g1 G1 hg1 d1 => ⟨_, rfl, _, rfl, b, _, _, _, rfl, rfl, .inl (.inl (d1 _ _ hbB)), ek, _, rfl, _, _, rfl, rfl, (by show 1 ≤ sizeLine; decide), fun g2 m2 => ?_⟩⟩
          have d2 : Same G1 (upd G1 g2 (.tup [.int (row.getD k 0 + x)])) := (Same.refl G1).new m2
          have u2 : upd G1 g2 (.tup [.int (row.getD k 0 + x)]) g2 = some (.tup [.int (row.getD k 0 + x)]) := upd_same
          generalize upd G1 g2 (.tup [.int (row.getD k 0 + x)]) = G2 at d2 u2 ⊢
          refine catV (d2 _ _ hg1) u2 (by rw [List.length_take, List.length_map]; show _ + 1 ≤ 1000; omega) fun g3 G3 hg3 d3 => ?_
          have d13 := (d1.trans d2).trans d3
          refine ⟨_, rfl, _, rfl, _, _, rfl, rfl, _, rfl, ?_⟩
          rw [show ((k : Int) + 1) = ((k + 1 : Nat) : Int) from rfl]
          dsimp only [tNoPart]
          refine slFrom (d13 _ _ hbB) fun g4 G4 hg4 d4 => ?_
          refine catV (d4 _ _ hg3) hg4 (by rw [List.length_append, List.length_take, List.length_drop, List.length_map]; show _ + 1 + _ ≤ 1000; omega) fun g5 G5 hg5 d5 => ?_
          have d15 := (d13.trans d4).trans d5
          have hbC := d15 _ _ hbB
          -- the other one
          refine ⟨_, rfl, _, rfl, _, rfl, slTo hbC fun k1 J1 hk1 c1 => ⟨_, rfl, _, rfl, b, _, _, _, rfl, rfl, .inl (.inl (c1 _ _ hbC)), ek, _, rfl, _, _, rfl, rfl, (by show 1 ≤ sizeLine; decide), fun k2 n2 => ?_⟩⟩
          have c2 : Same J1 (upd J1 k2 (.tup [.int (row.getD k 0 - x)])) := (Same.refl J1).new n2
          have v2 : upd J1 k2 (.tup [.int (row.getD k 0 - x)]) k2 = some (.tup [.int (row.getD k 0 - x)]) := upd_same
          generalize upd J1 k2 (.tup [.int (row.getD k 0 - x)]) = J2 at c2 v2 ⊢
          refine catV (c2 _ _ hk1) v2 (by rw [List.length_take, List.length_map]; show _ + 1 ≤ 1000; omega) fun k3 J3 hk3 c3 => ?_
          have c13 := (c1.trans c2).trans c3
          refine ⟨_, rfl, _, rfl, _, _, rfl, rfl, _, rfl, ?_⟩
          rw [show ((k : Int) + 1) = ((k + 1 : Nat) : Int) from rfl]
          dsimp only [tNoPart]
          refine slFrom (c13 _ _ hbC) fun k4 J4 hk4 c4 => ?_
          refine catV (c4 _ _ hk3) hk4 (by rw [List.length_append, List.length_take, List.length_drop, List.length_map]; show _ + 1 + _ ≤ 1000; omega) fun k5 J5 hk5 c5 => ?_
          have c15 := (c13.trans c4).trans c5
          refine ⟨(by show 2 ≤ sizeLine; decide), fun m nm => ?_⟩
          have s6 : Same J5 (upd J5 m (.lst [.ref g5, .ref k5])) := (Same.refl J5).new nm
          have hm : upd J5 m (.lst [.ref g5, .ref k5]) m = some (.lst [.ref g5, .ref k5]) := upd_same
          generalize upd J5 m (.lst [.ref g5, .ref k5]) = J6 at s6 hm ⊢
          have sBJ := (d15.trans c15).trans s6
          have hgJ := sBJ _ _ hgB
          have t1 : RW J6 (.ref g5) (row.take k ++ [row.getD k 0 + x] ++ row.drop (k + 1)) := ⟨g5, rfl, by rw [s6 _ _ (c15 _ _ hg5), List.map_append, List.map_append, List.map_take, List.map_drop]; rfl⟩
          have t2 : RW J6 (.ref k5) (row.take k ++ [row.getD k 0 - x] ++ row.drop (k + 1)) := ⟨k5, rfl, by rw [s6 _ _ hk5, List.map_append, List.map_append, List.map_take, List.map_drop]; rfl⟩
          refine ⟨g, m, vs, _, rfl, rfl, hgJ, hm, Nat.le_of_lt (sm5 (by show vs.length + 2 ≤ _; omega)), ?_⟩
          refine ⟨_, _, rfl, (sB.trans sBJ).mut ng, upd_same, ?_, ?_⟩
          · have z := sBJ _ _ hbB
            rw [upd_ne fun k => by rw [k, hgJ] at z; cases z]
            exact z
          · rw [stepT_succ, ← List.append_assoc]
            exact par_app (par_imp (fun _ _ k => (k.same sBJ).mut hgJ) pv') (.cons (t1.mut hgJ) (.cons (t2.mut hgJ) .nil))
        · rintro σ HB ⟨vs, z6, rfl, sB, hgB, hbB, pv'⟩
          refine ⟨vs, _, z6, rfl, sB, hgB, ?_⟩
          rw [flat_snoc _ hrow]
          exact pv'
      · rintro σ H7 ⟨ws, z5, z6, rfl, s7, hg7, pw⟩
        rw [ul, List.take_length] at pw
        refine ⟨_, rfl, g, ws, _, _, _, _, rfl, ngf, s5.trans s7, hg7, ?_⟩
        show Paired (RW H7) ws ((rowsL ls i).flatMap fun row => stepR row (ls.getD i 0))
        rw [ex]
        exact pw
    rintro σ H5 ⟨a, us, z3, z4, z5, z6, rfl, nfa, s5, ha, pu⟩
    rw [List.length_map] at pu
    have ul := par_len pu
    have pos := rows_pos ls ls.length
    -- the counts
    refine ⟨_, rfl, a, rfl, ⟨_, SqL.of ha⟩, for_list (K := K) (a := a) (xs := us) (fun j σ H' => ∃ (z5 z7 : Option V), σ = [some (.ref t), some (.ref a), some (.ref fo), z3, z4, z5, z6, z7, none] ∧ Same H H' ∧ H' a = some (.lst us) ∧ H' fo = some (.lst ((cntL ((rowsL ls ls.length).take j) ls.length).map V.int)) ∧ Paired (RW H') us (rowsL ls ls.length))
      ⟨z5, none, rfl, s04.trans s5, ha, s5 _ _ hfo, pu⟩ (fun j σ H' _ ⟨_, _, _, _, h, _⟩ => SqL.of h) ?_ ?_⟩
    · rintro j y σ H6 hj ⟨z5, z7, rfl, s6, ha6, hf6, pu6⟩
      obtain ⟨row, hrow, b, rfl, hb⟩ := par_get pu6 hj
      have hjl : j < us.length := (List.getElem?_eq_some_iff.mp hj).1
      have hm := pos row (List.mem_of_getElem? hrow)
      have r1 : 0 < row.length := hm.2 (by omega)
      have r6 : row.length ≤ ls.length := hm.1
      refine ⟨_, rfl, b, rfl, ⟨_, .inl (.inl hb)⟩, fun D hD => ?_⟩
      refine lc_tup (K := K) (a := b) (xs := row.map V.int) (fun k G => Same H6 G ∧ G D = some (.lst (((row.take k).map fun z : Int => (z.natAbs : Int)).map V.int))) ⟨(Same.refl H6).new hD, upd_same⟩ (fun k G _ z => .inl (.inl (z.1 _ _ hb))) ?_ ?_
      · rintro k y G hk ⟨s7, h7⟩
        obtain ⟨z, hz, rfl⟩ := int_at hk
        have hkl : k < row.length := (List.getElem?_eq_some_iff.mp hz).1
        refine ⟨rfl, _, rfl, _, rfl, _, h7, ?_, s7.mut hD, ?_⟩
        · rw [List.length_map, List.length_map, List.length_take]
          exact sm (by omega)
        · rw [upd_same, ← take_snoc hz, List.map_append, List.map_append]
          have e : (if z < 0 then -z else z) = (z.natAbs : Int) := absI_nat z
          rw [e]
          rfl
      rintro G ⟨s7, h7⟩
      rw [List.length_map, List.take_length] at h7
      have had : ∀ m, m ∈ (row.map fun z : Int => (z.natAbs : Int)) → (∀ y, y ∈ (row.map fun z : Int => (z.natAbs : Int)) → y ≤ m) → hadR row = decide (2 * m ≤ (row.map fun z : Int => (z.natAbs : Int)).sum) := fun m hm hx => had_max hm hx
      refine ⟨_, rfl, D, _, rfl, SqL.of h7, by rw [List.length_map]; exact r1, fun m hm hx => ?_⟩
      have e := had m hm hx
      refine ⟨_, _, rfl, rfl, .inl ⟨by decide, by decide⟩, _, rfl, D, _, rfl, SqL.of h7, _, _, rfl, rfl, ?_⟩
      have hf7 := s7 _ _ hf6
      have ha7 := s7 _ _ ha6
      have hb7 := s7 _ _ hb
      refine ⟨_, rfl, ?_⟩
      by_cases c : 2 * m ≤ (row.map fun z : Int => (z.natAbs : Int)).sum
      · rw [decide_eq_true c] at e
        refine Eq.mpr (if_pos (decide_eq_true c)) ?_
        have gt : atI ((cntL ((rowsL ls ls.length).take j) ls.length).map V.int) ((row.map V.int).length : Int) = some (V.int (cntR ((rowsL ls ls.length).take j) row.length)) := by
          refine at_of (j := row.length) (by rw [List.length_map]) ?_
          rw [List.getElem?_map, cntL_get _ r6]
          rfl
        refine ⟨_, rfl, _, rfl, b, _, rfl, .inr (.inl (.inl hb7)), fo, _, _, _, rfl, rfl, SqL.of hf7, gt, _, _, rfl, rfl, ?_⟩
        refine ⟨_, rfl, _, rfl, b, _, rfl, .inr (.inl (.inl hb7)), fo, _, _, row.length, rfl, rfl, hf7, ?_, ?_⟩
        · rw [List.length_map, List.length_map, cntL_len]
          exact ixN_at (by omega) (by omega)
        refine ⟨_, _, rfl, (s6.trans s7).mut nfo0, ?_, ?_, ?_⟩
        · rw [upd_ne nfa]
          exact ha7
        · rw [upd_same, ← take_snoc hrow, cntL_up e r6, set_map]
        · exact par_imp (fun _ _ k => (k.same s7).mut hf7) pu6
      · rw [decide_eq_false c] at e
        refine Eq.mpr (if_neg (by rw [decide_eq_false c]; exact Bool.false_ne_true)) ?_
        refine ⟨_, _, rfl, s6.trans s7, ha7, ?_, par_imp (fun _ _ k => k.same s7) pu6⟩
        rw [hf7, ← take_snoc hrow, cntL_no e]
    · rintro σ H6 ⟨z5, z7, rfl, s6, ha6, hf6, pu6⟩
      rw [ul, List.take_length] at hf6
      exact ⟨_, rfl, q fo H6 s6 nfo0 hf6⟩
end
end K
namespace K
open PySem L2 Rg
open Evl (pss_cut)
theorem fn_calm {P : Program} {w : World} {K : PySem.W.Frag} {mg : Str → Option Value} {base : Heap} {k : Nat} {f : Addr} {fd : FuncData} {ps : List Str} {sp : Sp} (F : FnOk P w K mg base (L2.CX P w) k f fd ps sp) : FnOk P w K mg base CX0 k f fd ps (fun vs H Q _ => sp vs H Q fun _ _ _ => False) :=
  ⟨fun vs H Q E h => F.len _ _ _ _ h, fun A outer s H args us vs Q E hr e0 hb hv h => codeAny_mono (F.run A outer s H args us vs Q (fun _ _ _ => False) hr e0 hb hv h) fun r s' hq => by
    cases r with
    | ok fl => cases fl <;> exact hq
    | error e =>
      obtain ⟨_, _, _, _, _, _, _, _, _, _, _, _, z⟩ := hq
      exact z⟩
theorem ints_perm {ys : List V} {ls : List Int} (p : ys.Perm (ls.map V.int)) : ∃ ms : List Int, ys = ms.map V.int ∧ ms.Perm ls := by
  have e : (ls.map V.int).map (fun v => match v with | .int i => i | _ => 0) = ls := by
    rw [List.map_map]
    conv => rhs; rw [← List.map_id ls]
    exact List.map_congr_left fun x _ => rfl
  refine ⟨ys.map fun v => match v with | .int i => i | _ => 0, ?_, ?_⟩
  · rw [List.map_map]
    conv => lhs; rw [← List.map_id ys]
    refine List.map_congr_left fun y hy => ?_
    obtain ⟨i, _, rfl⟩ := List.mem_map.mp (p.mem_iff.mp hy)
    rfl
  · have z := p.map (fun v => match v with | .int i => i | _ => 0)
    rw [e] at z
    exact z
theorem Bd.perm {m : Int} {a b : List Int} (h : Bd m a) (p : b.Perm a) : Bd m b := fun x hx => h x (p.mem_iff.mp hx)
theorem ne_int {a b : Int} (h : a = b) : (!decide (V.int a = V.int b)) = false := by rw [h]; simp
theorem eqvI (l : List Int) : PyData.eqv (.list (l.map PyData.int)) (.list (l.map PyData.int)) = true := by
  simp [PyData.eqv, Rg.eqvA_ints8]
abbrev gK2 {α : Type} : List α → List α → List α := fun us ws => match us, ws with
  | [], [a, b] => [b, a]
  | _, _ => []
section
variable {P : Program} {w : World} {K : PySem.W.Frag} {mg : Str → Option Value} {base : Heap}
def spMLc (K : PySem.W.Frag) (C : Addr) : Sp := fun vs H Q _ => ∃ (r : Addr) (ls : List Int) (i : Int), vs = [.ref r, .int i] ∧ RingAt K C H r ls ∧ 3 ≤ ls.length ∧ ls.length ≤ 6 ∧ 1 ≤ i ∧ i ≤ (ls.length : Int) ∧ ∀ H', Same H H' → Q (.int (countR ls i.toNat)) H'
theorem ok_mlc {C f : Addr} {c : Ce} {fd : FuncData} (F : FnOk P w K mg base (L2.CX P w) 7 f fd ["ring", "many"] (spMany K C c)) : FnOk P w K mg base CX0 7 f fd ["ring", "many"] (spMLc K C) :=
  (fn_calm F).imp fun vs H Q E ⟨r, ls, i, hv, ring, l3, l6, i1, i2, q⟩ => ⟨.ref r, .int i, hv, .inr ⟨r, ls, "int", rfl, ring, l3, by omega, ⟨Knd.int, fun _ => ⟨i, rfl⟩⟩, .inr ⟨i, rfl, by
    show (decide ("int" = "int") && _) = true
    simp [i1, i2], .inr ⟨l6, q⟩⟩⟩⟩
/-! ### counts are right -/
def spCR (K : PySem.W.Frag) : Sp := fun vs H Q _ => ∃ (p l : Addr) (e : Addr × List Int) (n : Nat) (ls : List Int), vs = [.ref p, .ref l] ∧ H l = some (.lst (ls.map V.int)) ∧ l ≠ p ∧ 3 ≤ ls.length ∧ ls.length ≤ 6 ∧ Bd 1000000 ls ∧ n < 800000 ∧ PenAt K H p e n ∧
  ∀ H', But p H H' → PenAt K H' p e (n + 7) → Q (.bl true) H'
abbrev nCR : List Str := ["_law_bench_here", "_law_lengths_here", "_law_ring", "_law_many", "_law_due", "_law_number", "_law_other", "_law_double", "_law_length"]
theorem scCR : FnScope nCR ["_law_bench_here", "_law_lengths_here"] (defScope sLwCountsRight) := ⟨rfl, rfl, rfl, by decide +kernel, rfl, by decide +kernel, by decide +kernel⟩
theorem ok_cr {C f fC fM fV fD fX fI : Addr} {fd fdC fdM fdV fdD fdX fdI : FuncData} {g1 : List Value → List Value → List Value} (F : Fun K "_law_counts_right" "_law_counts_right" sLwCountsRight f fd) (T : Bi mg) (R : RingC K mg C) (G : RingP P w K mg base C fI fdI)
    (CN : DefAt P w K mg base CX0 2 "_law_counts" ["_law_lengths_here"] (spCnts K) fC fdC) (ML : DefAt P w K mg base CX0 7 "many_lineups" ["ring", "many"] (spMLc K C) fM fdM) (KM : KBinds K fdM ["ring", "many"] ["many", "ring"] g1 gK2)
    (LV : DefAt P w K mg base CX0 2 "_law_levels" ["_law_lengths_here"] (spLev K) fV fdV) (D : DrawAt P w K mg base fD fdD) (MX : DefAt P w K mg base CX0 3 "_law_mixed" ["_law_bench_here", "_law_some"] (spMixed K) fX fdX) : FnOk P w K mg base CX0 8 f fd ["_law_bench_here", "_law_lengths_here"] (spCR K) := by
  refine F.ok scCR (fun vs H Q E h => ?_) (fun cdv A outer s H vs Q E hr h => ?_)
  · obtain ⟨p, l, e, n, ls, rfl, _⟩ := h
    rfl
  · have nd := scCR.nd
    refine ⟨_, pss_cons (ps_asg (pe_tup (pa_cons (pe_make G.made G.ok (hr.mono (by decide)) (by rfl) R.g G.b .nil pass0 (pa_cons (pv 1) pa_nil)) (pa_cons (pe_callB call_len_seq (by rfl) T.len PySem.boot_len (pa_cons (pv 1) pa_nil)) (pa_cons (pe_call CN.ok (hr.mono (by decide)) rfl CN.g CN.kp CN.b .nil pass0 (pa_cons (pv 1) pa_nil)) pa_nil))))
        (pg_tup (by rfl) (pgs_cons (pg_name (i := 2) nd rfl (Or.inr rfl)) (pgs_cons (pg_name (i := 3) nd rfl (Or.inl rfl)) (pgs_cons (pg_name (i := 4) nd rfl (Or.inl rfl)) pgs_nil)))))
      (pss_cons (ps_if (pt_cmpR (op_neD hr.units) (pe_lc (own := [("_law_number", 5)]) (g := gName 5) (tt := tYes) rfl nd (pi_range2 (by rfl) T.range (pa_cons pe_int (pa_cons (pe_op op_add (pv 3) pe_int) pa_nil)))
          (blkOk_by (N := nCR) (sc := defScope sLwCountsRight) (by decide +kernel)) (fun _ _ _ _ _ => pg_name (i := 5) nd rfl (Or.inl rfl)) (fun _ _ _ _ _ => pts_nil) (fun _ _ _ _ _ => pe_call ML.ok (hr.mono (by decide)) rfl ML.g ML.kp ML.b .nil pass0 (pa_cons (pv 2) (pa_cons (pv 5) pa_nil))))
        (pe_slice sl_list (pv 4) (po_some pe_int) po_none) (nomark _)) (pss_one ps_never) pss_nil)
      (pss_cons (ps_if (PW.pt (pw_or (pt_cmpR op_ne (pe_ix ix_list (pv 4) (pv 3) (fun _ _ => rfl)) (pe_callTy call_int1 (by rfl) T.int (by decide +kernel) (pa_cons (pe_cmpR op_le (pe_op op_mul pe_int (pe_callB (cr_max rfl) (by rfl) T.max (by decide +kernel) (pa_cons (pv 1) pa_nil))) (pe_callB (cr_sum rfl) (by rfl) T.sum (by decide +kernel) (pa_cons (pv 1) pa_nil)) (nomark _)) pa_nil)) (nomark _))
          (pw_or1 (pt_cmpR op_ne (pe_op op_mul pe_int (pe_ix ix_list (pv 4) pe_int (fun _ _ => rfl))) (pe_call LV.ok (hr.mono (by decide)) rfl LV.g LV.kp LV.b .nil pass0 (pa_cons (pv 1) pa_nil)) (nomark _))))) (pss_one ps_never) pss_nil)
      (pss_cons (ps_set (i := 5) nd rfl (Or.inl rfl) (pe_op op_add pe_int (pe_call D.ok (hr.mono (by decide)) rfl D.g D.kp D.b .nil pass0 (pa_cons (pv 0) (pa_cons (pv 3) pa_nil)))))
      (pss_cons (ps_par (i := 6) (j := 7) (by rfl) nd rfl rfl (by decide) rfl rfl (pa_cons (pe_make G.made G.ok (hr.mono (by decide)) (by rfl) R.g G.b .nil pass0 (pa_cons (pe_call MX.ok (hr.mono (by decide)) rfl MX.g MX.kp MX.b .nil pass0 (pa_cons (pv 0) (pa_cons (pv 1) pa_nil))) pa_nil))
          (pa_cons (pe_make G.made G.ok (hr.mono (by decide)) (by rfl) R.g G.b .nil pass0 (pa_cons (pe_ifExp (pt_cmpR op_lt (pe_callB (cr_max rfl) (by rfl) T.max (by decide +kernel) (pa_cons (pv 1) pa_nil)) (pe_op op_pow pe_int pe_int) (nomark _))
            (pe_lc (own := [("_law_length", 8)]) (g := gName 8) (tt := tYes) (te := tOp (rI CMul fun i j => .int (i * j)) (tC (.int 2)) (tVar 8)) rfl nd (pi_list (pv 1)) (blkOk_by (N := nCR) (sc := defScope sLwCountsRight) (by decide +kernel)) (fun _ _ _ _ _ => pg_name (i := 8) nd rfl (Or.inl rfl)) (fun _ _ _ _ _ => pts_nil) (fun _ _ _ _ _ => pe_op op_mul pe_int (pv 8))) (pv 1)) pa_nil)) pa_nil)) (by rfl))
      (pss_one (ps_ret (pe_and (pe_cmpR op_eq (pe_callK0 ML.ok (hr.mono (by decide)) rfl ML.g ML.kp KM pass0 (pk_cons (pv 5) (pk_cons (pv 6) pk_nil))) (pe_ix ix_list (pv 4) (pv 5) (fun _ _ => rfl)) (nomark _))
        (pe_one (pe_cmpR op_eq (pe_call ML.ok (hr.mono (by decide)) rfl ML.g ML.kp ML.b .nil pass0 (pa_cons (pv 7) (pa_cons (pv 5) pa_nil))) (pe_ix ix_list (pv 4) (pv 5) (fun _ _ => rfl)) (nomark _)))))))))), ?_⟩
    obtain ⟨p, l, e, n, ls, rfl, hl, nlp, l3, l6, bd, hn, pen, q⟩ := h
    have pos : ∀ x ∈ ls, 0 < x := fun x hx => by have := (bd x hx).1; omega
    -- ring, many, due
    refine ⟨_, rfl, madeL2 hl l3 (by omega) bd fun r H1 ring s1 nr => ⟨rfl, ?_⟩⟩
    have hl1 := s1 _ _ hl
    refine ⟨_, rfl, l, _, rfl, .inl (SqL.of hl1), _, rfl, l, ls, rfl, SqL.of hl1, by omega, l6, fun d H2 s2 nd2 hd2 => ⟨(by show 3 ≤ sizeLine; decide), fun t nt => ?_⟩⟩
    rw [List.length_map]
    have s3 : Same H2 (upd H2 t (.tup [.ref r, .int ls.length, .ref d])) := (Same.refl H2).new nt
    have ht : upd H2 t (.tup [.ref r, .int ls.length, .ref d]) t = some (.tup [.ref r, .int ls.length, .ref d]) := upd_same
    generalize upd H2 t (.tup [.ref r, .int ls.length, .ref d]) = H3 at s3 ht ⊢
    refine ⟨t, _, rfl, .inl (.inl ht), rfl, _, _, rfl, _, _, rfl, _, _, rfl, rfl, ?_⟩
    have s13 := s2.trans s3
    have s03 := s1.trans s13
    have hl3 := s03 _ _ hl
    have hd3 := s3 _ _ hd2
    have ring3 := ring.same s13
    have ndp : d ≠ p := (pen.same s1).ne nd2
    have cg : ∀ k, k ≤ ls.length → ((cntL (rowsL ls ls.length) ls.length).map V.int)[k]? = some (V.int (countR ls k)) := fun k hk => by
      rw [List.getElem?_map, cntL_get _ hk]
      rfl
    -- all counts
    refine ⟨_, rfl, _, _, rfl, rfl, _, _, rfl, ⟨by omega, by omega, by omega, by omega⟩, fun D4 nD4 => ?_⟩
    rw [show ((ls.length : Int) + 1 - 1).toNat = ls.length by omega]
    refine lc_range (lo := 1) (n := ls.length) (fun i H' => Same H3 H' ∧ H' D4 = some (.lst (((List.range i).map fun k : Nat => (countR ls (k + 1) : Int)).map V.int))) ⟨(Same.refl H3).new nD4, upd_same⟩ ?_ ?_
    · rintro i H' hi ⟨s4, h4⟩
      refine ⟨rfl, _, rfl, _, rfl, r, ls, 1 + (i : Int), rfl, ring3.same s4, l3, l6, by omega, by omega, fun H5 s5 => ⟨_, s5 _ _ h4, ?_, (s4.trans s5).mut nD4, ?_⟩⟩
      · rw [List.length_map, List.length_map, List.length_range]
        exact sm (by omega)
      · rw [upd_same, List.range_succ, List.map_append, List.map_append, show (1 + (i : Int)).toNat = i + 1 by omega]
        rfl
    rintro H4 ⟨s4, h4⟩
    have s04 := s03.trans s4
    refine ⟨_, rfl, _, rfl, d, _, rfl, SqL.of (s4 _ _ hd3), fun c nc => ?_⟩
    dsimp only [tNoPart]
    have ec : cutV ((cntL (rowsL ls ls.length) ls.length).map V.int) (some 1) none = ((List.range ls.length).map fun k : Nat => (countR ls (k + 1) : Int)).map V.int := by
      rw [cut_from _ (z := 1) (k := 1) rfl, ← List.map_drop]
      congr 1
      refine List.ext_getElem? fun k => ?_
      rw [List.getElem?_drop]
      by_cases g : k < ls.length
      · rw [Nat.add_comm, cntL_get _ (by omega), List.getElem?_map, List.getElem?_range g]
        rfl
      · rw [List.getElem?_eq_none (by rw [cntL_len]; omega), List.getElem?_eq_none (by rw [List.length_map, List.length_range]; omega)]
    rw [ec]
    have s5 : Same H4 (upd H4 c (.lst (((List.range ls.length).map fun k : Nat => (countR ls (k + 1) : Int)).map V.int))) := (Same.refl H4).new nc
    have hc : upd H4 c (.lst (((List.range ls.length).map fun k : Nat => (countR ls (k + 1) : Int)).map V.int)) c = some (.lst (((List.range ls.length).map fun k : Nat => (countR ls (k + 1) : Int)).map V.int)) := upd_same
    generalize upd H4 c (.lst (((List.range ls.length).map fun k : Nat => (countR ls (k + 1) : Int)).map V.int)) = H5 at s5 hc ⊢
    refine ⟨_, _, .lst (SqL.of (s5 _ _ h4)) (dp_ints _), .lst (SqL.of hc) (dp_ints _), shaped_ints _, shaped_ints _, _, rfl, iteBF (by rw [eqvI]; rfl) ?_⟩
    have s05 := s04.trans s5
    have s35 := s4.trans s5
    have hl5 := s05 _ _ hl
    have hd5 := s35 _ _ hd3
    -- one of each bar, one strand
    refine ⟨_, rfl, _, rfl, d, _, _, _, rfl, rfl, SqL.of hd5, at_of (j := ls.length) rfl (cg _ (Nat.le_refl _)), ?_⟩
    refine ⟨_, rfl, l, ls, rfl, SqL.of hl5, by omega, fun m hm hx => ⟨_, _, rfl, rfl, .inl ⟨by decide, by decide⟩, _, rfl, l, ls, rfl, SqL.of hl5, _, _, rfl, rfl, .inr ⟨_, rfl, ?_⟩⟩⟩
    have full : (countR ls ls.length : Int) = if decide (2 * m ≤ ls.sum) = true then 1 else 0 := by
      rw [count_full, had_pos pos hm hx]
      by_cases c : 2 * m ≤ ls.sum
      · rw [decide_eq_true c]; rfl
      · rw [decide_eq_false c]; rfl
    refine ⟨rfl, _, rfl, iteBF (ne_int full) ?_⟩
    refine ⟨_, rfl, d, _, _, _, rfl, rfl, SqL.of hd5, at_of (j := 1) rfl (cg 1 (by omega)), _, _, rfl, rfl, .inl ⟨by decide, by decide⟩, _, rfl, l, ls, rfl, SqL.of hl5, by omega, fun H6 s6 => ?_⟩
    refine ⟨rfl, _, rfl, iteBF (ne_int (by rw [count_half (by omega)]; push_cast; rfl)) ?_⟩
    have s06 := s05.trans s6
    have hl6 := s06 _ _ hl
    -- a number
    refine ⟨_, rfl, _, rfl, p, e, _, n, rfl, by omega, by omega, by omega, pen.same s06, fun k H7 k0 k1 b7 pen7 => ⟨_, _, rfl, rfl, ?_⟩⟩
    have hl7 := b7 _ _ nlp hl6
    have hd7 := b7 _ _ ndp (s6 _ _ hd5)
    refine ⟨_, rfl, _, rfl, p, l, e, ls.map V.int, n + 1, rfl, SqL.of hl7, nlp, by rw [List.length_map]; omega, by omega, pen7, fun o ys H8 pm no b8 ho pen8 => ?_⟩
    rw [List.length_map] at pen8
    obtain ⟨ms, rfl, pms⟩ := ints_perm pm
    have ml := pms.length_eq
    have hl8 := b8 _ _ nlp hl7
    have hd8 := b8 _ _ ndp hd7
    refine madeL2 ho (by omega) (by omega) (bd.perm pms) fun r2 H9 ring2 s9 nr2 => ⟨rfl, ?_⟩
    have hl9 := s9 _ _ hl8
    have hd9 := s9 _ _ hd8
    have pen9 := (pen8.same s9).mono (m := n + 7) (by omega)
    have b09 : But p H H9 := (((But.of s06).trans b7).trans b8).trans (But.of s9)
    -- the double
    have gk : atI ((cntL (rowsL ls ls.length) ls.length).map V.int) (1 + k) = some (V.int (countR ls (1 + k).toNat)) := at_of (j := (1 + k).toNat) (by omega) (cg _ (by omega))
    refine ⟨_, rfl, l, ls, rfl, SqL.of hl9, by omega, fun m2 hm2 hx2 => ⟨_, _, rfl, rfl, ⟨by decide, by decide, by decide⟩, _, _, rfl, rfl, _, rfl, ?_⟩⟩
    by_cases small : m2 < (10 : Int) ^ (5 : Int).toNat
    · refine Eq.mpr (if_pos (decide_eq_true small)) ?_
      have small2 : m2 < 100000 := small
      refine ⟨_, rfl, l, rfl, ⟨_, SqL.of hl9⟩, fun D6 nD6 => ?_⟩
      refine lc_list (K := K) (a := l) (xs := ls.map V.int) (fun j G => Same H9 G ∧ G D6 = some (.lst (((ls.take j).map fun a => 2 * a).map V.int))) ⟨(Same.refl H9).new nD6, upd_same⟩ (fun j G _ z => SqL.of (z.1 _ _ hl9)) ?_ ?_
      · rintro j y G hj ⟨s10, h10⟩
        obtain ⟨z, hz, rfl⟩ := int_at hj
        refine ⟨rfl, _, rfl, _, _, rfl, rfl, .inl ⟨by decide, by decide⟩, _, h10, ?_, s10.mut nD6, ?_⟩
        · rw [List.length_map, List.length_map, List.length_take]
          exact sm (by omega)
        · rw [upd_same, ← take_snoc hz, List.map_append, List.map_append]
          rfl
      rintro H10 ⟨s10, h10⟩
      rw [List.length_map, List.take_length] at h10
      have bd2 : Bd 1000000 (dbl ls) := fun x hx => by
        obtain ⟨a, ha, rfl⟩ := List.mem_map.mp hx
        have z1 := (bd a ha).1
        have z2 := hx2 a ha
        show 1 ≤ 2 * a ∧ 2 * a ≤ 1000000
        omega
      have dl : (dbl ls).length = ls.length := List.length_map ..
      refine madeL2 (ls := dbl ls) h10 (by omega) (by omega) bd2 fun r3 H11 ring3 s11 nr3 => ⟨rfl, ?_⟩
      have s911 := s10.trans s11
      have hd11 := s911 _ _ hd9
      refine ⟨_, _, rfl, ?_⟩
      refine ⟨_, rfl, _, rfl, r2, ms, 1 + k, rfl, ring2.same s911, by omega, by omega, by omega, by omega, fun H12 s12 => ?_⟩
      rw [count_perm pms]
      refine ⟨_, rfl, _, rfl, d, _, _, _, rfl, rfl, SqL.of (s12 _ _ hd11), gk, rfl, _, rfl, ?_⟩
      refine Eq.mpr (if_pos (decide_eq_true rfl)) ?_
      refine ⟨_, rfl, _, rfl, r3, dbl ls, 1 + k, rfl, ring3.same s12, by omega, by omega, by omega, by omega, fun H13 s13 => ?_⟩
      rw [count_dbl]
      have s1213 := s12.trans s13
      refine ⟨_, rfl, _, rfl, d, _, _, _, rfl, rfl, SqL.of (s1213 _ _ hd11), gk, rfl, ?_⟩
      rw [decide_eq_true rfl]
      exact q H13 (b09.trans (But.of (s911.trans s1213))) (pen9.same (s911.trans s1213))
    · refine Eq.mpr (if_neg (by rw [decide_eq_false small]; exact Bool.false_ne_true)) ?_
      refine ⟨_, rfl, ?_⟩
      refine madeL2 hl9 (by omega) (by omega) bd fun r3 H11 ring3 s11 nr3 => ⟨rfl, ?_⟩
      have hd11 := s11 _ _ hd9
      refine ⟨_, _, rfl, ?_⟩
      refine ⟨_, rfl, _, rfl, r2, ms, 1 + k, rfl, ring2.same s11, by omega, by omega, by omega, by omega, fun H12 s12 => ?_⟩
      rw [count_perm pms]
      refine ⟨_, rfl, _, rfl, d, _, _, _, rfl, rfl, SqL.of (s12 _ _ hd11), gk, rfl, _, rfl, ?_⟩
      refine Eq.mpr (if_pos (decide_eq_true rfl)) ?_
      refine ⟨_, rfl, _, rfl, r3, ls, 1 + k, rfl, ring3.same s12, by omega, by omega, by omega, by omega, fun H13 s13 => ?_⟩
      have s1213 := s12.trans s13
      refine ⟨_, rfl, _, rfl, d, _, _, _, rfl, rfl, SqL.of (s1213 _ _ hd11), gk, rfl, ?_⟩
      rw [decide_eq_true rfl]
      exact q H13 (b09.trans (But.of (s11.trans s1213))) (pen9.same (s11.trans s1213))
end
end K
namespace K
open PySem PySem.Spec PyProof.Rows L2 Rg LamX
open Evl (pss_cut)
/-- error.f, whose class is told at the proof -/
def tXfA (K : PySem.W.Frag) (a : Addr) (cls : Value) (d : Option Addr) (te : TE) (f : Str) : TE := fun σ Hh Q => te σ Hh fun x J => x = .ref a ∧ ∃ (C dd : Addr) (fs : List (Str × V)) (v : V), cls = .ref C ∧ XfC K C ∧ PySem.W.findIn K (.ref C) f = some none ∧ d = some dd ∧ J dd = some (.xd fs) ∧ fs.lookup f = some v ∧ Q v J
theorem pe_xfA {X : Cx} {a : Addr} {oe : Obj} {cls : Value} {d : Option Addr} {pn : List (Addr × Obj)} {ex : Expr} {te : TE} {po : Pos} {n : Str} (hz : Zc cls d oe) (hf : ∃ vs, oe.data = .fields vs) (he : PE (X.suite a ((a, oe) :: pn)) ex te)
    (hb : attributeBase ex n X.env (eval ex X.env) = eval ex X.env := by rfl) : PE (X.suite a ((a, oe) :: pn)) (.Attribute ex n po) (tXfA X.K a cls d te n) := by
  refine ⟨fun pins s σ Hh Q Iv h => attr_of hb (thn (he.run pins s σ Hh _ Iv h) fun u s1 hh => ?_)⟩
  obtain ⟨x, J, I1, rx, exx, C, dd, fs, v, ec, T, hno, ed, ea, l, q⟩ := hh
  subst exx
  obtain rfl : u = Value.ref a := rx
  subst ec ed
  obtain ⟨ha, _⟩ := I1.pin (a, oe) (List.mem_append_left _ List.mem_cons_self)
  obtain ⟨vs, hd⟩ := hf
  have hx : ObjOk X.prog X.w J s1.heap dd (.xd fs) := I1.hok dd _ ea
  obtain ⟨mA, hns, hr⟩ := hx
  obtain ⟨od, ho, hl⟩ := lookIn_ns hns
  obtain ⟨z, hu, ru⟩ := RelO.some_of (v := v) (o := mA n) (by rw [← l]; exact hr n)
  have J0 : PySem.W.InstAt s1.heap a oe C (some od) := ⟨ha, hz.1, by unfold PySem.W.notCls; rw [hd] <;> rfl, by rw [hz.2]; exact ho⟩
  exact HandSPX.exc_get I1.kIn J0 T.ga T.gg T.exC (PySem.W.findObj_own T.hdC hno rfl (by rw [hl, hu])) (handed_of ru) ⟨v, J, I1.tok _, ru, q⟩
theorem kit_fst {K : PySem.W.Frag} {t c : Value} {r : List Value} (h : PySem.W.kitOne K t c = some true) : PySem.W.kitAny K t (c :: r) = some true := by
  unfold PySem.W.kitAny
  rw [h]
theorem kit_two {K : PySem.W.Frag} {t c d : Value} {b : Bool} (h : PySem.W.kitOne K t c = some false) (h2 : PySem.W.kitOne K t d = some b) : PySem.W.kitAny K t [c, d] = some b := by
  unfold PySem.W.kitAny
  rw [h]
  unfold PySem.W.kitAny
  rw [h2]
  cases b <;> rfl
structure Hs where
  r : Addr
  n : Addr
  m : Addr
structure HeardC (K : PySem.W.Frag) (mg : Str → Option Value) (c : Hs) (eR : Addr) : Prop where
  gRE : mg "RingError" = some (.ref eR)
  gr : mg "BadRing" = some (.ref c.r)
  er : ExcC K c.r
  xr : XfC K c.r
  mr : PySem.W.exmOne K (.ref c.r) (.ref eR) = some true
  fr : PySem.W.findIn K (.ref c.r) "part" = some none
  gn : mg "BadNumber" = some (.ref c.n)
  en : ExcC K c.n
  xn : XfC K c.n
  mn : PySem.W.exmOne K (.ref c.n) (.ref eR) = some true
  fn : PySem.W.findIn K (.ref c.n) "part" = some none
  gm : mg "TooMany" = some (.ref c.m)
  em : ExcC K c.m
  xm : XfC K c.m
  mm : PySem.W.exmOne K (.ref c.m) (.ref eR) = some true
  fw : PySem.W.findIn K (.ref c.m) "what" = some none
  fm : PySem.W.findIn K (.ref c.m) "most" = some none
  krn : PySem.W.kitOne K (.ref c.r) (.ref c.n) = some false
  kmn : PySem.W.kitOne K (.ref c.m) (.ref c.n) = some false
  kmr : PySem.W.kitOne K (.ref c.m) (.ref c.r) = some false
inductive Tells (c : Hs) : Addr → List (Str × V) → List V → Prop where
  | r (v : V) : Tells c c.r [("part", v)] [.str "ring", v]
  | n (v : V) : Tells c c.n [("part", v)] [.str "number", v]
  | m (v u : V) : Tells c c.m [("most", u), ("what", v)] [v, u]
/-- one of the errors comes: a tuple tells which, and its fields -/
def Told (c : Hs) (Q : VK) : XK := fun cls d H' => ∃ (C dd : Addr) (fs : List (Str × V)) (its : List V), cls = .ref C ∧ d = some dd ∧ H' dd = some (.xd fs) ∧ Tells c C fs its ∧ ∀ p H2, Same H' H2 → H2 p = some (.tup its) → Q (.ref p) H2
def THeard (c : Hs) : (XK → Hp → VK → Prop) → Hp → VK → Prop := fun tl H Q => ∀ R : VK, tl (Told c Q) H R
theorem takes_len {X : Cx} {W : WX} (t : Takes X W) : Takes X fun c d σ H => σ.length = X.N.length → W c d σ H := fun u s' ⟨a, B, sI, pins, σ, H, cls, d, e, I, nb, up, sky, na, os, ag, w⟩ =>
  t u s' ⟨a, B, sI, pins, σ, H, cls, d, e, I, nb, up, sky, na, os, ag, w I.len⟩
abbrev nHeard : List Str := ["_law_ask", "_law_heard_here", "error"]
theorem scHeard : FnScope nHeard ["_law_ask"] (defScope sLwHeard) := ⟨rfl, rfl, rfl, by decide +kernel, rfl, by decide +kernel, by decide +kernel⟩
theorem heard_gives {X : Cx} {c : Hs} {eR g : Addr} {cdg : Value} {q : Str} (T : Bi X.mg) (Hc : HeardC X.K X.mg c eR) : GivesTo X nHeard "_law_heard" (defScope sLwHeard) g cdg (defBody sLwHeard) "_law_ask" q (THeard c) := by
  intro f c' s H Q tl act hc h
  have nd := scHeard.nd
  refine ⟨_, pss_cons (ps_set (i := 1) nd rfl (Or.inl rfl) pe_non)
    (pss_cons (ps_try_as (X := (cxOf C8.CX0 X.prog X.w X.K X.mg X.base nHeard "_law_heard" (defScope sLwHeard) g cdg X.A X.stack s H C8.E0).nox) (c := .ref eR) (i := 2)
      (tb := fun W D σ H => ∃ Ech : XK, (∀ cls d σ' H', Ech cls d H' → σ'.length = 3 → W cls d σ' H') ∧ σ[0]? = some (some (.ref f)) ∧ H c' = some (CodeO c' q) ∧ tl Ech H fun _ H' => D.nx σ H')
      rfl rfl nd rfl rfl ⟨rfl, rfl, .inl Hc.gRE⟩ L2.takes0 (fun W pn xe tk _ => ?_) (fun a oe cls d pn hz hf =>
        pss_cons (ps_set (i := 1) nd rfl (Or.inl rfl) (pe_tup (pa_cons pe_str (pa_cons pe_str pa_nil))))
        (pss_one (ps_if (pt_val (pe_callB (cr_isXT hz hf) (by rfl) T.isinstance (by decide +kernel) (pa_cons (pv 2) (pa_cons (pe_tup (pa_cons (pe_glob (v := .ref c.n) rfl Hc.gn rfl) (pa_cons (pe_glob (v := .ref c.r) rfl Hc.gr rfl) pa_nil))) pa_nil))))
          (pss_one (ps_set (i := 1) nd rfl (Or.inl rfl) (pe_tup (pa_cons (pe_ifExp (pt_val (pe_callB (cr_isX hz hf) (by rfl) T.isinstance (by decide +kernel) (pa_cons (pv 2) (pa_cons (pe_glob (v := .ref c.n) rfl Hc.gn rfl) pa_nil)))) pe_str pe_str) (pa_cons (pe_xfA hz hf (pv 2)) pa_nil)))))
          (pss_one (ps_if (pt_val (pe_callB (cr_isX hz hf) (by rfl) T.isinstance (by decide +kernel) (pa_cons (pv 2) (pa_cons (pe_glob (v := .ref c.m) rfl Hc.gm rfl) pa_nil))))
          (pss_one (ps_set (i := 1) nd rfl (Or.inl rfl) (pe_tup (pa_cons (pe_xfA hz hf (pv 2)) (pa_cons (pe_xfA hz hf (pv 2)) pa_nil))))) pss_nil))))))
    (pss_one (ps_ret (pv 1)))), ?_⟩
  · refine ⟨fun pins s' σ H' D I h' => ?_⟩
    obtain ⟨Ech, hW, h1, h2, h3⟩ := h'
    exact (pss_one (ps_expr (act _ pn xe Ech _ _ (takes_len tk) hW))).run pins s' σ H' D I ⟨h1, h2, h3⟩
  · refine ⟨Told c Q, ?_, rfl, hc, h _⟩
    rintro cls d σ' H' ⟨C, dd, fs, its, rfl, rfl, hdd, tells, q⟩ hl
    obtain ⟨x0, x1, x2, rfl⟩ : ∃ x0 x1 x2, σ' = [x0, x1, x2] := by
      match σ', hl with
      | [x0, x1, x2], _ => exact ⟨x0, x1, x2, rfl⟩
    have two : ∀ y : Addr, H' y = none → ∀ t : Addr, upd H' y (.tup [.str "other", .str ""]) t = none → Same H' (upd (upd H' y (.tup [.str "other", .str ""])) t (.tup [.ref c.n, .ref c.r])) := fun y hy t ht => ((Same.refl H').new hy).new ht
    have tells' := tells
    cases tells'
    · rename_i v
      refine ⟨true, Hc.mr, fun _ a ha => ?_, fun z => by cases z⟩
      refine ⟨(by show 2 ≤ sizeLine; decide), fun y hy => ?_⟩
      refine ⟨_, rfl, (by show 2 ≤ sizeLine; decide), fun t ht => ?_⟩
      have s2 := two y hy t ht
      refine ⟨t, _, _, true, c.r, dd, _, rfl, upd_same, .cons (.own _) (.cons (.own _) .nil), rfl, Hc.er, rfl, s2 _ _ hdd, kit_two Hc.krn kit_self, _, rfl, iteT ?_⟩
      refine ⟨_, rfl, .ref c.n, .ref c.n, false, c.r, dd, _, rfl, fun _ r => r, rfl, Hc.er, rfl, s2 _ _ hdd, Hc.krn, _, rfl, iteF ?_⟩
      refine ⟨_, rfl, rfl, c.r, dd, _, v, rfl, Hc.xr, Hc.fr, rfl, s2 _ _ hdd, by simp [List.lookup], (by show 2 ≤ sizeLine; decide), fun p hp => ?_⟩
      exact ⟨_, rfl, q p _ (s2.new hp) upd_same⟩
    · rename_i v
      refine ⟨true, Hc.mn, fun _ a ha => ?_, fun z => by cases z⟩
      refine ⟨(by show 2 ≤ sizeLine; decide), fun y hy => ?_⟩
      refine ⟨_, rfl, (by show 2 ≤ sizeLine; decide), fun t ht => ?_⟩
      have s2 := two y hy t ht
      refine ⟨t, _, _, true, c.n, dd, _, rfl, upd_same, .cons (.own _) (.cons (.own _) .nil), rfl, Hc.en, rfl, s2 _ _ hdd, kit_fst kit_self, _, rfl, iteT ?_⟩
      refine ⟨_, rfl, .ref c.n, .ref c.n, true, c.n, dd, _, rfl, fun _ r => r, rfl, Hc.en, rfl, s2 _ _ hdd, kit_self, _, rfl, iteT ?_⟩
      refine ⟨_, rfl, rfl, c.n, dd, _, v, rfl, Hc.xn, Hc.fn, rfl, s2 _ _ hdd, by simp [List.lookup], (by show 2 ≤ sizeLine; decide), fun p hp => ?_⟩
      exact ⟨_, rfl, q p _ (s2.new hp) upd_same⟩
    · rename_i v u
      refine ⟨true, Hc.mm, fun _ a ha => ?_, fun z => by cases z⟩
      refine ⟨(by show 2 ≤ sizeLine; decide), fun y hy => ?_⟩
      refine ⟨_, rfl, (by show 2 ≤ sizeLine; decide), fun t ht => ?_⟩
      have s2 := two y hy t ht
      refine ⟨t, _, _, false, c.m, dd, _, rfl, upd_same, .cons (.own _) (.cons (.own _) .nil), rfl, Hc.em, rfl, s2 _ _ hdd, kit_two Hc.kmn Hc.kmr, _, rfl, iteF ?_⟩
      refine ⟨_, rfl, .ref c.m, .ref c.m, true, c.m, dd, _, rfl, fun _ r => r, rfl, Hc.em, rfl, s2 _ _ hdd, kit_self, _, rfl, iteT ?_⟩
      refine ⟨_, rfl, rfl, c.m, dd, _, v, rfl, Hc.xm, Hc.fw, rfl, s2 _ _ hdd, by rw [List.lookup_cons, show (("what" : Str) == "most") = false from by decide +kernel]; simp [List.lookup], _, rfl, rfl, c.m, dd, _, u, rfl, Hc.xm, Hc.fm, rfl, s2 _ _ hdd, by simp [List.lookup], (by show 2 ≤ sizeLine; decide), fun p hp => ?_⟩
      exact ⟨_, rfl, q p _ (s2.new hp) upd_same⟩
/-- a lambda that raises is heard; Z: how things stand where it raises -/
theorem hear {c : Hs} {C : Addr} {fs : List (Str × V)} {its : List V} (te : Tells c C fs its) {T : List (Addr × Str)} {H : Hp} {σ : L2.St} {t : XK → TE} {Q : VK} (Z : Hp → Prop) (tab : Tabs T H)
    (body : ∀ (E' : XK) (J : Hp) (Q' : VK), ExtN H J → Tabs T J → (∀ J2 : Hp, Z J2 → ErrsF E' C fs J2) → t E' σ J Q') (k : ∀ J2 M p, Z J2 → Same J2 M → M p = some (.tup its) → Q (.ref p) M) : tLam T (THeard c) t σ H Q := by
  refine ⟨tab, fun I extI tabsI R => ?_⟩
  refine body _ _ _ extI tabsI fun J2 z d L sL nd xd => ⟨C, d, fs, its, rfl, rfl, xd, te, fun p M sM hp => k J2 M p z (sL.trans sM) hp⟩
/-- all but what stands at h and the tables stay -/
def Kp (h : Addr) (H H' : Hp) : Prop := ∀ b o, b ≠ h → H b = some o → (∀ ps, o ≠ .tbl ps) → H' b = some o
theorem Kp.refl (h : Addr) (H : Hp) : Kp h H H := fun _ _ _ e _ => e
theorem Kp.of_but {h : Addr} {H H' : Hp} (b : But h H H') : Kp h H H' := fun a o n e _ => b a o n e
theorem Kp.ext {h : Addr} {H H1 H2 : Hp} (a : Kp h H H1) (e : ExtN H1 H2) : Kp h H H2 := fun b o n q t => e b o (a b o n q t) t
theorem Kp.same {h : Addr} {H H1 H2 : Hp} (a : Kp h H H1) (s : Same H1 H2) : Kp h H H2 := fun b o n q t => s b o (a b o n q t)
theorem Kp.but {h : Addr} {H H1 H2 : Hp} (a : Kp h H H1) (s : But h H1 H2) : Kp h H H2 := fun b o n q t => s b o n (a b o n q t)
theorem Kp.trans {h : Addr} {H H1 H2 : Hp} (a : Kp h H H1) (s : Kp h H1 H2) : Kp h H H2 := fun b o n q t => s b o n (a b o n q t) t
theorem tabS_but {h : Addr} {xs : List V} {H H' : Hp} {P : Addr} {q : Str} (t : TabS H P q) (b : But h H H') (hh : H h = some (.lst xs)) : TabS H' P q := by
  obtain ⟨ps, h1, h2, h3⟩ := t
  refine ⟨ps, b _ _ (fun e => ?_) h1, h2, fun pos cv hc => ?_⟩
  · rw [e, hh] at h1
    cases h1
  · obtain ⟨c, e1, e2⟩ := h3 pos cv hc
    refine ⟨c, e1, b _ _ (fun e => ?_) e2⟩
    rw [e, hh] at e2
    cases e2
theorem tabs_but {h : Addr} {xs : List V} {H H' : Hp} {T : List (Addr × Str)} (t : Tabs T H) (b : But h H H') (hh : H h = some (.lst xs)) : Tabs T H' := fun p hp => tabS_but (t p hp) b hh
abbrev qRf : Str := "_law_refused_right.<locals>.<lambda>"
abbrev T1 (P1 : Addr) : List (Addr × Str) := [(P1, qRf)]
/-- a def whose code object stands at c -/
structure FunC (K : PySem.W.Frag) (x qual : Str) (st : Stmt) (f : Addr) (fd : FuncData) (c : Addr) : Prop where
  ex : ∃ (oc : Value) (od : Option Addr) (kV doc pm : Value) (an : Option Addr) (ct : Value) (osl : Array (Option Value)),
    fd = PySem.W.fnOf x qual (defArgs st) (defBody st) (defScope st) .none kV doc pm an (.ref c) ct ∧ K.lookup f = some ⟨oc, od, .func fd, osl⟩ ∧ PySem.W.codeIn K (.ref c) qual = true
theorem FunC.ok {P : Program} {w : World} {K : PySem.W.Frag} {mg : Str → Option Value} {base : Heap} {x qual : Str} {st : Stmt} {f c : Addr} {fd : FuncData} {N ps : List Str} {k : Nat} {sp : Sp} (F : FunC K x qual st f fd c) (S : FnScope N ps (defScope st)) (len : ∀ vs H Q E, sp vs H Q E → vs.length = ps.length)
    (hbody : ∀ (A : Around) (outer : List Env) (s : Shared) (H : Hp) (vs : List V) (Q : VK) (E : XK), Room k (A.deeper (PyProof.Rows.envOfC qual (defScope st) s.heap.objs.size f (.ref c))) → sp vs H Q E →
      ∃ t, PSs (cxOf CX0 P w K mg base N qual (defScope st) f (.ref c) A outer s H E).nox (defBody st) t ∧ t { nx := fun _ H' => Q .non H', rt := Q } (L2.start N vs) H) : FnOk P w K mg base CX0 (k + 1) f fd ps sp := by
  obtain ⟨oc, od, kV, doc, pm, an, ct, osl, rfl, lk, hcd⟩ := F.ex
  exact fn_of lk hcd S len fun A outer s H vs Q E hr hsp => by
    obtain ⟨t, h, q⟩ := hbody A outer s H vs Q E hr hsp
    exact ⟨t, h.nox, q⟩
theorem Same.ext {H H' : Hp} (s : Same H H') : ExtN H H' := ExtN.of s
theorem RingW.ext {K : PySem.W.Frag} {C : Addr} {H H' : Hp} {r : Addr} {ls : List Int} (h : RingW K C H r ls) (s : ExtN H H') : RingW K C H' r ls := by
  obtain ⟨dx, t, h1, h2⟩ := h
  refine ⟨dx, t, s _ _ h1 (fun _ z => nomatch z), ?_⟩
  rcases h2 with (z | ⟨o, z⟩) | z
  · exact .inl (.inl (s _ _ z (fun _ z => nomatch z)))
  · exact .inl (.inr ⟨o, s _ _ z (fun _ z => nomatch z)⟩)
  · exact .inr z
theorem PenAt.ext {K : PySem.W.Frag} {H H' : Hp} {p : Addr} {e : Addr × List Int} {n : Nat} (h : PenAt K H p e n) (s : ExtN H H') : PenAt K H' p e n := by
  obtain ⟨a, r, h1, h5, h6, h7⟩ := h.ex
  refine ⟨⟨a, r, s _ _ h1 (fun _ z => nomatch z), h5, h6, h7⟩, ?_, h.np, h.ln⟩
  rcases h.sq with (z | ⟨o, z⟩) | z
  · exact .inl (.inl (s _ _ z (fun _ z => nomatch z)))
  · exact .inl (.inr ⟨o, s _ _ z (fun _ z => nomatch z)⟩)
  · exact .inr z
end K
namespace K
open PySem L2 Rg LamX
open Evl (pss_cut)
theorem RingAt.ext {K : PySem.W.Frag} {C : Addr} {H H' : Hp} {r : Addr} {ls : List Int} (h : RingAt K C H r ls) (s : ExtN H H') : RingAt K C H' r ls := by
  obtain ⟨dx, t, h1, h2, o, h3, h4⟩ := h
  refine ⟨dx, t, s _ _ h1 (fun _ z => nomatch z), ?_, o, s _ _ h3 (fun _ z => nomatch z), h4⟩
  rcases h2 with (z | ⟨o, z⟩) | z
  · exact .inl (.inl (s _ _ z (fun _ z => nomatch z)))
  · exact .inl (.inr ⟨o, s _ _ z (fun _ z => nomatch z)⟩)
  · exact .inr z
theorem RingAt.but {K : PySem.W.Frag} {C h : Addr} {xs : List V} {H H' : Hp} {r : Addr} {ls : List Int} (g : RingAt K C H r ls) (hh : H h = some (.lst xs)) (b : But h H H') : RingAt K C H' r ls := by
  obtain ⟨dx, t, h1, h2, o, h3, h4⟩ := g
  have go : ∀ {a : Addr} {u : HO}, H a = some u → (∀ ys, u ≠ .lst ys) → H' a = some u := fun {a u} q n => b _ _ (fun z => by rw [z, hh] at q; exact n _ (Option.some.inj q).symm) q
  refine ⟨dx, t, go h1 (fun _ z => nomatch z), ?_, o, go h3 (fun _ z => nomatch z), h4⟩
  rcases h2 with (z | ⟨o, z⟩) | z
  · exact .inl (.inl (go z (fun _ z => nomatch z)))
  · exact .inl (.inr ⟨o, go z (fun _ z => nomatch z)⟩)
  · exact .inr z
theorem Kp.off {p h : Addr} {H M M2 : Hp} {x : HO} (k0 : Kp p H M) (n : M h = none) (k : Kp p H M2) : Kp p H (upd M2 h x) := fun b o nb q t => by
  rw [upd_ne fun z => by have := k0 b o nb q t; rw [z, n] at this; cases this]
  exact k b o nb q t
theorem PenAt.off {K : PySem.W.Frag} {p h : Addr} {e : Addr × List Int} {n m : Nat} {M M2 : Hp} {x : HO} (pen0 : PenAt K M p e n) (no : M h = none) (pen : PenAt K M2 p e m) : PenAt K (upd M2 h x) p e m := by
  have np : p ≠ h := (pen0.ne no).symm
  obtain ⟨a, r, h1, h5, h6, h7⟩ := pen.ex
  refine ⟨⟨a, r, by rw [upd_ne np]; exact h1, h5, h6, h7⟩, ?_, pen.np, pen.ln⟩
  have ne : ∀ {o : HO}, M e.1 = Option.some o → e.1 ≠ h := fun z q => by rw [q, no] at z; cases z
  have go : e.1 ≠ h → SqL K (upd M2 h x) e.1 (e.2.map V.int) := fun ne => by
    rcases pen.sq with (z | ⟨o, z⟩) | z
    · exact .inl (.inl (by rw [upd_ne ne]; exact z))
    · exact .inl (.inr ⟨o, by rw [upd_ne ne]; exact z⟩)
    · exact .inr z
  rcases pen0.sq with (z | ⟨o, z⟩) | z
  · exact go (ne z)
  · exact go (ne z)
  · exact .inr z
/-! ### what is no ring, no number, as the law draws it -/
def OddV (l : Addr) (ls : List Int) (M : Hp) (v : V) : Prop := v = .non ∨ v = .int 5 ∨ (∃ z, v = .str z) ∨ (v = .ref l ∧ M l = some (.lst (ls.map V.int)))
def NonV (M : Hp) (v : V) : Prop := v = .non ∨ (∃ i : Int, v = .int i ∧ (i < 1 ∨ 100 < i)) ∨ (∃ b, v = .bl b) ∨ (∃ z, v = .str z) ∨ ∃ o xs, v = .ref o ∧ M o = some (.lst xs)
structure KitT (K : PySem.W.Frag) (C : Addr) : Prop where
  kN : PySem.W.kitOne K (.type "NoneType") (.ref C) = some false
  kI : PySem.W.kitOne K (.type "int") (.ref C) = some false
  kS : PySem.W.kitOne K (.type "str") (.ref C) = some false
  kL : PySem.W.kitOne K (.type "list") (.ref C) = some false
theorem OddV.no {K : PySem.W.Frag} {C l : Addr} {ls : List Int} {M : Hp} {v : V} (G : KitT K C) (h : OddV l ls M v) : NoR K C M v := by
  rcases h with rfl | rfl | ⟨z, rfl⟩ | ⟨rfl, h⟩
  · exact ⟨_, .base .non, G.kN⟩
  · exact ⟨_, .base (.int _), G.kI⟩
  · exact ⟨_, .base (.str _), G.kS⟩
  · exact ⟨_, .base (.lst h), G.kL⟩
theorem OddV.ext {l : Addr} {ls : List Int} {M M' : Hp} {v : V} (h : OddV l ls M v) (s : ExtN M M') : OddV l ls M' v := by
  rcases h with h | h | h | ⟨h, g⟩
  · exact .inl h
  · exact .inr (.inl h)
  · exact .inr (.inr (.inl h))
  · exact .inr (.inr (.inr ⟨h, s _ _ g (fun _ z => nomatch z)⟩))
theorem OddV.but {l p : Addr} {ls : List Int} {M M' : Hp} {v : V} (h : OddV l ls M v) (n : l ≠ p) (s : But p M M') : OddV l ls M' v := by
  rcases h with h | h | h | ⟨h, g⟩
  · exact .inl h
  · exact .inr (.inl h)
  · exact .inr (.inr (.inl h))
  · exact .inr (.inr (.inr ⟨h, s _ _ n g⟩))
theorem NonV.ext {M M' : Hp} {v : V} (h : NonV M v) (s : ExtN M M') : NonV M' v := by
  rcases h with h | h | h | h | ⟨o, xs, h, g⟩
  · exact .inl h
  · exact .inr (.inl h)
  · exact .inr (.inr (.inl h))
  · exact .inr (.inr (.inr (.inl h)))
  · exact .inr (.inr (.inr (.inr ⟨o, xs, h, s _ _ g (fun _ z => nomatch z)⟩)))
theorem NonV.but {p : Addr} {M M' : Hp} {v : V} (h : NonV M v) (n : v ≠ .ref p) (s : But p M M') : NonV M' v := by
  rcases h with h | h | h | h | ⟨o, xs, h, g⟩
  · exact .inl h
  · exact .inr (.inl h)
  · exact .inr (.inr (.inl h))
  · exact .inr (.inr (.inr (.inl h)))
  · exact .inr (.inr (.inr (.inr ⟨o, xs, h, s _ _ (fun z => n (by rw [h, z])) g⟩)))
theorem NonV.fresh {p : Addr} {M : Hp} {v : V} (h : NonV M v) (n : M p = none) : v ≠ .ref p := by
  rintro rfl
  rcases h with h | ⟨_, h, _⟩ | ⟨_, h⟩ | ⟨_, h⟩ | ⟨o, xs, h, g⟩
  · cases h
  · cases h
  · cases h
  · cases h
  · cases h; rw [n] at g; cases g
theorem NonV.knd {K : PySem.W.Frag} {M : Hp} {v : V} (h : NonV M v) (n : Int) (hn : n ≤ 100) : ∃ k, KndI K M v k ∧ winB k 1 n v = false := by
  rcases h with rfl | ⟨i, rfl, h⟩ | ⟨b, rfl⟩ | ⟨z, rfl⟩ | ⟨o, xs, rfl, g⟩
  · exact ⟨"NoneType", ⟨⟨.base .non, by decide⟩, fun z => absurd z (by decide)⟩, by simp [winB]⟩
  · refine ⟨"int", ⟨Knd.int, fun _ => ⟨i, rfl⟩⟩, ?_⟩
    show (decide ("int" = "int") && (decide (1 ≤ i) && decide (i ≤ n))) = false
    rw [Bool.and_eq_false_iff]
    refine .inr (Bool.and_eq_false_iff.mpr ?_)
    rcases h with h | h
    · exact .inl (decide_eq_false (by omega))
    · exact .inr (decide_eq_false (by omega))
  · exact ⟨"bool", ⟨⟨.base (.bl b), by decide⟩, fun z => absurd z (by decide)⟩, by simp [winB]⟩
  · exact ⟨"str", ⟨⟨.base (.str z), by decide⟩, fun z => absurd z (by decide)⟩, by simp [winB]⟩
  · exact ⟨"list", ⟨⟨.base (.lst g), by decide⟩, fun z => absurd z (by decide)⟩, by simp [winB]⟩
theorem win_int {i n : Int} (h : i < 1 ∨ n < i) : winB "int" 1 n (.int i) = false := by
  show (decide ("int" = "int") && (decide (1 ≤ i) && decide (i ≤ n))) = false
  rw [Bool.and_eq_false_iff]
  refine .inr (Bool.and_eq_false_iff.mpr ?_)
  rcases h with h | h
  · exact .inl (decide_eq_false (by omega))
  · exact .inr (decide_eq_false (by omega))
def ItsAt (M : Hp) (v : V) (its : List V) : Prop := ∃ a, v = .ref a ∧ M a = some (.tup its)
structure RS (K : PySem.W.Frag) (C P1 : Addr) (H0 : Hp) (p hd l ring wide : Addr) (e : Addr × List Int) (n : Nat) (ls ws : List Int) (odd non : V) (M : Hp) (us : List V) (rows : List (List V)) : Prop where
  pen : PenAt K M p e n
  tab : Tabs (T1 P1) M
  kp : Kp p H0 M
  rg : RingAt K C M ring ls
  wd : RingAt K C M wide ws
  od : OddV l ls M odd
  nn : NonV M non
  hh : M hd = some (.lst us)
  its : Paired (ItsAt M) us rows
theorem RS.ext {K : PySem.W.Frag} {C P1 : Addr} {H0 : Hp} {p hd l ring wide : Addr} {e : Addr × List Int} {n : Nat} {ls ws : List Int} {odd non : V} {M M' : Hp} {us : List V} {rows : List (List V)} (h : RS K C P1 H0 p hd l ring wide e n ls ws odd non M us rows) (x : ExtN M M') (t : Tabs (T1 P1) M') :
    RS K C P1 H0 p hd l ring wide e n ls ws odd non M' us rows :=
  ⟨h.pen.ext x, t, h.kp.ext x, h.rg.ext x, h.wd.ext x, h.od.ext x, h.nn.ext x, x _ _ h.hh (fun _ z => nomatch z), par_imp (fun _ _ ⟨a, q, z⟩ => ⟨a, q, x _ _ z (fun _ z => nomatch z)⟩) h.its⟩
theorem RS.same {K : PySem.W.Frag} {C P1 : Addr} {H0 : Hp} {p hd l ring wide : Addr} {e : Addr × List Int} {n : Nat} {ls ws : List Int} {odd non : V} {M M' : Hp} {us : List V} {rows : List (List V)} (h : RS K C P1 H0 p hd l ring wide e n ls ws odd non M us rows) (x : Same M M') :
    RS K C P1 H0 p hd l ring wide e n ls ws odd non M' us rows := h.ext (ExtN.of x) (h.tab.ext x)
/-- one more is heard -/
theorem RS.put {K : PySem.W.Frag} {C P1 : Addr} {H0 M0 : Hp} {p hd l ring wide r : Addr} {e : Addr × List Int} {n n0 : Nat} {ls ws : List Int} {odd non : V} {M : Hp} {us : List V} {rows : List (List V)} {it : List V} (h : RS K C P1 H0 p hd l ring wide e n ls ws odd non M us rows)
    (pen0 : PenAt K M0 p e n0) (kp0 : Kp p H0 M0) (no : M0 hd = none) (nl : l ≠ hd) (nv : non ≠ .ref hd) (hr : M r = some (.tup it)) : RS K C P1 H0 p hd l ring wide e n ls ws odd non (upd M hd (.lst (us ++ [.ref r]))) (us ++ [.ref r]) (rows ++ [it]) := by
  have b : But hd M (upd M hd (.lst (us ++ [.ref r]))) := (But.refl hd M).at
  have go : ∀ {a : Addr} {x : List V}, M a = some (.tup x) → upd M hd (.lst (us ++ [.ref r])) a = some (.tup x) := fun {a x} q => b _ _ (fun z => by rw [z, h.hh] at q; cases q) q
  exact ⟨PenAt.off pen0 no h.pen, tabs_but h.tab b h.hh, Kp.off kp0 no h.kp, h.rg.but h.hh b, h.wd.but h.hh b, h.od.but nl b, h.nn.but nv b, upd_same, par_app (par_imp (fun _ _ ⟨a, q, z⟩ => ⟨a, q, go z⟩) h.its) (.cons ⟨r, rfl, go hr⟩ .nil)⟩
section
variable {P : Program} {w : World} {K : PySem.W.Frag} {mg : Str → Option Value} {base : Heap}
def spRR (K : PySem.W.Frag) (P1 : Addr) : Sp := fun vs H Q _ => ∃ (p l : Addr) (e : Addr × List Int) (n : Nat) (ls : List Int), vs = [.ref p, .ref l] ∧ H l = some (.lst (ls.map V.int)) ∧ l ≠ p ∧ 3 ≤ ls.length ∧ ls.length ≤ 6 ∧ Bd 1000000 ls ∧ n < 800000 ∧ PenAt K H p e n ∧ Tabs (T1 P1) H ∧
  ∀ H', Q (.bl true) H'
abbrev nRR : List Str := ["_law_bench_here", "_law_lengths_here", "_law_heard_here", "_law_bad", "_law_none", "_law_odd", "_law_ring", "_law_wide", "_law_bar"]
theorem scRR : FnScope nRR ["_law_bench_here", "_law_lengths_here"] (defScope sLwRefusedRight) := ⟨rfl, rfl, rfl, by decide +kernel, rfl, by decide +kernel, by decide +kernel⟩
theorem ok_rr {C cd P1 eR f fM fD fK fI fN fH : Addr} {hc : Hs} {c : Ce} {fd fdM fdD fdK fdI fdN fdH : FuncData} (F : FunC K "_law_refused_right" "_law_refused_right" sLwRefusedRight f fd cd) (T : Bi mg) (R : RingC K mg C) (KT : KitT K C) (G : RingP P w K mg base C fI fdI)
    (NM : Meth K C "__len__" fN) (NL : FnOk P w K mg base CX0 1 fN fdN ["self"] (spRLen K C)) (NB : Binds K fdN ["self"] []) (ML : DefAt P w K mg base (L2.CX P w) 7 "many_lineups" ["ring", "many"] (spMany K C c) fM fdM) (hcs : hc.r = c.r ∧ hc.n = c.n ∧ hc.m = c.m)
    (D : DrawAt P w K mg base fD fdD) (PK : DefAt P w K mg base CX0 3 "_law_pick" ["_law_bench_here", "_law_some"] (spPick K) fK fdK) (Hc : HeardC K mg hc eR) (TB : TabB base mg cd P1) (hmT : (P1, qRf) ∈ T1 P1) (hu : ∀ p ∈ T1 P1, p.1 = P1 → p.2 = qRf)
    (FH : Fun K "_law_heard" "_law_heard" sLwHeard fH fdH) (BH : Binds K fdH ["_law_ask"] []) (GH : mg "_law_heard" = some (.ref fH)) : FnOk P w K mg base CX0 10 f fd ["_law_bench_here", "_law_lengths_here"] (spRR K P1) := by
  refine F.ok scRR (fun vs H Q E h => ?_) (fun A outer s H vs Q E hr h => ?_)
  · obtain ⟨p, l, e, n, ls, rfl, _⟩ := h
    rfl
  · have nd := scRR.nd
    obtain ⟨oc, od, kV, doc, pm, an, cdv, ct, osl, rfl, lk, hcd⟩ := FH.ex
    refine ⟨_, (pss_cons (ps_asg (pe_tup (pa_cons (pe_call PK.ok (hr.mono (by decide)) rfl PK.g PK.kp PK.b .nil pass0 (pa_cons (pv 0) (pa_cons (pe_lst (pa_cons pe_non (pa_cons pe_int (pa_cons (pv 1) (pa_cons pe_str pa_nil))))) pa_nil)))
          (pa_cons (pe_make G.made G.ok (hr.mono (by decide)) (by rfl) R.g G.b .nil pass0 (pa_cons (pv 1) pa_nil))
          (pa_cons (pe_make G.made G.ok (hr.mono (by decide)) (by rfl) R.g G.b .nil pass0 (pa_cons (pe_lc (own := [("_law_bar", 8)]) (g := gName 8) (tt := tYes) rfl nd (pi_range1 (by rfl) T.range (pa_cons (pe_op op_add pe_int (pe_call D.ok (hr.mono (by decide)) rfl D.g D.kp D.b .nil pass0 (pa_cons (pv 0) (pa_cons pe_int pa_nil)))) pa_nil))
            (blkOk_by (N := nRR) (sc := defScope sLwRefusedRight) (by decide +kernel)) (fun _ _ _ _ _ => pg_name (i := 8) nd rfl (Or.inl rfl)) (fun _ _ _ _ _ => pts_nil) (fun _ _ _ _ _ => pe_op op_add pe_int (pe_call D.ok (hr.mono (by decide)) rfl D.g D.kp D.b .nil pass0 (pa_cons (pv 0) (pa_cons pe_int pa_nil))))) pa_nil)) pa_nil))))
        (pg_tup (by rfl) (pgs_cons (pg_name (i := 5) nd rfl (Or.inr rfl)) (pgs_cons (pg_name (i := 6) nd rfl (Or.inr rfl)) (pgs_cons (pg_name (i := 7) nd rfl (Or.inr rfl)) pgs_nil)))))
      (pss_cons (ps_asg (pe_tup (pa_cons (pe_call PK.ok (hr.mono (by decide)) rfl PK.g PK.kp PK.b .nil pass0 (pa_cons (pv 0) (pa_cons (pe_lst (pa_cons pe_non (pa_cons pe_int (pa_cons (pe_un un_neg pe_int) (pa_cons pe_bl (pa_cons pe_str (pa_cons (pe_lst (pa_cons pe_int pa_nil)) (pa_cons (pe_op op_pow pe_int pe_int) pa_nil)))))))) pa_nil)))
          (pa_cons (pe_call PK.ok (hr.mono (by decide)) rfl PK.g PK.kp PK.b .nil pass0 (pa_cons (pv 0) (pa_cons (pe_lst (pa_cons pe_int (pa_cons (pe_op op_add (pe_callB call_len_seq (by rfl) T.len PySem.boot_len (pa_cons (pv 1) pa_nil)) pe_int) (pa_cons (pe_un un_neg pe_int) pa_nil)))) pa_nil))) pa_nil)))
        (pg_tup (by rfl) (pgs_cons (pg_name (i := 4) nd rfl (Or.inr rfl)) (pgs_cons (pg_name (i := 3) nd rfl (Or.inr rfl)) pgs_nil))))
      (pss_cons (ps_set (i := 2) nd rfl (Or.inl rfl) (pe_lst (pa_cons (pe_lamcall (T := T1 P1) (TT := THeard hc) (a := "_law_ask") (g := fH) (c := cd) (P := P1) (k := 7) (Ng := nHeard) rfl GH FH.kp lk hcd BH scHeard rfl (Or.inl rfl) (heard_gives T Hc) TB rfl hmT hu (hr.mono (by decide)) (lamS_by (sc := defScope sLwRefusedRight) (by decide +kernel)) rfl (fun _ _ _ _ _ => rfl)
          (fun A outer s H E f c' hr' => (pe_call ML.ok hr' rfl ML.g ML.kp ML.b .nil (passes_call (takes_of rfl rfl rfl rfl) (fun _ _ _ _ h => h)) (pa_cons (pv 5) (pa_cons (pv 4) pa_nil))))) pa_nil)))
      (pss_cons (ps_expr (pe_bm PySem.F.plainAttrs_list PySem.F.slot_list_append PySem.F.type_list_append mt_append (pv 2) (pa_cons (pe_lamcall (T := T1 P1) (TT := THeard hc) (a := "_law_ask") (g := fH) (c := cd) (P := P1) (k := 7) (Ng := nHeard) rfl GH FH.kp lk hcd BH scHeard rfl (Or.inl rfl) (heard_gives T Hc) TB rfl hmT hu (hr.mono (by decide)) (lamS_by (sc := defScope sLwRefusedRight) (by decide +kernel)) rfl (fun _ _ _ _ _ => rfl)
          (fun A outer s H E f c' hr' => (pe_call ML.ok hr' rfl ML.g ML.kp ML.b .nil (passes_call (takes_of rfl rfl rfl rfl) (fun _ _ _ _ h => h)) (pa_cons (pv 6) (pa_cons (pv 4) pa_nil))))) pa_nil)))
      (pss_cons (ps_expr (pe_bm PySem.F.plainAttrs_list PySem.F.slot_list_append PySem.F.type_list_append mt_append (pv 2) (pa_cons (pe_lamcall (T := T1 P1) (TT := THeard hc) (a := "_law_ask") (g := fH) (c := cd) (P := P1) (k := 7) (Ng := nHeard) rfl GH FH.kp lk hcd BH scHeard rfl (Or.inl rfl) (heard_gives T Hc) TB rfl hmT hu (hr.mono (by decide)) (lamS_by (sc := defScope sLwRefusedRight) (by decide +kernel)) rfl (fun _ _ _ _ _ => rfl)
          (fun A outer s H E f c' hr' => (pe_call ML.ok hr' rfl ML.g ML.kp ML.b .nil (passes_call (takes_of rfl rfl rfl rfl) (fun _ _ _ _ h => h)) (pa_cons (pv 6) (pa_cons (pv 3) pa_nil))))) pa_nil)))
      (pss_cons (ps_expr (pe_bm PySem.F.plainAttrs_list PySem.F.slot_list_append PySem.F.type_list_append mt_append (pv 2) (pa_cons (pe_lamcall (T := T1 P1) (TT := THeard hc) (a := "_law_ask") (g := fH) (c := cd) (P := P1) (k := 7) (Ng := nHeard) rfl GH FH.kp lk hcd BH scHeard rfl (Or.inl rfl) (heard_gives T Hc) TB rfl hmT hu (hr.mono (by decide)) (lamS_by (sc := defScope sLwRefusedRight) (by decide +kernel)) rfl (fun _ _ _ _ _ => rfl)
          (fun A outer s H E f c' hr' => (pe_call ML.ok hr' rfl ML.g ML.kp ML.b .nil (passes_call (takes_of rfl rfl rfl rfl) (fun _ _ _ _ h => h)) (pa_cons (pv 7) (pa_cons pe_int pa_nil))))) pa_nil)))
      (pss_cons (ps_expr (pe_bm PySem.F.plainAttrs_list PySem.F.slot_list_append PySem.F.type_list_append mt_append (pv 2) (pa_cons (pe_lamcall (T := T1 P1) (TT := THeard hc) (a := "_law_ask") (g := fH) (c := cd) (P := P1) (k := 7) (Ng := nHeard) rfl GH FH.kp lk hcd BH scHeard rfl (Or.inl rfl) (heard_gives T Hc) TB rfl hmT hu (hr.mono (by decide)) (lamS_by (sc := defScope sLwRefusedRight) (by decide +kernel)) rfl (fun _ _ _ _ _ => rfl)
          (fun A outer s H E f c' hr' => (pe_call ML.ok hr' rfl ML.g ML.kp ML.b .nil (passes_call (takes_of rfl rfl rfl rfl) (fun _ _ _ _ h => h)) (pa_cons (pv 7) (pa_cons (pe_op op_add (pe_callB (r := rLenO K fN (spRLen K C)) (call_lenO NL (hr'.mono (by decide : (2 : Nat) ≤ 7)) NB) (by rfl) T.len PySem.boot_len (pa_cons (pv 7) pa_nil)) pe_int) pa_nil))))) pa_nil)))
      (pss_cons (ps_expr (pe_bm PySem.F.plainAttrs_list PySem.F.slot_list_append PySem.F.type_list_append mt_append (pv 2) (pa_cons (pe_lamcall (T := T1 P1) (TT := THeard hc) (a := "_law_ask") (g := fH) (c := cd) (P := P1) (k := 7) (Ng := nHeard) rfl GH FH.kp lk hcd BH scHeard rfl (Or.inl rfl) (heard_gives T Hc) TB rfl hmT hu (hr.mono (by decide)) (lamS_by (sc := defScope sLwRefusedRight) (by decide +kernel)) rfl (fun _ _ _ _ _ => rfl)
          (fun A outer s H E f c' hr' => (pe_call ML.ok hr' rfl ML.g ML.kp ML.b .nil (passes_call (takes_of rfl rfl rfl rfl) (fun _ _ _ _ h => h)) (pa_cons (pv 7) (pa_cons (pe_op op_add pe_int (pe_call D.ok (hr'.mono (by decide)) rfl D.g D.kp D.b .nil pass0 (pa_cons (pv 0) (pa_cons (pe_callB (r := rLenO K fN (spRLen K C)) (call_lenO NL (hr'.mono (by decide : (2 : Nat) ≤ 7)) NB) (by rfl) T.len PySem.boot_len (pa_cons (pv 7) pa_nil)) pa_nil)))) pa_nil))))) pa_nil)))
      (pss_one (ps_ret (pe_cmpR (op_eqD hr.units) (pv 2) (pe_lst (pa_cons (pe_tup (pa_cons pe_str (pa_cons pe_str pa_nil))) (pa_cons (pe_tup (pa_cons pe_str (pa_cons pe_str pa_nil))) (pa_cons (pe_tup (pa_cons pe_str (pa_cons pe_str pa_nil))) (pa_cons (pe_tup (pa_cons pe_str (pa_cons pe_str pa_nil))) (pa_cons (pe_tup (pa_cons pe_str (pa_cons pe_str pa_nil))) (pa_cons (pe_tup (pa_cons pe_str (pa_cons pe_int pa_nil))) pa_nil))))))) (nomark _)))))))))))), ?_⟩
    obtain ⟨p, l, e, n, ls, rfl, hl, nlp, l3, l6, bd, hn, pen, tab, q⟩ := h
    have kpR : Kp p H H := Kp.refl p H
    -- odd, ring, wide
    refine ⟨_, rfl, _, rfl, (by show 4 ≤ sizeLine; decide), fun u0 nu0 => ?_⟩
    have pu := pen.put nu0 (o := .lst [.non, .int 5, .ref l, .str "3 2 2"])
    have npu := pen.ne nu0
    have s0 : Same H (upd H u0 (.lst [.non, .int 5, .ref l, .str "3 2 2"])) := (Same.refl H).new nu0
    have hu0 : upd H u0 (.lst [.non, .int 5, .ref l, .str "3 2 2"]) u0 = some (.lst [.non, .int 5, .ref l, .str "3 2 2"]) := upd_same
    generalize upd H u0 (.lst [.non, .int 5, .ref l, .str "3 2 2"]) = H0 at s0 hu0 pu ⊢
    refine ⟨p, u0, e, _, n, rfl, SqL.of hu0, npu, (by show 1 ≤ 4; decide), (by show 4 ≤ 1000; decide), by omega, pu, fun i0 odd H1 hv0 b1 pen1 => ?_⟩
    obtain ⟨px, hpx⟩ := pu.some
    have tab1 := tabs_but (tab.ext s0) b1 hpx
    have kp1 := (kpR.same s0).but b1
    have hl1 := b1 _ _ nlp (s0 _ _ hl)
    have od1 : OddV l ls H1 odd := by
      have hm := List.mem_of_getElem? hv0
      simp only [List.mem_cons, List.not_mem_nil, or_false] at hm
      rcases hm with z | z | z | z
      · exact .inl z
      · exact .inr (.inl z)
      · exact .inr (.inr (.inr ⟨z, hl1⟩))
      · exact .inr (.inr (.inl ⟨_, z⟩))
    refine ⟨_, rfl, madeL2 hl1 l3 (by omega) bd fun ring H2 rg2 s2 nr2 => ⟨rfl, ?_⟩⟩
    have pen2 := pen1.same s2
    refine ⟨_, rfl, p, e, 2, _, rfl, by decide, by decide, by omega, pen2, fun r0 H3 r0a r0b b3 pen3 => ⟨_, _, rfl, rfl, ?_⟩⟩
    obtain ⟨px2, hpx2⟩ := pen2.some
    have tab3 := tabs_but (tab1.ext s2) b3 hpx2
    have kp3 := (kp1.same s2).but b3
    have hl3 := b3 _ _ nlp (s2 _ _ hl1)
    have rg3 := rg2.but hpx2 b3
    have od3 := (od1.ext (ExtN.of s2)).but nlp b3
    refine ⟨_, rfl, by omega, by omega, fun D0 nD0 => ?_⟩
    have nDp := pen3.ne nD0
    refine lc_range (lo := 0) (n := (7 + r0).toNat) (fun i H' => ∃ ws : List Int, ws.length = i ∧ Bd 9 ws ∧ H' D0 = some (.lst (ws.map V.int)) ∧ But p H3 H' ∧ PenAt K H' p e (n + 2 + i)) ⟨[], rfl, fun x hx => (by cases hx), upd_same, (But.refl p H3).mut nD0, pen3.mut pen3 (But.refl p H3) nD0⟩ ?_ ?_
    · rintro i H' hi ⟨ws, ll, bw, hd, b, pen'⟩
      refine ⟨rfl, _, rfl, p, e, 9, n + 2 + i, rfl, by decide, by decide, by omega, pen', fun r H4 q0 q1 b4 pen4 => ⟨_, _, rfl, rfl, _, b4 D0 _ nDp hd, sm (by rw [List.length_map]; omega), ws ++ [1 + r], by rw [List.length_append, ll]; rfl, bw.snoc (by omega) (by omega), ?_, (b.trans b4).mut nD0, pen3.mut pen4 (b.trans b4) nD0⟩⟩
      rw [List.map_append]
      exact upd_same
    rintro H4 ⟨ws, wl, bw, hw4, b4, pen4⟩
    obtain ⟨px3, hpx3⟩ := pen3.some
    have tab4 := tabs_but tab3 b4 hpx3
    have kp4 := kp3.but b4
    have hl4 := b4 _ _ nlp hl3
    have rg4 := rg3.but hpx3 b4
    have od4 := od3.but nlp b4
    have w7 : 7 ≤ ws.length := by omega
    have w8 : ws.length ≤ 8 := by omega
    refine madeL2 hw4 (by omega) w8 (bw.le (by decide)) fun wide H5 wd5 s5 nw5 => ⟨rfl, (by show 3 ≤ sizeLine; decide), fun t5 nt5 => ?_⟩
    have s6 : Same H5 (upd H5 t5 (.tup [odd, .ref ring, .ref wide])) := (Same.refl H5).new nt5
    have ht6 : upd H5 t5 (.tup [odd, .ref ring, .ref wide]) t5 = some (.tup [odd, .ref ring, .ref wide]) := upd_same
    generalize upd H5 t5 (.tup [odd, .ref ring, .ref wide]) = H6 at s6 ht6 ⊢
    refine ⟨t5, _, rfl, .inl (.inl ht6), rfl, _, _, rfl, _, _, rfl, _, _, rfl, rfl, ?_⟩
    have s46 := s5.trans s6
    have pen6 := pen4.same s46
    have tab6 := tab4.ext s46
    have kp6 := kp4.same s46
    have hl6 := s46 _ _ hl4
    have rg6 := rg4.same s46
    have wd6 := wd5.same s6
    have od6 := od4.ext (ExtN.of s46)
    clear od4 od3 od1 rg4 rg3 rg2 tab4 tab3 tab1 pu hpx hpx2 hpx3
    -- none, bad
    refine ⟨_, rfl, 1, rfl, (by show 1 ≤ sizeLine; decide), fun o1 no1 => ?_⟩
    have s7 : Same H6 (upd H6 o1 (.lst [.int 2])) := (Same.refl H6).new no1
    have ho1 : upd H6 o1 (.lst [.int 2]) o1 = some (.lst [.int 2]) := upd_same
    generalize upd H6 o1 (.lst [.int 2]) = H7 at s7 ho1 ⊢
    refine ⟨_, _, rfl, rfl, ⟨by decide, by decide, by decide⟩, (by show 7 ≤ sizeLine; decide), fun o2 no2 => ?_⟩
    have pen7 := pen6.same s7
    have npo2 := pen7.ne no2
    have npo1 := pen6.ne no1
    have s8 : Same H7 (upd H7 o2 (.lst [.non, .int 0, .int (-1), .bl true, .str "2", .ref o1, .int (10 ^ Int.toNat 30)])) := (Same.refl H7).new no2
    have ho2 : upd H7 o2 (.lst [.non, .int 0, .int (-1), .bl true, .str "2", .ref o1, .int (10 ^ Int.toNat 30)]) o2 = some (.lst [.non, .int 0, .int (-1), .bl true, .str "2", .ref o1, .int (10 ^ Int.toNat 30)]) := upd_same
    generalize upd H7 o2 (.lst [.non, .int 0, .int (-1), .bl true, .str "2", .ref o1, .int (10 ^ Int.toNat 30)]) = H8 at s8 ho2 ⊢
    have pen8 := pen7.same s8
    refine ⟨p, o2, e, _, _, rfl, SqL.of ho2, npo2, (by show 1 ≤ 7; decide), (by show 7 ≤ 1000; decide), by omega, pen8, fun i1 non H9 hv1 b9 pen9 => ?_⟩
    obtain ⟨px8, hpx8⟩ := pen8.some
    have s68 := s7.trans s8
    have tab9 := tabs_but (tab6.ext s68) b9 hpx8
    have kp9 := (kp6.same s68).but b9
    have hl9 := b9 _ _ nlp (s68 _ _ hl6)
    have rg9 := (rg6.same s68).but hpx8 b9
    have wd9 := (wd6.same s68).but hpx8 b9
    have od9 := (od6.ext (ExtN.of s68)).but nlp b9
    have no9 := b9 _ _ npo1 (s8 _ _ ho1)
    have nn9 : NonV H9 non ∧ non ≠ .ref p := by
      have hm := List.mem_of_getElem? hv1
      simp only [List.mem_cons, List.not_mem_nil, or_false] at hm
      rcases hm with rfl | rfl | rfl | rfl | rfl | rfl | rfl
      · exact ⟨.inl rfl, fun z => nomatch z⟩
      · exact ⟨.inr (.inl ⟨_, rfl, .inl (by decide)⟩), fun z => nomatch z⟩
      · exact ⟨.inr (.inl ⟨_, rfl, .inl (by decide)⟩), fun z => nomatch z⟩
      · exact ⟨.inr (.inr (.inl ⟨_, rfl⟩)), fun z => nomatch z⟩
      · exact ⟨.inr (.inr (.inr (.inl ⟨_, rfl⟩))), fun z => nomatch z⟩
      · exact ⟨.inr (.inr (.inr (.inr ⟨o1, _, rfl, no9⟩))), fun z => npo1 (V.ref.inj z)⟩
      · exact ⟨.inr (.inl ⟨_, rfl, .inr (by decide)⟩), fun z => nomatch z⟩
    obtain ⟨nn9, nnp⟩ := nn9
    refine ⟨_, rfl, _, rfl, l, _, rfl, .inl (SqL.of hl9), _, _, rfl, rfl, 2, rfl, (by show 3 ≤ sizeLine; decide), fun o3 no3 => ?_⟩
    rw [List.length_map]
    have npo3 := pen9.ne no3
    have s10 : Same H9 (upd H9 o3 (.lst [.int 0, .int ((ls.length : Int) + 1), .int (-2)])) := (Same.refl H9).new no3
    have ho3 : upd H9 o3 (.lst [.int 0, .int ((ls.length : Int) + 1), .int (-2)]) o3 = some (.lst [.int 0, .int ((ls.length : Int) + 1), .int (-2)]) := upd_same
    generalize upd H9 o3 (.lst [.int 0, .int ((ls.length : Int) + 1), .int (-2)]) = H10 at s10 ho3 ⊢
    have pen10 := pen9.same s10
    refine ⟨p, o3, e, _, _, rfl, SqL.of ho3, npo3, (by show 1 ≤ 3; decide), (by show 3 ≤ 1000; decide), by omega, pen10, fun i2 bad H11 hv2 b11 pen11 => ?_⟩
    obtain ⟨px10, hpx10⟩ := pen10.some
    obtain ⟨bi, rfl, hbi⟩ : ∃ bi : Int, bad = .int bi ∧ (bi < 1 ∨ (ls.length : Int) < bi) := by
      have hm := List.mem_of_getElem? hv2
      simp only [List.mem_cons, List.not_mem_nil, or_false] at hm
      rcases hm with z | z | z
      · exact ⟨_, z, .inl (by decide)⟩
      · exact ⟨_, z, .inr (by omega)⟩
      · exact ⟨_, z, .inl (by decide)⟩
    refine ⟨(by show 2 ≤ sizeLine; decide), fun t6 nt6 => ?_⟩
    have s12 : Same H11 (upd H11 t6 (.tup [non, .int bi])) := (Same.refl H11).new nt6
    have ht12 : upd H11 t6 (.tup [non, .int bi]) t6 = some (.tup [non, .int bi]) := upd_same
    generalize upd H11 t6 (.tup [non, .int bi]) = H12 at s12 ht12 ⊢
    refine ⟨t6, _, rfl, .inl (.inl ht12), rfl, _, _, rfl, _, _, rfl, rfl, ?_⟩
    have tab12 := (tabs_but (tab9.ext s10) b11 hpx10).ext s12
    have kp12 := ((kp9.same s10).but b11).same s12
    have rg12 := ((rg9.same s10).but hpx10 b11).same s12
    have wd12 := ((wd9.same s10).but hpx10 b11).same s12
    have od12 := ((od9.ext (ExtN.of s10)).but nlp b11).ext (ExtN.of s12)
    have nn12 := ((nn9.ext (ExtN.of s10)).but nnp b11).ext (ExtN.of s12)
    have hl12 := s12 _ _ (b11 _ _ nlp (s10 _ _ hl9))
    have pen12 := pen11.same s12
    obtain ⟨er, en, em⟩ := hcs
    -- no ring
    refine hear (.r (.str "ring")) (fun J => ExtN H12 J ∧ Tabs (T1 P1) J) tab12 (fun E' J Q' xJ tJ er' => ⟨_, rfl, _, rfl, odd, non, rfl, .inl ⟨(od12.ext xJ).no KT, er ▸ er' J ⟨xJ, tJ⟩⟩⟩) fun J2 M r1 z sM hr1 => ?_
    refine ⟨(by show 1 ≤ sizeLine; decide), fun hd nhd => ?_⟩
    have xM : ExtN H12 M := z.1.trans (ExtN.of sM)
    have tM := z.2.ext sM
    have penM := pen12.ext xM
    have kpM := kp12.ext xM
    have hlM := xM _ _ hl12 (fun _ z => nomatch z)
    have nlh : l ≠ hd := ne_of_none hlM nhd
    have nvh : non ≠ .ref hd := (nn12.ext xM).fresh nhd
    have st1 : RS K C P1 H p hd l ring wide e (n + 4 + (7 + r0).toNat) ls ws odd non (upd M hd (.lst [.ref r1])) [.ref r1] [[.str "ring", .str "ring"]] := by
      have s := (Same.refl M).new nhd (o := .lst [.ref r1])
      have x := xM.trans (ExtN.of s)
      exact ⟨(pen12.ext x).mono (by omega), tM.ext s, kp12.ext x, rg12.ext x, wd12.ext x, od12.ext x, nn12.ext x, upd_same, .cons ⟨r1, rfl, s _ _ hr1⟩ .nil⟩
    generalize upd M hd (.lst [.ref r1]) = M1 at st1 ⊢
    -- no number
    refine ⟨_, rfl, .inl ⟨rfl, _, SqL.of st1.hh⟩, ?_⟩
    refine hear (.n (.str "many")) (fun J => RS K C P1 H p hd l ring wide e (n + 4 + (7 + r0).toNat) ls ws odd non J [.ref r1] [[.str "ring", .str "ring"]]) st1.tab (fun E' J Q' xJ tJ er' => ?_) fun J2 M r2 z sM hr2 => ?_
    · have sJ := st1.ext xJ tJ
      obtain ⟨k, kn, wf⟩ := sJ.nn.knd (K := K) ls.length (by omega)
      exact ⟨_, rfl, _, rfl, .ref ring, non, rfl, .inr ⟨ring, ls, k, rfl, sJ.rg, l3, by omega, kn, .inl ⟨wf, en ▸ er' J sJ⟩⟩⟩
    have stM := RS.same z sM
    refine ⟨hd, _, _, rfl, rfl, stM.hh, (by show 1 < sizeLine; decide), ?_⟩
    have st2 := stM.put penM kpM nhd nlh nvh hr2
    generalize upd M hd (.lst ([.ref r1] ++ [.ref r2])) = M2 at st2 ⊢
    refine ⟨_, rfl, .inl ⟨rfl, _, SqL.of st2.hh⟩, ?_⟩
    refine hear (.n (.str "many")) (fun J => RS K C P1 H p hd l ring wide e (n + 4 + (7 + r0).toNat) ls ws odd non J ([.ref r1] ++ [.ref r2]) ([[.str "ring", .str "ring"]] ++ [[.str "number", .str "many"]])) st2.tab (fun E' J Q' xJ tJ er' => ?_) fun J2 M r3 z sM hr3 => ?_
    · have sJ := st2.ext xJ tJ
      exact ⟨_, rfl, _, rfl, .ref ring, .int bi, rfl, .inr ⟨ring, ls, "int", rfl, sJ.rg, l3, by omega, ⟨Knd.int, fun _ => ⟨_, rfl⟩⟩, .inl ⟨win_int hbi, en ▸ er' J sJ⟩⟩⟩
    have stM := RS.same z sM
    refine ⟨hd, _, _, rfl, rfl, stM.hh, (by show 2 < sizeLine; decide), ?_⟩
    have st3 := stM.put penM kpM nhd nlh nvh hr3
    generalize upd M hd (.lst ([.ref r1] ++ [.ref r2] ++ [.ref r3])) = M3 at st3 ⊢
    refine ⟨_, rfl, .inl ⟨rfl, _, SqL.of st3.hh⟩, ?_⟩
    refine hear (.n (.str "many")) (fun J => RS K C P1 H p hd l ring wide e (n + 4 + (7 + r0).toNat) ls ws odd non J ([.ref r1] ++ [.ref r2] ++ [.ref r3]) (([[.str "ring", .str "ring"]] ++ [[.str "number", .str "many"]]) ++ [[.str "number", .str "many"]])) st3.tab (fun E' J Q' xJ tJ er' => ?_) fun J2 M r4 z sM hr4 => ?_
    · have sJ := st3.ext xJ tJ
      exact ⟨_, rfl, .ref wide, .int 0, rfl, .inr ⟨wide, ws, "int", rfl, sJ.wd, by omega, w8, ⟨Knd.int, fun _ => ⟨_, rfl⟩⟩, .inl ⟨win_int (.inl (by decide)), en ▸ er' J sJ⟩⟩⟩
    have stM := RS.same z sM
    refine ⟨hd, _, _, rfl, rfl, stM.hh, (by show 3 < sizeLine; decide), ?_⟩
    have st4 := stM.put penM kpM nhd nlh nvh hr4
    generalize upd M hd (.lst ([.ref r1] ++ [.ref r2] ++ [.ref r3] ++ [.ref r4])) = M4 at st4 ⊢
    refine ⟨_, rfl, .inl ⟨rfl, _, SqL.of st4.hh⟩, ?_⟩
    refine hear (.n (.str "many")) (fun J => RS K C P1 H p hd l ring wide e (n + 4 + (7 + r0).toNat) ls ws odd non J ([.ref r1] ++ [.ref r2] ++ [.ref r3] ++ [.ref r4]) ((([[.str "ring", .str "ring"]] ++ [[.str "number", .str "many"]]) ++ [[.str "number", .str "many"]]) ++ [[.str "number", .str "many"]])) st4.tab (fun E' J Q' xJ tJ er' => ?_) fun J2 M r5 z sM hr5 => ?_
    · have sJ := st4.ext xJ tJ
      obtain ⟨dx, t, hw0, _⟩ := id sJ.wd
      refine ⟨_, rfl, _, rfl, wide, C, dx, _, rfl, hw0, NM.at_, NM.fn, wide, ws, rfl, sJ.wd.weak, _, rfl, by omega, by omega, _, _, rfl, rfl, .ref wide, .int ((ws.length : Int) + 1), rfl, .inr ⟨wide, ws, "int", rfl, sJ.wd, by omega, w8, ⟨Knd.int, fun _ => ⟨_, rfl⟩⟩, .inl ⟨win_int (.inr (by omega)), en ▸ er' J sJ⟩⟩⟩
    have stM := RS.same z sM
    refine ⟨hd, _, _, rfl, rfl, stM.hh, (by show 4 < sizeLine; decide), ?_⟩
    have st5 := stM.put penM kpM nhd nlh nvh hr5
    generalize upd M hd (.lst ([.ref r1] ++ [.ref r2] ++ [.ref r3] ++ [.ref r4] ++ [.ref r5])) = M5 at st5 ⊢
    -- too many
    refine ⟨_, rfl, .inl ⟨rfl, _, SqL.of st5.hh⟩, ?_⟩
    refine hear (.m (.str "bars") (.int 6)) (fun J => ∃ J0, RS K C P1 H p hd l ring wide e (n + 4 + (7 + r0).toNat) ls ws odd non J0 ([.ref r1] ++ [.ref r2] ++ [.ref r3] ++ [.ref r4] ++ [.ref r5]) (((([[.str "ring", .str "ring"]] ++ [[.str "number", .str "many"]]) ++ [[.str "number", .str "many"]]) ++ [[.str "number", .str "many"]]) ++ [[.str "number", .str "many"]]) ∧ But p J0 J) st5.tab (fun E' J Q' xJ tJ er' => ?_) fun J2 M r6 z sM hr6 => ?_
    · have sJ := st5.ext xJ tJ
      obtain ⟨dx, t, hw0, _⟩ := id sJ.wd
      refine ⟨_, rfl, _, rfl, _, rfl, wide, C, dx, _, rfl, hw0, NM.at_, NM.fn, wide, ws, rfl, sJ.wd.weak, _, rfl, by omega, by omega, p, e, ws.length, _, rfl, by omega, by omega, by omega, sJ.pen, fun r J1 ra rb bJ penJ => ⟨_, _, rfl, rfl, ?_⟩⟩
      obtain ⟨pj, hpj⟩ := sJ.pen.some
      refine ⟨.ref wide, .int (1 + r), rfl, .inr ⟨wide, ws, "int", rfl, sJ.wd.but hpj bJ, by omega, w8, ⟨Knd.int, fun _ => ⟨_, rfl⟩⟩, .inr ⟨1 + r, rfl, ?_, .inl ⟨by omega, em ▸ er' J1 ⟨J, sJ, bJ⟩⟩⟩⟩⟩
      show (decide ("int" = "int") && (decide (1 ≤ 1 + r) && decide (1 + r ≤ (ws.length : Int)))) = true
      exact Bool.and_eq_true_iff.mpr ⟨rfl, Bool.and_eq_true_iff.mpr ⟨decide_eq_true (by omega), decide_eq_true (by omega)⟩⟩
    obtain ⟨J0, sJ, bJ⟩ := z
    have nhp : hd ≠ p := penM.ne nhd
    have hhM := sM _ _ (bJ _ _ nhp sJ.hh)
    refine ⟨hd, _, _, rfl, rfl, hhM, (by show 5 < sizeLine; decide), ?_⟩
    obtain ⟨pj, hpj⟩ := sJ.pen.some
    have itM : Paired (ItsAt M) ([.ref r1] ++ [.ref r2] ++ [.ref r3] ++ [.ref r4] ++ [.ref r5]) (((([[.str "ring", .str "ring"]] ++ [[.str "number", .str "many"]]) ++ [[.str "number", .str "many"]]) ++ [[.str "number", .str "many"]]) ++ [[.str "number", .str "many"]]) := par_imp (fun _ _ ⟨a, q, z⟩ => ⟨a, q, sM _ _ (bJ _ _ (fun w => by rw [w, hpj] at z; cases z) z)⟩) sJ.its
    have hh6 : upd M hd (.lst (([.ref r1] ++ [.ref r2] ++ [.ref r3] ++ [.ref r4] ++ [.ref r5]) ++ [.ref r6])) hd = some (.lst [.ref r1, .ref r2, .ref r3, .ref r4, .ref r5, .ref r6]) := upd_same
    have it6 : Paired (ItsAt (upd M hd (.lst (([.ref r1] ++ [.ref r2] ++ [.ref r3] ++ [.ref r4] ++ [.ref r5]) ++ [.ref r6])))) (([.ref r1] ++ [.ref r2] ++ [.ref r3] ++ [.ref r4] ++ [.ref r5]) ++ [.ref r6]) ((((([[.str "ring", .str "ring"]] ++ [[.str "number", .str "many"]]) ++ [[.str "number", .str "many"]]) ++ [[.str "number", .str "many"]]) ++ [[.str "number", .str "many"]]) ++ [[.str "bars", .int 6]]) :=
      par_app (par_imp (fun _ _ ⟨a, q, z⟩ => ⟨a, q, by rw [upd_ne fun w => by rw [w, hhM] at z; cases z]; exact z⟩) itM) (.cons ⟨r6, rfl, by rw [upd_ne fun w => by rw [w, hhM] at hr6; cases hr6]; exact hr6⟩ .nil)
    generalize upd M hd (.lst (([.ref r1] ++ [.ref r2] ++ [.ref r3] ++ [.ref r4] ++ [.ref r5]) ++ [.ref r6])) = W0 at hh6 it6 ⊢
    refine ⟨_, rfl, (by show 2 ≤ sizeLine; decide), fun t1 nt1 => ⟨(by show 2 ≤ sizeLine; decide), fun t2 nt2 => ⟨(by show 2 ≤ sizeLine; decide), fun t3 nt3 => ⟨(by show 2 ≤ sizeLine; decide), fun t4 nt4 => ⟨(by show 2 ≤ sizeLine; decide), fun t5 nt5 => ⟨(by show 2 ≤ sizeLine; decide), fun t6 nt6 => ⟨(by show 6 ≤ sizeLine; decide), fun t7 nt7 => ?_⟩⟩⟩⟩⟩⟩⟩
    have w1 : Same W0 (upd W0 t1 (.tup [.str "ring", .str "ring"])) := (Same.refl W0).new nt1
    have z1 : upd W0 t1 (.tup [.str "ring", .str "ring"]) t1 = some (.tup [.str "ring", .str "ring"]) := upd_same
    generalize upd W0 t1 (.tup [.str "ring", .str "ring"]) = W1 at w1 z1 nt2 nt3 nt4 nt5 nt6 nt7 ⊢
    have w2 : Same W1 (upd W1 t2 (.tup [.str "number", .str "many"])) := (Same.refl W1).new nt2
    have z2 : upd W1 t2 (.tup [.str "number", .str "many"]) t2 = some (.tup [.str "number", .str "many"]) := upd_same
    generalize upd W1 t2 (.tup [.str "number", .str "many"]) = W2 at w2 z2 nt3 nt4 nt5 nt6 nt7 ⊢
    have w3 : Same W2 (upd W2 t3 (.tup [.str "number", .str "many"])) := (Same.refl W2).new nt3
    have z3 : upd W2 t3 (.tup [.str "number", .str "many"]) t3 = some (.tup [.str "number", .str "many"]) := upd_same
    generalize upd W2 t3 (.tup [.str "number", .str "many"]) = W3 at w3 z3 nt4 nt5 nt6 nt7 ⊢
    have w4 : Same W3 (upd W3 t4 (.tup [.str "number", .str "many"])) := (Same.refl W3).new nt4
    have z4 : upd W3 t4 (.tup [.str "number", .str "many"]) t4 = some (.tup [.str "number", .str "many"]) := upd_same
    generalize upd W3 t4 (.tup [.str "number", .str "many"]) = W4 at w4 z4 nt5 nt6 nt7 ⊢
    have w5 : Same W4 (upd W4 t5 (.tup [.str "number", .str "many"])) := (Same.refl W4).new nt5
    have z5 : upd W4 t5 (.tup [.str "number", .str "many"]) t5 = some (.tup [.str "number", .str "many"]) := upd_same
    generalize upd W4 t5 (.tup [.str "number", .str "many"]) = W5 at w5 z5 nt6 nt7 ⊢
    have w6 : Same W5 (upd W5 t6 (.tup [.str "bars", .int 6])) := (Same.refl W5).new nt6
    have z6 : upd W5 t6 (.tup [.str "bars", .int 6]) t6 = some (.tup [.str "bars", .int 6]) := upd_same
    generalize upd W5 t6 (.tup [.str "bars", .int 6]) = W6 at w6 z6 nt7 ⊢
    have w7 : Same W6 (upd W6 t7 (.lst [.ref t1, .ref t2, .ref t3, .ref t4, .ref t5, .ref t6])) := (Same.refl W6).new nt7
    have z7 : upd W6 t7 (.lst [.ref t1, .ref t2, .ref t3, .ref t4, .ref t5, .ref t6]) t7 = some (.lst [.ref t1, .ref t2, .ref t3, .ref t4, .ref t5, .ref t6]) := upd_same
    generalize upd W6 t7 (.lst [.ref t1, .ref t2, .ref t3, .ref t4, .ref t5, .ref t6]) = W7 at w7 z7 ⊢
    have v6 := w7
    have v5 := w6.trans v6
    have v4 := w5.trans v5
    have v3 := w4.trans v4
    have v2 := w3.trans v3
    have v1 := w2.trans v2
    have v0 := w1.trans v1
    have td : ∀ {a : Addr} {x y : Str}, W7 a = some (.tup [.str x, .str y]) → Dp K W7 (.ref a) (.tuple [.str x, .str y]) := fun h => .tup (.inl (.inl h)) (.cons (.str _) (.cons (.str _) .nil))
    have ti : ∀ {a : Addr} {x : Str} {y : Int}, W7 a = some (.tup [.str x, .int y]) → Dp K W7 (.ref a) (.tuple [.str x, .int y]) := fun h => .tup (.inl (.inl h)) (.cons (.str _) (.cons (.int _) .nil))
    have due : List PyData := [.tuple [PyData.str "ring", PyData.str "ring"], .tuple [PyData.str "number", PyData.str "many"], .tuple [PyData.str "number", PyData.str "many"], .tuple [PyData.str "number", PyData.str "many"], .tuple [PyData.str "number", PyData.str "many"], .tuple [PyData.str "bars", PyData.int 6]]
    have sh : SeqAt.shaped (.list [.tuple [PyData.str "ring", PyData.str "ring"], .tuple [PyData.str "number", PyData.str "many"], .tuple [PyData.str "number", PyData.str "many"], .tuple [PyData.str "number", PyData.str "many"], .tuple [PyData.str "number", PyData.str "many"], .tuple [PyData.str "bars", PyData.int 6]]) = true := by decide +kernel
    have eq : PyData.eqv (.list [.tuple [PyData.str "ring", PyData.str "ring"], .tuple [PyData.str "number", PyData.str "many"], .tuple [PyData.str "number", PyData.str "many"], .tuple [PyData.str "number", PyData.str "many"], .tuple [PyData.str "number", PyData.str "many"], .tuple [PyData.str "bars", PyData.int 6]]) (.list [.tuple [PyData.str "ring", PyData.str "ring"], .tuple [PyData.str "number", PyData.str "many"], .tuple [PyData.str "number", PyData.str "many"], .tuple [PyData.str "number", PyData.str "many"], .tuple [PyData.str "number", PyData.str "many"], .tuple [PyData.str "bars", PyData.int 6]]) = true := by decide +kernel
    obtain _ | ⟨⟨a1, e1, q1⟩, it6⟩ := it6
    obtain _ | ⟨⟨a2, e2, q2⟩, it6⟩ := it6
    obtain _ | ⟨⟨a3, e3, q3⟩, it6⟩ := it6
    obtain _ | ⟨⟨a4, e4, q4⟩, it6⟩ := it6
    obtain _ | ⟨⟨a5, e5, q5⟩, it6⟩ := it6
    obtain _ | ⟨⟨a6, e6, q6⟩, it6⟩ := it6
    cases e1; cases e2; cases e3; cases e4; cases e5; cases e6
    refine ⟨_, _, .lst (SqL.of (v0 _ _ hh6)) (.cons (td (v0 _ _ q1)) (.cons (td (v0 _ _ q2)) (.cons (td (v0 _ _ q3)) (.cons (td (v0 _ _ q4)) (.cons (td (v0 _ _ q5)) (.cons (ti (v0 _ _ q6)) .nil)))))), .lst (SqL.of z7) (.cons (td (v1 _ _ z1)) (.cons (td (v2 _ _ z2)) (.cons (td (v3 _ _ z3)) (.cons (td (v4 _ _ z4)) (.cons (td (v5 _ _ z5)) (.cons (ti (v6 _ _ z6)) .nil)))))), sh, sh, ?_⟩
    rw [eq]
    exact q W7
end
end K
namespace K
open PySem L2 Rg LamX
open Evl (pss_cut)
section
variable {P : Program} {w : World} {K : PySem.W.Frag} {mg : Str → Option Value} {base : Heap}
abbrev nLaw : List Str := ["_law_script", "_law_bench_here", "_law_turn", "_law_lengths_here"]
theorem scLaw : FnScope nLaw ["_law_script"] (defScope sLaw) := ⟨rfl, rfl, rfl, by decide +kernel, rfl, by decide +kernel, by decide +kernel⟩
def spLaw (K : PySem.W.Frag) (P1 : Addr) : Sp := fun vs H Q _ => ∃ (a : Addr) (ns : List Int), vs = [.ref a] ∧ SqL K H a (ns.map V.int) ∧ ns.length ≤ 63 ∧ Tabs (T1 P1) H ∧ ∀ H', Q (.bl true) H'
theorem ok_law {P1 f fP fL fK fC fR : Addr} {fd fdP fdL fdK fdC fdR : FuncData} (F : Fun K "law" "law" sLaw f fd) (T : Bi mg)
    (PN : DefAt P w K mg base CX0 2 "_law_bench" ["_law_script"] (spPen K) fP fdP) (LN : DefAt P w K mg base CX0 3 "_law_lengths" ["_law_bench_here", "_law_many"] (spLengths K) fL fdL) (PK : DefAt P w K mg base CX0 3 "_law_pick" ["_law_bench_here", "_law_some"] (spPick K) fK fdK)
    (CR : DefAt P w K mg base CX0 8 "_law_counts_right" ["_law_bench_here", "_law_lengths_here"] (spCR K) fC fdC) (RR : DefAt P w K mg base CX0 10 "_law_refused_right" ["_law_bench_here", "_law_lengths_here"] (spRR K P1) fR fdR) : FnOk P w K mg base CX0 11 f fd ["_law_script"] (spLaw K P1) := by
  refine F.ok scLaw (fun vs H Q E h => ?_) (fun cdv A outer s H vs Q E hr h => ?_)
  · obtain ⟨a, ns, rfl, _⟩ := h
    rfl
  · have nd := scLaw.nd
    refine ⟨_, (pss_cons (ps_set (i := 1) nd rfl (Or.inl rfl) (pe_call PN.ok (hr.mono (by decide)) rfl PN.g PN.kp PN.b .nil pass0 (pa_cons (pv 0) pa_nil)))
      (pss_cons (ps_for PassesOwn.never rfl (pi_range1 (by rfl) T.range (pa_cons pe_int pa_nil)) (pg_name (i := 2) nd rfl (Or.inl rfl))
        (pss_cons (ps_set (i := 3) nd rfl (Or.inl rfl) (pe_call LN.ok (hr.mono (by decide)) rfl LN.g LN.kp LN.b .nil pass0 (pa_cons (pv 1) (pa_cons (pe_call PK.ok (hr.mono (by decide)) rfl PK.g PK.kp PK.b .nil pass0 (pa_cons (pv 1) (pa_cons (pe_lst (pa_cons pe_int (pa_cons pe_int (pa_cons pe_int (pa_cons pe_int (pa_cons pe_int pa_nil)))))) pa_nil))) pa_nil))))
        (pss_one (ps_if (pt_not (pt_val (pe_call CR.ok (hr.mono (by decide)) rfl CR.g CR.kp CR.b .nil pass0 (pa_cons (pv 1) (pa_cons (pv 3) pa_nil))))) (pss_one ps_never) pss_nil))))
      (pss_one (ps_ret (pe_call RR.ok hr rfl RR.g RR.kp RR.b .nil pass0 (pa_cons (pv 1) (pa_cons (pv 3) pa_nil))))))), ?_⟩
    obtain ⟨a, ns, rfl, hs, hl, tab, q⟩ := h
    refine ⟨_, rfl, a, ns, rfl, hs, hl, fun p e H1 s1 np pen1 => ?_⟩
    have tab1 := tab.ext s1
    refine ⟨_, rfl, by decide, by decide, ?_⟩
    refine for_range (lo := 0) (n := (2 : Int).toNat) (fun i σ H' => ∃ z2 z3 : Option V, σ = [some (.ref a), some (.ref p), z2, z3] ∧ PenAt K H' p e (i * 20) ∧ Tabs (T1 P1) H' ∧ (0 < i → ∃ (l : Addr) (ls : List Int), z3 = some (.ref l) ∧ H' l = some (.lst (ls.map V.int)) ∧ l ≠ p ∧ 3 ≤ ls.length ∧ ls.length ≤ 6 ∧ Bd 1000000 ls)) ⟨none, none, rfl, by simpa using pen1, tab1, fun z => absurd z (by decide)⟩ ?_ ?_
    · rintro i σ H1 hi ⟨z2, z3, rfl, pen1, tab1, _⟩
      have hi2 : i < 2 := hi
      refine ⟨_, rfl, _, rfl, (by show 5 ≤ sizeLine; decide), fun u0 nu0 => ?_⟩
      have npu := pen1.ne nu0
      have s2 : Same H1 (upd H1 u0 (.lst [.int 3, .int 4, .int 5, .int 5, .int 6])) := (Same.refl H1).new nu0
      have hu : upd H1 u0 (.lst [.int 3, .int 4, .int 5, .int 5, .int 6]) u0 = some (.lst [.int 3, .int 4, .int 5, .int 5, .int 6]) := upd_same
      generalize upd H1 u0 (.lst [.int 3, .int 4, .int 5, .int 5, .int 6]) = H2 at s2 hu ⊢
      have pen2 := pen1.same s2
      have tab2 := tab1.ext s2
      refine ⟨p, u0, e, _, _, rfl, SqL.of hu, npu, (by show 1 ≤ 5; decide), (by show 5 ≤ 1000; decide), by omega, pen2, fun i0 v0 H3 hv0 b3 pen3 => ?_⟩
      obtain ⟨px, hpx⟩ := pen2.some
      have tab3 := tabs_but tab2 b3 hpx
      have hvm : ∃ m : Nat, v0 = .int (m : Nat) ∧ 3 ≤ m ∧ m ≤ 6 := by
        have hm := List.mem_of_getElem? hv0
        simp only [List.mem_cons, List.not_mem_nil, or_false] at hm
        rcases hm with z | z | z | z | z
        · exact ⟨3, z, by decide, by decide⟩
        · exact ⟨4, z, by decide, by decide⟩
        · exact ⟨5, z, by decide, by decide⟩
        · exact ⟨5, z, by decide, by decide⟩
        · exact ⟨6, z, by decide, by decide⟩
      obtain ⟨m, rfl, m3, m6⟩ := hvm
      refine ⟨p, e, m, _, rfl, m3, by omega, by omega, pen3, fun l ls H4 ll bd nl b4 hl4 pen4 => ?_⟩
      obtain ⟨px3, hpx3⟩ := pen3.some
      have tab4 := tabs_but tab3 b4 hpx3
      have nlp := pen3.ne nl
      refine ⟨_, rfl, _, rfl, p, l, e, _, ls, rfl, hl4, nlp, by omega, by omega, bd, by omega, pen4, fun H5 b5 pen5 => ?_⟩
      obtain ⟨px4, hpx4⟩ := pen4.some
      refine ⟨true, rfl, iteBF rfl ?_⟩
      exact ⟨_, _, rfl, pen5.mono (by omega), tabs_but tab4 b5 hpx4, fun _ => ⟨l, ls, rfl, b5 _ _ nlp hl4, nlp, by omega, by omega, bd⟩⟩
    · rintro σ H2 ⟨z2, z3, rfl, pen2, tab2, h⟩
      obtain ⟨l, ls, rfl, hl2, nlp, l3, l6, bd⟩ := h (by decide)
      exact ⟨_, rfl, _, rfl, p, l, e, _, ls, rfl, hl2, nlp, l3, l6, bd, by decide, pen2, tab2, fun H' => q H'⟩
end
end K
namespace K
open PySem L2 Rg LamX
theorem kb_mr {K : PySem.W.Frag} {fd : FuncData} (h : ∀ (a b : Value) (s : Shared), BindsTo s fd ⟨[], [("many", a), ("ring", b)]⟩ [("ring", b), ("many", a)]) : KBinds K fd ["ring", "many"] ["many", "ring"] gK2 gK2 := by
  refine ⟨fun s us ws _ hl => ?_, fun {vs us zs ws} r1 r2 => ?_⟩
  · match us, ws, hl with
    | [], [a, b], _ => exact h a b s
  · cases r1 with
    | nil =>
      cases r2 with
      | nil => exact .nil
      | cons x t =>
        cases t with
        | nil => exact .nil
        | cons y t2 =>
          cases t2 with
          | nil => exact .cons y (.cons x .nil)
          | cons _ _ => exact .nil
    | cons _ _ => exact .nil
theorem code_hd {K : PySem.W.Frag} {c P : Addr} {o : Obj} (l : K.lookup c = some o) (h : PySem.W.codeHdIn [(c, o)] c P = true) : PySem.W.codeHdIn K c P = true := by
  have e : List.lookup c [(c, o)] = some o := by simp [List.lookup]
  unfold PySem.W.codeHdIn at h ⊢
  rw [e] at h
  rw [l]
  exact h
theorem lookup_out {K : PySem.W.Frag} {P : Addr} : ∀ {as : List Addr}, as = K.map (·.1) → P ∉ as → K.lookup P = none := by
  intro as e h
  subst e
  induction K with
  | nil => rfl
  | cons x r ih =>
    obtain ⟨a, o⟩ := x
    rw [List.map_cons, List.mem_cons, not_or] at h
    have hne : (P == a) = false := by simpa using h.1
    rw [List.lookup_cons, hne]
    exact ih h.2
theorem out_of {K : Params → PySem.W.Frag} {as : List Addr} {e : ∀ P, as = (K P).map (·.1)} {ts : List Addr} {w : World} {h : Heap} (_ : (PySem.W.kmHook K as e ts).says w h) {P : Addr} (hP : P ∉ as) : (K w.params).lookup P = none := lookup_out (e w.params) hP


theorem all_mk {l : PySem.W.OpenLaw} {w : World} {K : PySem.W.Frag} {h : Heap} {mg : Str → Option Value} {fa : Addr} (X : K.In h) (G : h.Ns mainGlobals mg) (hfa : mg "law" = some (.ref fa))
    {C CL eX eR eB eM f0 f1 f2 f3 f4 f5 f6 f7 f8 f9 f10 f11 f12 f13 f14 f15 f16 f17 f18 f19 f20 f21 f22 f23 f24 f25 f26 f27 f28 cRR f29 fm0 fm1 fm2 fm3 fm4 fm5 P1 : Addr} {od0 an0 od1 an1 od2 an2 od3 an3 od4 an4 od5 an5 od6 an6 od7 an7 od8 an8 od9 an9 od10 an10 od11 an11 od12 an12 od13 an13 od14 an14 od15 an15 od16 an16 od17 an17 od18 an18 od19 an19 od20 an20 od21 an21 od22 an22 od23 an23 od24 an24 od25 an25 od26 an26 od27 an27 od28 an28 od29 an29 odm0 anm0 odm1 anm1 odm2 anm2 odm3 anm3 odm4 anm4 odm5 anm5 odc1 : Option Addr} {sl0 sl1 sl2 sl3 sl4 sl5 sl6 sl7 sl8 sl9 sl10 sl11 sl12 sl13 sl14 sl15 sl16 sl17 sl18 sl19 sl20 sl21 sl22 sl23 sl24 sl25 sl26 sl27 sl28 sl29 slm0 slm1 slm2 slm3 slm4 slm5 slc1 : Array (Option Value)} {oc0 kV0 dc0 pm0 ct0 cd0 oc1 kV1 dc1 pm1 ct1 cd1 oc2 kV2 dc2 pm2 ct2 cd2 oc3 kV3 dc3 pm3 ct3 cd3 oc4 kV4 dc4 pm4 ct4 cd4 oc5 kV5 dc5 pm5 ct5 cd5 oc6 kV6 dc6 pm6 ct6 cd6 oc7 kV7 dc7 pm7 ct7 cd7 oc8 kV8 dc8 pm8 ct8 cd8 oc9 kV9 dc9 pm9 ct9 cd9 oc10 kV10 dc10 pm10 ct10 cd10 oc11 kV11 dc11 pm11 ct11 cd11 oc12 kV12 dc12 pm12 ct12 cd12 oc13 kV13 dc13 pm13 ct13 cd13 oc14 kV14 dc14 pm14 ct14 cd14 oc15 kV15 dc15 pm15 ct15 cd15 oc16 kV16 dc16 pm16 ct16 cd16 oc17 kV17 dc17 pm17 ct17 cd17 oc18 kV18 dc18 pm18 ct18 cd18 oc19 kV19 dc19 pm19 ct19 cd19 oc20 kV20 dc20 pm20 ct20 cd20 oc21 kV21 dc21 pm21 ct21 cd21 oc22 kV22 dc22 pm22 ct22 cd22 oc23 kV23 dc23 pm23 ct23 cd23 oc24 kV24 dc24 pm24 ct24 cd24 oc25 kV25 dc25 pm25 ct25 cd25 oc26 kV26 dc26 pm26 ct26 cd26 oc27 kV27 dc27 pm27 ct27 cd27 oc28 kV28 dc28 pm28 ct28 oc29 kV29 dc29 pm29 ct29 cd29 ocm0 kVm0 dcm0 pmm0 ctm0 cdm0 ocm1 kVm1 dcm1 pmm1 ctm1 cdm1 ocm2 kVm2 dcm2 pmm2 ctm2 cdm2 ocm3 kVm3 dcm3 pmm3 ctm3 cdm3 ocm4 kVm4 dcm4 pmm4 ctm4 cdm4 ocm5 kVm5 dcm5 pmm5 ctm5 cdm5 : Value} {tkMOST_LENGTH tkLEAST_BARS tkMOST_BARS tkMOST_LISTED : Tok} {vsc1 : Array Value}
    {nmeR nmeB nmeM qqeR qqeB qqeM : Str} {NeR NeB NeM : Addr} {bseR bseB bseM : List Value} {bmeR bmeB bmeM : List Value} {sneR sneB sneM : List Str} {subeR subeB subeM : List Value} {abeR abeB abeM : Bool} {coleR coleB coleM : Option Bool} {ddeR ddeB ddeM : Option Addr} {k0eR k1eR k2eR k3eR k5eR k0eB k1eB k2eB k3eB k5eB k0eM k1eM k2eM k3eM k5eM : Option Value}
    (aC : PySem.W.nsIn K mainGlobals "Ring" = some (some (.ref C)))
    (aCL : PySem.W.nsIn K mainGlobals "LineUp" = some (some (.ref CL)))
    (aeX : PySem.W.nsIn K mainGlobals "RingError" = some (some (.ref eX)))
    (aeR : PySem.W.nsIn K mainGlobals "BadRing" = some (some (.ref eR)))
    (aeB : PySem.W.nsIn K mainGlobals "BadNumber" = some (some (.ref eB)))
    (aeM : PySem.W.nsIn K mainGlobals "TooMany" = some (some (.ref eM)))
    (a0 : PySem.W.nsIn K mainGlobals "is_integer" = some (some (.ref f0)))
    (l0 : K.lookup f0 = some ⟨oc0, od0, .func (PySem.W.fnOf "is_integer" "is_integer" (defArgs sIsInteger) (defBody sIsInteger) (defScope sIsInteger) .none kV0 dc0 pm0 an0 cd0 ct0), sl0⟩)
    (c0 : PySem.W.codeIn K cd0 "is_integer" = true)
    (k0 : PySem.W.keepIn K (.ref f0) = true)
    (a1 : PySem.W.nsIn K mainGlobals "is_within" = some (some (.ref f1)))
    (l1 : K.lookup f1 = some ⟨oc1, od1, .func (PySem.W.fnOf "is_within" "is_within" (defArgs sIsWithin) (defBody sIsWithin) (defScope sIsWithin) .none kV1 dc1 pm1 an1 cd1 ct1), sl1⟩)
    (c1 : PySem.W.codeIn K cd1 "is_within" = true)
    (k1 : PySem.W.keepIn K (.ref f1) = true)
    (a2 : PySem.W.nsIn K mainGlobals "is_list" = some (some (.ref f2)))
    (l2 : K.lookup f2 = some ⟨oc2, od2, .func (PySem.W.fnOf "is_list" "is_list" (defArgs sIsList) (defBody sIsList) (defScope sIsList) .none kV2 dc2 pm2 an2 cd2 ct2), sl2⟩)
    (c2 : PySem.W.codeIn K cd2 "is_list" = true)
    (k2 : PySem.W.keepIn K (.ref f2) = true)
    (a3 : PySem.W.nsIn K mainGlobals "is_numbers" = some (some (.ref f3)))
    (l3 : K.lookup f3 = some ⟨oc3, od3, .func (PySem.W.fnOf "is_numbers" "is_numbers" (defArgs sIsNumbers) (defBody sIsNumbers) (defScope sIsNumbers) .none kV3 dc3 pm3 an3 cd3 ct3), sl3⟩)
    (c3 : PySem.W.codeIn K cd3 "is_numbers" = true)
    (k3 : PySem.W.keepIn K (.ref f3) = true)
    (a4 : PySem.W.nsIn K mainGlobals "fixed" = some (some (.ref f4)))
    (l4 : K.lookup f4 = some ⟨oc4, od4, .func (PySem.W.fnOf "fixed" "fixed" (defArgs sFixed) (defBody sFixed) (defScope sFixed) .none kV4 dc4 pm4 an4 cd4 ct4), sl4⟩)
    (c4 : PySem.W.codeIn K cd4 "fixed" = true)
    (k4 : PySem.W.keepIn K (.ref f4) = true)
    (a5 : PySem.W.nsIn K mainGlobals "want_number" = some (some (.ref f5)))
    (l5 : K.lookup f5 = some ⟨oc5, od5, .func (PySem.W.fnOf "want_number" "want_number" (defArgs sWantNumber) (defBody sWantNumber) (defScope sWantNumber) .none kV5 dc5 pm5 an5 cd5 ct5), sl5⟩)
    (c5 : PySem.W.codeIn K cd5 "want_number" = true)
    (k5 : PySem.W.keepIn K (.ref f5) = true)
    (a6 : PySem.W.nsIn K mainGlobals "are_lengths" = some (some (.ref f6)))
    (l6 : K.lookup f6 = some ⟨oc6, od6, .func (PySem.W.fnOf "are_lengths" "are_lengths" (defArgs sAreLengths) (defBody sAreLengths) (defScope sAreLengths) .none kV6 dc6 pm6 an6 cd6 ct6), sl6⟩)
    (c6 : PySem.W.codeIn K cd6 "are_lengths" = true)
    (k6 : PySem.W.keepIn K (.ref f6) = true)
    (a7 : PySem.W.nsIn K mainGlobals "has_level" = some (some (.ref f7)))
    (l7 : K.lookup f7 = some ⟨oc7, od7, .func (PySem.W.fnOf "has_level" "has_level" (defArgs sHasLevel) (defBody sHasLevel) (defScope sHasLevel) .none kV7 dc7 pm7 an7 cd7 ct7), sl7⟩)
    (c7 : PySem.W.codeIn K cd7 "has_level" = true)
    (k7 : PySem.W.keepIn K (.ref f7) = true)
    (a8 : PySem.W.nsIn K mainGlobals "want_ring" = some (some (.ref f8)))
    (l8 : K.lookup f8 = some ⟨oc8, od8, .func (PySem.W.fnOf "want_ring" "want_ring" (defArgs sWantRing) (defBody sWantRing) (defScope sWantRing) .none kV8 dc8 pm8 an8 cd8 ct8), sl8⟩)
    (c8 : PySem.W.codeIn K cd8 "want_ring" = true)
    (k8 : PySem.W.keepIn K (.ref f8) = true)
    (a9 : PySem.W.nsIn K mainGlobals "want_few" = some (some (.ref f9)))
    (l9 : K.lookup f9 = some ⟨oc9, od9, .func (PySem.W.fnOf "want_few" "want_few" (defArgs sWantFew) (defBody sWantFew) (defScope sWantFew) .none kV9 dc9 pm9 an9 cd9 ct9), sl9⟩)
    (c9 : PySem.W.codeIn K cd9 "want_few" = true)
    (k9 : PySem.W.keepIn K (.ref f9) = true)
    (a10 : PySem.W.nsIn K mainGlobals "are_strands" = some (some (.ref f10)))
    (l10 : K.lookup f10 = some ⟨oc10, od10, .func (PySem.W.fnOf "are_strands" "are_strands" (defArgs sAreStrands) (defBody sAreStrands) (defScope sAreStrands) .none kV10 dc10 pm10 an10 cd10 ct10), sl10⟩)
    (c10 : PySem.W.codeIn K cd10 "are_strands" = true)
    (k10 : PySem.W.keepIn K (.ref f10) = true)
    (a11 : PySem.W.nsIn K mainGlobals "is_strand" = some (some (.ref f11)))
    (l11 : K.lookup f11 = some ⟨oc11, od11, .func (PySem.W.fnOf "is_strand" "is_strand" (defArgs sIsStrand) (defBody sIsStrand) (defScope sIsStrand) .none kV11 dc11 pm11 an11 cd11 ct11), sl11⟩)
    (c11 : PySem.W.codeIn K cd11 "is_strand" = true)
    (k11 : PySem.W.keepIn K (.ref f11) = true)
    (a12 : PySem.W.nsIn K mainGlobals "as_strand" = some (some (.ref f12)))
    (l12 : K.lookup f12 = some ⟨oc12, od12, .func (PySem.W.fnOf "as_strand" "as_strand" (defArgs sAsStrand) (defBody sAsStrand) (defScope sAsStrand) .none kV12 dc12 pm12 an12 cd12 ct12), sl12⟩)
    (c12 : PySem.W.codeIn K cd12 "as_strand" = true)
    (k12 : PySem.W.keepIn K (.ref f12) = true)
    (a13 : PySem.W.nsIn K mainGlobals "many_lineups" = some (some (.ref f13)))
    (l13 : K.lookup f13 = some ⟨oc13, od13, .func (PySem.W.fnOf "many_lineups" "many_lineups" (defArgs sManyLineups) (defBody sManyLineups) (defScope sManyLineups) .none kV13 dc13 pm13 an13 cd13 ct13), sl13⟩)
    (c13 : PySem.W.codeIn K cd13 "many_lineups" = true)
    (k13 : PySem.W.keepIn K (.ref f13) = true)
    (a14 : PySem.W.nsIn K mainGlobals "nets_of" = some (some (.ref f14)))
    (l14 : K.lookup f14 = some ⟨oc14, od14, .func (PySem.W.fnOf "nets_of" "nets_of" (defArgs sNetsOf) (defBody sNetsOf) (defScope sNetsOf) .none kV14 dc14 pm14 an14 cd14 ct14), sl14⟩)
    (c14 : PySem.W.codeIn K cd14 "nets_of" = true)
    (k14 : PySem.W.keepIn K (.ref f14) = true)
    (a15 : PySem.W.nsIn K mainGlobals "too_great" = some (some (.ref f15)))
    (l15 : K.lookup f15 = some ⟨oc15, od15, .func (PySem.W.fnOf "too_great" "too_great" (defArgs sTooGreat) (defBody sTooGreat) (defScope sTooGreat) .none kV15 dc15 pm15 an15 cd15 ct15), sl15⟩)
    (c15 : PySem.W.codeIn K cd15 "too_great" = true)
    (k15 : PySem.W.keepIn K (.ref f15) = true)
    (a16 : PySem.W.nsIn K mainGlobals "is_had" = some (some (.ref f16)))
    (l16 : K.lookup f16 = some ⟨oc16, od16, .func (PySem.W.fnOf "is_had" "is_had" (defArgs sIsHad) (defBody sIsHad) (defScope sIsHad) .none kV16 dc16 pm16 an16 cd16 ct16), sl16⟩)
    (c16 : PySem.W.codeIn K cd16 "is_had" = true)
    (k16 : PySem.W.keepIn K (.ref f16) = true)
    (a17 : PySem.W.nsIn K mainGlobals "all_strands" = some (some (.ref f17)))
    (l17 : K.lookup f17 = some ⟨oc17, od17, .func (PySem.W.fnOf "all_strands" "all_strands" (defArgs sAllStrands) (defBody sAllStrands) (defScope sAllStrands) .none kV17 dc17 pm17 an17 cd17 ct17), sl17⟩)
    (c17 : PySem.W.codeIn K cd17 "all_strands" = true)
    (k17 : PySem.W.keepIn K (.ref f17) = true)
    (a18 : PySem.W.nsIn K mainGlobals "with_bar" = some (some (.ref f18)))
    (l18 : K.lookup f18 = some ⟨oc18, od18, .func (PySem.W.fnOf "with_bar" "with_bar" (defArgs sWithBar) (defBody sWithBar) (defScope sWithBar) .none kV18 dc18 pm18 an18 cd18 ct18), sl18⟩)
    (c18 : PySem.W.codeIn K cd18 "with_bar" = true)
    (k18 : PySem.W.keepIn K (.ref f18) = true)
    (a19 : PySem.W.nsIn K mainGlobals "_law_bench" = some (some (.ref f19)))
    (l19 : K.lookup f19 = some ⟨oc19, od19, .func (PySem.W.fnOf "_law_bench" "_law_bench" (defArgs sLwBench) (defBody sLwBench) (defScope sLwBench) .none kV19 dc19 pm19 an19 cd19 ct19), sl19⟩)
    (c19 : PySem.W.codeIn K cd19 "_law_bench" = true)
    (k19 : PySem.W.keepIn K (.ref f19) = true)
    (a20 : PySem.W.nsIn K mainGlobals "_law_draw" = some (some (.ref f20)))
    (l20 : K.lookup f20 = some ⟨oc20, od20, .func (PySem.W.fnOf "_law_draw" "_law_draw" (defArgs sLwDraw) (defBody sLwDraw) (defScope sLwDraw) .none kV20 dc20 pm20 an20 cd20 ct20), sl20⟩)
    (c20 : PySem.W.codeIn K cd20 "_law_draw" = true)
    (k20 : PySem.W.keepIn K (.ref f20) = true)
    (a21 : PySem.W.nsIn K mainGlobals "_law_pick" = some (some (.ref f21)))
    (l21 : K.lookup f21 = some ⟨oc21, od21, .func (PySem.W.fnOf "_law_pick" "_law_pick" (defArgs sLwPick) (defBody sLwPick) (defScope sLwPick) .none kV21 dc21 pm21 an21 cd21 ct21), sl21⟩)
    (c21 : PySem.W.codeIn K cd21 "_law_pick" = true)
    (k21 : PySem.W.keepIn K (.ref f21) = true)
    (a22 : PySem.W.nsIn K mainGlobals "_law_mixed" = some (some (.ref f22)))
    (l22 : K.lookup f22 = some ⟨oc22, od22, .func (PySem.W.fnOf "_law_mixed" "_law_mixed" (defArgs sLwMixed) (defBody sLwMixed) (defScope sLwMixed) .none kV22 dc22 pm22 an22 cd22 ct22), sl22⟩)
    (c22 : PySem.W.codeIn K cd22 "_law_mixed" = true)
    (k22 : PySem.W.keepIn K (.ref f22) = true)
    (a23 : PySem.W.nsIn K mainGlobals "_law_lengths" = some (some (.ref f23)))
    (l23 : K.lookup f23 = some ⟨oc23, od23, .func (PySem.W.fnOf "_law_lengths" "_law_lengths" (defArgs sLwLengths) (defBody sLwLengths) (defScope sLwLengths) .none kV23 dc23 pm23 an23 cd23 ct23), sl23⟩)
    (c23 : PySem.W.codeIn K cd23 "_law_lengths" = true)
    (k23 : PySem.W.keepIn K (.ref f23) = true)
    (a24 : PySem.W.nsIn K mainGlobals "_law_counts" = some (some (.ref f24)))
    (l24 : K.lookup f24 = some ⟨oc24, od24, .func (PySem.W.fnOf "_law_counts" "_law_counts" (defArgs sLwCounts) (defBody sLwCounts) (defScope sLwCounts) .none kV24 dc24 pm24 an24 cd24 ct24), sl24⟩)
    (c24 : PySem.W.codeIn K cd24 "_law_counts" = true)
    (k24 : PySem.W.keepIn K (.ref f24) = true)
    (a25 : PySem.W.nsIn K mainGlobals "_law_levels" = some (some (.ref f25)))
    (l25 : K.lookup f25 = some ⟨oc25, od25, .func (PySem.W.fnOf "_law_levels" "_law_levels" (defArgs sLwLevels) (defBody sLwLevels) (defScope sLwLevels) .none kV25 dc25 pm25 an25 cd25 ct25), sl25⟩)
    (c25 : PySem.W.codeIn K cd25 "_law_levels" = true)
    (k25 : PySem.W.keepIn K (.ref f25) = true)
    (a26 : PySem.W.nsIn K mainGlobals "_law_counts_right" = some (some (.ref f26)))
    (l26 : K.lookup f26 = some ⟨oc26, od26, .func (PySem.W.fnOf "_law_counts_right" "_law_counts_right" (defArgs sLwCountsRight) (defBody sLwCountsRight) (defScope sLwCountsRight) .none kV26 dc26 pm26 an26 cd26 ct26), sl26⟩)
    (c26 : PySem.W.codeIn K cd26 "_law_counts_right" = true)
    (k26 : PySem.W.keepIn K (.ref f26) = true)
    (a27 : PySem.W.nsIn K mainGlobals "_law_heard" = some (some (.ref f27)))
    (l27 : K.lookup f27 = some ⟨oc27, od27, .func (PySem.W.fnOf "_law_heard" "_law_heard" (defArgs sLwHeard) (defBody sLwHeard) (defScope sLwHeard) .none kV27 dc27 pm27 an27 cd27 ct27), sl27⟩)
    (c27 : PySem.W.codeIn K cd27 "_law_heard" = true)
    (k27 : PySem.W.keepIn K (.ref f27) = true)
    (a28 : PySem.W.nsIn K mainGlobals "_law_refused_right" = some (some (.ref f28)))
    (l28 : K.lookup f28 = some ⟨oc28, od28, .func (PySem.W.fnOf "_law_refused_right" "_law_refused_right" (defArgs sLwRefusedRight) (defBody sLwRefusedRight) (defScope sLwRefusedRight) .none kV28 dc28 pm28 an28 (.ref cRR) ct28), sl28⟩)
    (c28 : PySem.W.codeIn K (.ref cRR) "_law_refused_right" = true)
    (k28 : PySem.W.keepIn K (.ref f28) = true)
    (a29 : PySem.W.nsIn K mainGlobals "law" = some (some (.ref f29)))
    (l29 : K.lookup f29 = some ⟨oc29, od29, .func (PySem.W.fnOf "law" "law" (defArgs sLaw) (defBody sLaw) (defScope sLaw) .none kV29 dc29 pm29 an29 cd29 ct29), sl29⟩)
    (c29 : PySem.W.codeIn K cd29 "law" = true)
    (k29 : PySem.W.keepIn K (.ref f29) = true)
    (am0 : PySem.W.findIn K (.ref C) "__init__" = some (some (.ref fm0)))
    (im0 : PySem.W.isFn K (.ref fm0) = true)
    (lm0 : K.lookup fm0 = some ⟨ocm0, odm0, .func (PySem.W.fnOf "__init__" "Ring.__init__" (defArgs sRingInit) (defBody sRingInit) (defScope sRingInit) .none kVm0 dcm0 pmm0 anm0 cdm0 ctm0), slm0⟩)
    (cm0 : PySem.W.codeIn K cdm0 "Ring.__init__" = true)
    (km0 : PySem.W.keepIn K (.ref fm0) = true)
    (am1 : PySem.W.findIn K (.ref C) "__len__" = some (some (.ref fm1)))
    (im1 : PySem.W.isFn K (.ref fm1) = true)
    (lm1 : K.lookup fm1 = some ⟨ocm1, odm1, .func (PySem.W.fnOf "__len__" "Ring.__len__" (defArgs sRingLen) (defBody sRingLen) (defScope sRingLen) .none kVm1 dcm1 pmm1 anm1 cdm1 ctm1), slm1⟩)
    (cm1 : PySem.W.codeIn K cdm1 "Ring.__len__" = true)
    (km1 : PySem.W.keepIn K (.ref fm1) = true)
    (am2 : PySem.W.findIn K (.ref CL) "__init__" = some (some (.ref fm2)))
    (im2 : PySem.W.isFn K (.ref fm2) = true)
    (lm2 : K.lookup fm2 = some ⟨ocm2, odm2, .func (PySem.W.fnOf "__init__" "LineUp.__init__" (defArgs sLineUpInit) (defBody sLineUpInit) (defScope sLineUpInit) .none kVm2 dcm2 pmm2 anm2 cdm2 ctm2), slm2⟩)
    (cm2 : PySem.W.codeIn K cdm2 "LineUp.__init__" = true)
    (km2 : PySem.W.keepIn K (.ref fm2) = true)
    (am3 : PySem.W.findIn K (.ref eR) "__init__" = some (some (.ref fm3)))
    (im3 : PySem.W.isFn K (.ref fm3) = true)
    (lm3 : K.lookup fm3 = some ⟨ocm3, odm3, .func (PySem.W.fnOf "__init__" "BadRing.__init__" (defArgs sBadRingInit) (defBody sBadRingInit) (defScope sBadRingInit) .none kVm3 dcm3 pmm3 anm3 cdm3 ctm3), slm3⟩)
    (cm3 : PySem.W.codeIn K cdm3 "BadRing.__init__" = true)
    (km3 : PySem.W.keepIn K (.ref fm3) = true)
    (tim3 : PySem.W.typeIn K (.ref fm3) = some (.type "function"))
    (am4 : PySem.W.findIn K (.ref eB) "__init__" = some (some (.ref fm4)))
    (im4 : PySem.W.isFn K (.ref fm4) = true)
    (lm4 : K.lookup fm4 = some ⟨ocm4, odm4, .func (PySem.W.fnOf "__init__" "BadNumber.__init__" (defArgs sBadNumberInit) (defBody sBadNumberInit) (defScope sBadNumberInit) .none kVm4 dcm4 pmm4 anm4 cdm4 ctm4), slm4⟩)
    (cm4 : PySem.W.codeIn K cdm4 "BadNumber.__init__" = true)
    (km4 : PySem.W.keepIn K (.ref fm4) = true)
    (tim4 : PySem.W.typeIn K (.ref fm4) = some (.type "function"))
    (am5 : PySem.W.findIn K (.ref eM) "__init__" = some (some (.ref fm5)))
    (im5 : PySem.W.isFn K (.ref fm5) = true)
    (lm5 : K.lookup fm5 = some ⟨ocm5, odm5, .func (PySem.W.fnOf "__init__" "TooMany.__init__" (defArgs sTooManyInit) (defBody sTooManyInit) (defScope sTooManyInit) .none kVm5 dcm5 pmm5 anm5 cdm5 ctm5), slm5⟩)
    (cm5 : PySem.W.codeIn K cdm5 "TooMany.__init__" = true)
    (km5 : PySem.W.keepIn K (.ref fm5) = true)
    (tim5 : PySem.W.typeIn K (.ref fm5) = some (.type "function"))
    (rC_pg : PySem.W.plainGet K C Str.empty = true)
    (rC_hd : PySem.W.hasDictIn K C = true)
    (rC_po : PySem.W.plainOver K C = true)
    (rC_sa : PySem.W.findIn K (.ref C) "__setattr__" = some (some (.builtin "object.__setattr__")))
    (rC_mk : PySem.W.makesIn K C = true)
    (rC_kc : PySem.W.keepIn K (.ref C) = true)
    (rC_ha : PySem.W.findIn K (.ref C) "__class__" = some (some (.builtin "object.__class__")))
    (rC_hm : PySem.W.mroIn K C (.type "object") = some true)
    (rC_n_lengths : PySem.W.findIn K (.ref C) "lengths" = some none)
    (rC_n_total : PySem.W.findIn K (.ref C) "total" = some none)
    (rC_n_closes : PySem.W.findIn K (.ref C) "closes" = some none)
    (rC_n_is_clear : PySem.W.findIn K (.ref C) "is_clear" = some none)
    (rCL_pg : PySem.W.plainGet K CL Str.empty = true)
    (rCL_hd : PySem.W.hasDictIn K CL = true)
    (rCL_po : PySem.W.plainOver K CL = true)
    (rCL_sa : PySem.W.findIn K (.ref CL) "__setattr__" = some (some (.builtin "object.__setattr__")))
    (rCL_mk : PySem.W.makesIn K CL = true)
    (rCL_kc : PySem.W.keepIn K (.ref CL) = true)
    (rCL_ha : PySem.W.findIn K (.ref CL) "__class__" = some (some (.builtin "object.__class__")))
    (rCL_hm : PySem.W.mroIn K CL (.type "object") = some true)
    (rCL_n_strands : PySem.W.findIn K (.ref CL) "strands" = some none)
    (rCL_n_lots : PySem.W.findIn K (.ref CL) "lots" = some none)
    (rCL_n_many : PySem.W.findIn K (.ref CL) "many" = some none)
    (rhn : PySem.W.specialIn K (.builtin "object.__class__") "__get__" = some (some (.builtin "getset_descriptor.__get__")))
    (rht : PySem.W.takesIn K (.builtin "object.__class__") = some true)
    (kN : PySem.W.kitOne K (.type "NoneType") (.ref C) = some false)
    (kI : PySem.W.kitOne K (.type "int") (.ref C) = some false)
    (kS : PySem.W.kitOne K (.type "str") (.ref C) = some false)
    (kL : PySem.W.kitOne K (.type "list") (.ref C) = some false)
    (krn : PySem.W.kitOne K (.ref eR) (.ref eB) = some false)
    (kmn : PySem.W.kitOne K (.ref eM) (.ref eB) = some false)
    (kmr : PySem.W.kitOne K (.ref eM) (.ref eR) = some false)
    (z_int : PySem.W.nsIn K mainGlobals "int" = some none)
    (z_len : PySem.W.nsIn K mainGlobals "len" = some none)
    (z_abs : PySem.W.nsIn K mainGlobals "abs" = some none)
    (z_list : PySem.W.nsIn K mainGlobals "list" = some none)
    (z_tuple : PySem.W.nsIn K mainGlobals "tuple" = some none)
    (z_bool : PySem.W.nsIn K mainGlobals "bool" = some none)
    (z_range : PySem.W.nsIn K mainGlobals "range" = some none)
    (z_sum : PySem.W.nsIn K mainGlobals "sum" = some none)
    (z_max : PySem.W.nsIn K mainGlobals "max" = some none)
    (z_all : PySem.W.nsIn K mainGlobals "all" = some none)
    (z_any : PySem.W.nsIn K mainGlobals "any" = some none)
    (z_sorted : PySem.W.nsIn K mainGlobals "sorted" = some none)
    (z_enumerate : PySem.W.nsIn K mainGlobals "enumerate" = some none)
    (z_isinstance : PySem.W.nsIn K mainGlobals "isinstance" = some none)
    (g_MOST_LENGTH : PySem.W.nsIn K mainGlobals "MOST_LENGTH" = some (some (.int 1000000 tkMOST_LENGTH)))
    (g_LEAST_BARS : PySem.W.nsIn K mainGlobals "LEAST_BARS" = some (some (.int 3 tkLEAST_BARS)))
    (g_MOST_BARS : PySem.W.nsIn K mainGlobals "MOST_BARS" = some (some (.int 8 tkMOST_BARS)))
    (g_MOST_LISTED : PySem.W.nsIn K mainGlobals "MOST_LISTED" = some (some (.int 6 tkMOST_LISTED)))
    (xeR : K.lookup eR = some (excClassObj nmeR qqeR eR NeR bseR bmeR true sneR subeR abeR coleR ddeR k0eR k1eR k2eR k3eR k5eR "ValueError.__new__"))
    (rveR : PySem.HandSPX.refsVE bmeR = true)
    (saeR : PySem.W.findIn K (.ref eR) "__setattr__" = some (some (.builtin "object.__setattr__")))
    (eCeR : PySem.W.subIn K (.ref eR) (.type "BaseException") = some true)
    (tCeR : PySem.W.typeIn K (.ref eR) = some (.type "type"))
    (kCeR : PySem.W.keepIn K (.ref eR) = true)
    (nfeRpart : PySem.W.findIn K (.ref eR) "part" = some none)
    (gaeR : PySem.W.findIn K (.ref eR) "__getattribute__" = some (some (.builtin "BaseException.__getattribute__")))
    (ggeR : PySem.W.findIn K (.ref eR) "__getattr__" = some none)
    (hdeR : PySem.W.hasDictIn K eR = true)
    (haeR : PySem.W.findIn K (.ref eR) "__class__" = some (some (.builtin "object.__class__")))
    (hmeR : PySem.W.mroIn K eR (.type "object") = some true)
    (sbeR : PySem.W.subIn K (.ref eR) (.ref eX) = some true)
    (xeB : K.lookup eB = some (excClassObj nmeB qqeB eB NeB bseB bmeB true sneB subeB abeB coleB ddeB k0eB k1eB k2eB k3eB k5eB "ValueError.__new__"))
    (rveB : PySem.HandSPX.refsVE bmeB = true)
    (saeB : PySem.W.findIn K (.ref eB) "__setattr__" = some (some (.builtin "object.__setattr__")))
    (eCeB : PySem.W.subIn K (.ref eB) (.type "BaseException") = some true)
    (tCeB : PySem.W.typeIn K (.ref eB) = some (.type "type"))
    (kCeB : PySem.W.keepIn K (.ref eB) = true)
    (nfeBpart : PySem.W.findIn K (.ref eB) "part" = some none)
    (gaeB : PySem.W.findIn K (.ref eB) "__getattribute__" = some (some (.builtin "BaseException.__getattribute__")))
    (ggeB : PySem.W.findIn K (.ref eB) "__getattr__" = some none)
    (hdeB : PySem.W.hasDictIn K eB = true)
    (haeB : PySem.W.findIn K (.ref eB) "__class__" = some (some (.builtin "object.__class__")))
    (hmeB : PySem.W.mroIn K eB (.type "object") = some true)
    (sbeB : PySem.W.subIn K (.ref eB) (.ref eX) = some true)
    (xeM : K.lookup eM = some (excClassObj nmeM qqeM eM NeM bseM bmeM true sneM subeM abeM coleM ddeM k0eM k1eM k2eM k3eM k5eM "ValueError.__new__"))
    (rveM : PySem.HandSPX.refsVE bmeM = true)
    (saeM : PySem.W.findIn K (.ref eM) "__setattr__" = some (some (.builtin "object.__setattr__")))
    (eCeM : PySem.W.subIn K (.ref eM) (.type "BaseException") = some true)
    (tCeM : PySem.W.typeIn K (.ref eM) = some (.type "type"))
    (kCeM : PySem.W.keepIn K (.ref eM) = true)
    (nfeMwhat : PySem.W.findIn K (.ref eM) "what" = some none)
    (nfeMmost : PySem.W.findIn K (.ref eM) "most" = some none)
    (gaeM : PySem.W.findIn K (.ref eM) "__getattribute__" = some (some (.builtin "BaseException.__getattribute__")))
    (ggeM : PySem.W.findIn K (.ref eM) "__getattr__" = some none)
    (hdeM : PySem.W.hasDictIn K eM = true)
    (haeM : PySem.W.findIn K (.ref eM) "__class__" = some (some (.builtin "object.__class__")))
    (hmeM : PySem.W.mroIn K eM (.type "object") = some true)
    (sbeM : PySem.W.subIn K (.ref eM) (.ref eX) = some true)
    (eCeX : PySem.W.subIn K (.ref eX) (.type "BaseException") = some true)
    (hdeX : PySem.W.hasDictIn K eX = true)
    (tCeX : PySem.W.typeIn K (.ref eX) = some (.type "type"))
    (lc1 : K.lookup cRR = some ⟨.type "code", odc1, .fields vsc1, slc1⟩)
    (hdc1 : PySem.W.codeHdIn [(cRR, ⟨.type "code", odc1, .fields vsc1, slc1⟩)] cRR P1 = true)
    (nT1 : K.lookup P1 = none)
    (hT1 : h.get? P1 = some { cls := .none, data := .fields #[] }) :
    LawAtS l w K CX0 11 63 "_law_script" mg fa h := by
  have e := hfa.symm.trans (PySem.W.mg_of X G a29)
  cases e
  have gl : ∀ {x : Str} {v : Value}, PySem.W.nsIn K mainGlobals x = some (some v) → mg x = some v := fun q => PySem.W.mg_of X G q
  have T : Bi mg := ⟨PySem.W.mg_none_of X G z_int, PySem.W.mg_none_of X G z_len, PySem.W.mg_none_of X G z_abs, PySem.W.mg_none_of X G z_list, PySem.W.mg_none_of X G z_tuple, PySem.W.mg_none_of X G z_bool, PySem.W.mg_none_of X G z_range, PySem.W.mg_none_of X G z_sum, PySem.W.mg_none_of X G z_max, PySem.W.mg_none_of X G z_all, PySem.W.mg_none_of X G z_any, PySem.W.mg_none_of X G z_sorted, PySem.W.mg_none_of X G z_enumerate, PySem.W.mg_none_of X G z_isinstance⟩
  have N : Nm mg := ⟨⟨_, gl g_MOST_LENGTH⟩, ⟨_, gl g_LEAST_BARS⟩, ⟨_, gl g_MOST_BARS⟩⟩
  have R : RingC K mg C := ⟨⟨rC_pg, rC_hd, rC_po, rC_sa⟩, rC_n_lengths, rC_n_total, rC_n_closes, rC_n_is_clear, gl aC, rC_ha, rhn, rht, rC_hm⟩
  have RL : LineC K mg CL := ⟨⟨rCL_pg, rCL_hd, rCL_po, rCL_sa⟩, rCL_n_strands, rCL_n_lots, rCL_n_many, gl aCL⟩
  have KT : KitT K C := ⟨kN, kI, kS, kL⟩
  have oeR : OexC K eR := ⟨⟨_, _, _, _, _, _, _, _, _, _, _, _, _, _, _, xeR, rveR⟩, saeR, eCeR, tCeR, kCeR⟩
  have oeB : OexC K eB := ⟨⟨_, _, _, _, _, _, _, _, _, _, _, _, _, _, _, xeB, rveB⟩, saeB, eCeB, tCeB, kCeB⟩
  have oeM : OexC K eM := ⟨⟨_, _, _, _, _, _, _, _, _, _, _, _, _, _, _, xeM, rveM⟩, saeM, eCeM, tCeM, kCeM⟩
  have Hc : HeardC K mg ⟨eR, eB, eM⟩ eX := ⟨gl aeX, gl aeR, ⟨gaeR, ggeR, eCeR, hdeR, haeR, rhn, rht, hmeR⟩, ⟨gaeR, ggeR, eCeR, hdeR⟩, PySem.W.exm_ref eCeX hdeX tCeX sbeR, nfeRpart, gl aeB, ⟨gaeB, ggeB, eCeB, hdeB, haeB, rhn, rht, hmeB⟩, ⟨gaeB, ggeB, eCeB, hdeB⟩, PySem.W.exm_ref eCeX hdeX tCeX sbeB, nfeBpart, gl aeM, ⟨gaeM, ggeM, eCeM, hdeM, haeM, rhn, rht, hmeM⟩, ⟨gaeM, ggeM, eCeM, hdeM⟩, PySem.W.exm_ref eCeX hdeX tCeX sbeM, nfeMwhat, nfeMmost, krn, kmn, kmr⟩
  have F0 := fun_mk (st := sIsInteger) l0 c0 k0
  have b0 := F0.binds (ps := ["value"]) fun _ _ _ _ _ _ us hl => match us, hl with | [_], _ => rfl
  have F1 := fun_mk (st := sIsWithin) l1 c1 k1
  have b1 := F1.binds (ps := ["value", "least", "most"]) fun _ _ _ _ _ _ us hl => match us, hl with | [_, _, _], _ => rfl
  have F2 := fun_mk (st := sIsList) l2 c2 k2
  have b2 := F2.binds (ps := ["value"]) fun _ _ _ _ _ _ us hl => match us, hl with | [_], _ => rfl
  have F3 := fun_mk (st := sIsNumbers) l3 c3 k3
  have b3 := F3.binds (ps := ["value"]) fun _ _ _ _ _ _ us hl => match us, hl with | [_], _ => rfl
  have F4 := fun_mk (st := sFixed) l4 c4 k4
  have b4 := F4.binds (ps := ["value"]) fun _ _ _ _ _ _ us hl => match us, hl with | [_], _ => rfl
  have F5 := fun_mk (st := sWantNumber) l5 c5 k5
  have b5 := F5.binds (ps := ["value", "least", "most", "part"]) fun _ _ _ _ _ _ us hl => match us, hl with | [_, _, _, _], _ => rfl
  have F6 := fun_mk (st := sAreLengths) l6 c6 k6
  have b6 := F6.binds (ps := ["value"]) fun _ _ _ _ _ _ us hl => match us, hl with | [_], _ => rfl
  have F7 := fun_mk (st := sHasLevel) l7 c7 k7
  have b7 := F7.binds (ps := ["lengths"]) fun _ _ _ _ _ _ us hl => match us, hl with | [_], _ => rfl
  have F8 := fun_mk (st := sWantRing) l8 c8 k8
  have b8 := F8.binds (ps := ["value", "part"]) fun _ _ _ _ _ _ us hl => match us, hl with | [_, _], _ => rfl
  have F9 := fun_mk (st := sWantFew) l9 c9 k9
  have b9 := F9.binds (ps := ["ring", "most"]) fun _ _ _ _ _ _ us hl => match us, hl with | [_, _], _ => rfl
  have F10 := fun_mk (st := sAreStrands) l10 c10 k10
  have b10 := F10.binds (ps := ["value"]) fun _ _ _ _ _ _ us hl => match us, hl with | [_], _ => rfl
  have F11 := fun_mk (st := sIsStrand) l11 c11 k11
  have b11 := F11.binds (ps := ["value"]) fun _ _ _ _ _ _ us hl => match us, hl with | [_], _ => rfl
  have F12 := fun_mk (st := sAsStrand) l12 c12 k12
  have b12 := F12.binds (ps := ["pairs"]) fun _ _ _ _ _ _ us hl => match us, hl with | [_], _ => rfl
  have F13 := fun_mk (st := sManyLineups) l13 c13 k13
  have b13 := F13.binds (ps := ["ring", "many"]) fun _ _ _ _ _ _ us hl => match us, hl with | [_, _], _ => rfl
  have F14 := fun_mk (st := sNetsOf) l14 c14 k14
  have b14 := F14.binds (ps := ["ring", "lineup"]) fun _ _ _ _ _ _ us hl => match us, hl with | [_, _], _ => rfl
  have F15 := fun_mk (st := sTooGreat) l15 c15 k15
  have b15 := F15.binds (ps := ["nets"]) fun _ _ _ _ _ _ us hl => match us, hl with | [_], _ => rfl
  have F16 := fun_mk (st := sIsHad) l16 c16 k16
  have b16 := F16.binds (ps := ["ring", "lineup"]) fun _ _ _ _ _ _ us hl => match us, hl with | [_, _], _ => rfl
  have F17 := fun_mk (st := sAllStrands) l17 c17 k17
  have b17 := F17.binds (ps := ["many"]) fun _ _ _ _ _ _ us hl => match us, hl with | [_], _ => rfl
  have F18 := fun_mk (st := sWithBar) l18 c18 k18
  have b18 := F18.binds (ps := ["strands", "bar"]) fun _ _ _ _ _ _ us hl => match us, hl with | [_, _], _ => rfl
  have F19 := fun_mk (st := sLwBench) l19 c19 k19
  have b19 := F19.binds (ps := ["_law_script"]) fun _ _ _ _ _ _ us hl => match us, hl with | [_], _ => rfl
  have F20 := fun_mk (st := sLwDraw) l20 c20 k20
  have b20 := F20.binds (ps := ["_law_bench_here", "_law_many"]) fun _ _ _ _ _ _ us hl => match us, hl with | [_, _], _ => rfl
  have F21 := fun_mk (st := sLwPick) l21 c21 k21
  have b21 := F21.binds (ps := ["_law_bench_here", "_law_some"]) fun _ _ _ _ _ _ us hl => match us, hl with | [_, _], _ => rfl
  have F22 := fun_mk (st := sLwMixed) l22 c22 k22
  have b22 := F22.binds (ps := ["_law_bench_here", "_law_some"]) fun _ _ _ _ _ _ us hl => match us, hl with | [_, _], _ => rfl
  have F23 := fun_mk (st := sLwLengths) l23 c23 k23
  have b23 := F23.binds (ps := ["_law_bench_here", "_law_many"]) fun _ _ _ _ _ _ us hl => match us, hl with | [_, _], _ => rfl
  have F24 := fun_mk (st := sLwCounts) l24 c24 k24
  have b24 := F24.binds (ps := ["_law_lengths_here"]) fun _ _ _ _ _ _ us hl => match us, hl with | [_], _ => rfl
  have F25 := fun_mk (st := sLwLevels) l25 c25 k25
  have b25 := F25.binds (ps := ["_law_lengths_here"]) fun _ _ _ _ _ _ us hl => match us, hl with | [_], _ => rfl
  have F26 := fun_mk (st := sLwCountsRight) l26 c26 k26
  have b26 := F26.binds (ps := ["_law_bench_here", "_law_lengths_here"]) fun _ _ _ _ _ _ us hl => match us, hl with | [_, _], _ => rfl
  have F27 := fun_mk (st := sLwHeard) l27 c27 k27
  have b27 := F27.binds (ps := ["_law_ask"]) fun _ _ _ _ _ _ us hl => match us, hl with | [_], _ => rfl
  have F28 : FunC K "_law_refused_right" "_law_refused_right" sLwRefusedRight f28 _ cRR := ⟨⟨_, _, _, _, _, _, _, _, rfl, l28, c28⟩⟩
  have F280 := fun_mk (st := sLwRefusedRight) l28 c28 k28
  have b28 := F280.binds (ps := ["_law_bench_here", "_law_lengths_here"]) fun _ _ _ _ _ _ us hl => match us, hl with | [_, _], _ => rfl
  have F29 := fun_mk (st := sLaw) l29 c29 k29
  have b29 := F29.binds (ps := ["_law_script"]) fun _ _ _ _ _ _ us hl => match us, hl with | [_], _ => rfl
  have Fm0 := fun_mk (st := sRingInit) lm0 cm0 km0
  have bm0 := Fm0.binds (ps := ["self", "lengths"]) fun _ _ _ _ _ _ us hl => match us, hl with | [_, _], _ => rfl
  have Fm1 := fun_mk (st := sRingLen) lm1 cm1 km1
  have bm1 := Fm1.binds (ps := ["self"]) fun _ _ _ _ _ _ us hl => match us, hl with | [_], _ => rfl
  have Fm2 := fun_mk (st := sLineUpInit) lm2 cm2 km2
  have bm2 := Fm2.binds (ps := ["self", "strands"]) fun _ _ _ _ _ _ us hl => match us, hl with | [_, _], _ => rfl
  have Fm3 := fun_mk (st := sBadRingInit) lm3 cm3 km3
  have bm3 := Fm3.binds (ps := ["self", "part"]) fun _ _ _ _ _ _ us hl => match us, hl with | [_, _], _ => rfl
  have Fm4 := fun_mk (st := sBadNumberInit) lm4 cm4 km4
  have bm4 := Fm4.binds (ps := ["self", "part"]) fun _ _ _ _ _ _ us hl => match us, hl with | [_, _], _ => rfl
  have Fm5 := fun_mk (st := sTooManyInit) lm5 cm5 km5
  have bm5 := Fm5.binds (ps := ["self", "what", "most"]) fun _ _ _ _ _ _ us hl => match us, hl with | [_, _, _], _ => rfl
  refine ⟨PySem.W.fnOf "law" "law" (defArgs sLaw) (defBody sLaw) (defScope sLaw) .none kV29 dc29 pm29 an29 cd29 ct29, [(cRR, P1)], spLaw K P1, fun p hp => ?_, fun p hp => ?_, fun p hp => ?_, fun s v => .of_eq rfl, fun H a ns hl _ hT' hs => ?_, fun base KB GB TB => ?_⟩
  · rw [List.mem_singleton.mp hp]; exact hT1
  · rw [List.mem_singleton.mp hp]; exact nT1
  · rw [List.mem_singleton.mp hp]; exact PySem.W.codeHd_of_K X (code_hd lc1 hdc1)
  · refine ⟨a, ns, rfl, hs, by omega, fun p hp => ?_, fun _ => rfl⟩
    rw [List.mem_singleton.mp hp]; exact TabS.nil (hT' _ (List.mem_singleton.mpr rfl))
  · have tb1 := TB _ (List.mem_singleton.mpr rfl)
    have hm1 : (P1, qRf) ∈ T1 P1 := List.mem_singleton.mpr rfl
    have hu1 : ∀ p ∈ T1 P1, p.1 = P1 → p.2 = qRf := fun p hp _ => by rw [List.mem_singleton.mp hp]
    have dInt := (⟨ok_isInt F0 T, gl a0, k0, b0⟩ : DefAt l.prog w K mg base _ _ "is_integer" _ _ _ _)
    have dList := (⟨ok_isList F2 T, gl a2, k2, b2⟩ : DefAt l.prog w K mg base _ _ "is_list" _ _ _ _)
    have dWith := (⟨ok_within F1 dInt, gl a1, k1, b1⟩ : DefAt l.prog w K mg base _ _ "is_within" _ _ _ _)
    have dNT := (⟨ok_numsT F3 T dInt dList, gl a3, k3, b3⟩ : DefAt l.prog w K mg base _ _ "is_numbers" _ _ _ _)
    have eR' : ErrAt l.prog w K mg base "BadRing" "part" eR fm3 _ := ⟨oeR, am3, tim3, nfeRpart, gl aeR, bm3, ok_badRingI Fm3⟩
    have eB' : ErrAt l.prog w K mg base "BadNumber" "part" eB fm4 _ := ⟨oeB, am4, tim4, nfeBpart, gl aeB, bm4, ok_badNumberI Fm4⟩
    have eM' : Err2At l.prog w K mg base "TooMany" "what" "most" eM fm5 _ := ⟨oeM, am5, tim5, nfeMwhat, nfeMmost, gl aeM, bm5, ok_tooManyI Fm5⟩
    have dFx := (⟨ok_fixed F4 T, gl a4, k4, b4⟩ : DefAt l.prog w K mg base _ _ "fixed" _ _ _ _)
    have dFx1 := (⟨ok_fx1 F4 T dFx, gl a4, k4, b4⟩ : DefAt l.prog w K mg base _ _ "fixed" _ _ _ _)
    have dFx2 := (⟨ok_fx2 F4 T dFx1, gl a4, k4, b4⟩ : DefAt l.prog w K mg base _ _ "fixed" _ _ _ _)
    have dWG := (⟨ok_withinG F1 dInt, gl a1, k1, b1⟩ : DefAt l.prog w K mg base _ _ "is_within" _ _ _ _)
    have dNum := (⟨ok_numG F5 dWG eB', gl a5, k5, b5⟩ : DefAt l.prog w K mg base _ _ "want_number" _ _ _ _)
    have dAL := (⟨ok_areL F6 T N dWith dList, gl a6, k6, b6⟩ : DefAt l.prog w K mg base _ _ "are_lengths" _ _ _ _)
    have dHL := (⟨ok_hasL F7 T, gl a7, k7, b7⟩ : DefAt l.prog w K mg base _ _ "has_level" _ _ _ _)
    have Gp : RingP l.prog w K mg base C fm0 _ := ⟨⟨rC_mk, am0, im0, rC_kc⟩, ok_ri (P := l.prog) (w := w) (base := base) Fm0 T N R dAL dHL, bm0⟩
    have NL := ok_rlen (P := l.prog) (w := w) (base := base) Fm1 T R
    have dWR := (⟨ok_wantR F8 T R eR', gl a8, k8, b8⟩ : DefAt l.prog w K mg base _ _ "want_ring" _ _ _ _)
    have dFew := (⟨ok_few F9 T ⟨am1, im1, km1⟩ NL bm1 eM', gl a9, k9, b9⟩ : DefAt l.prog w K mg base _ _ "want_few" _ _ _ _)
    have dIS := (⟨ok_is F11 T dList dNT, gl a11, k11, b11⟩ : DefAt l.prog w K mg base _ _ "is_strand" _ _ _ _)
    have dASs := (⟨ok_asS F12 T, gl a12, k12, b12⟩ : DefAt l.prog w K mg base _ _ "as_strand" _ _ _ _)
    have dAre := (⟨ok_are F10 T N dList dIS, gl a10, k10, b10⟩ : DefAt l.prog w K mg base _ _ "are_strands" _ _ _ _)
    have Lp : LineP l.prog w K mg base CL fm2 _ := ⟨⟨rCL_mk, am2, im2, rCL_kc⟩, ok_lu (P := l.prog) (w := w) (base := base) Fm2 T RL dAre dASs dFx2, bm2⟩
    have dNe := (⟨ok_nets F14 T R RL, gl a14, k14, b14⟩ : DefAt l.prog w K mg base _ _ "nets_of" _ _ _ _)
    have dTG := (⟨ok_tg F15 T, gl a15, k15, b15⟩ : DefAt l.prog w K mg base _ _ "too_great" _ _ _ _)
    have dHad := (⟨ok_had F16 dNe dTG, gl a16, k16, b16⟩ : DefAt l.prog w K mg base _ _ "is_had" _ _ _ _)
    have dWB := (⟨ok_wb F18 T, gl a18, k18, b18⟩ : DefAt l.prog w K mg base _ _ "with_bar" _ _ _ _)
    have dAll := (⟨ok_as F17 T dWB, gl a17, k17, b17⟩ : DefAt l.prog w K mg base _ _ "all_strands" _ _ _ _)
    have dML := (⟨ok_ml (c := ⟨eR, eB, eM⟩) F13 T ⟨_, gl g_MOST_LISTED⟩ RL Lp ⟨am1, im1, km1⟩ NL bm1 dWR dNum dFew dAll dHad, gl a13, k13, b13⟩ : DefAt l.prog w K mg base _ _ "many_lineups" _ _ _ _)
    have dMLc := (⟨ok_mlc dML.ok, gl a13, k13, b13⟩ : DefAt l.prog w K mg base _ _ "many_lineups" _ _ _ _)
    have kb1 : KBinds K _ ["ring", "many"] ["many", "ring"] gK2 gK2 := kb_mr (fun a b s => .of_eq rfl) (fd := PySem.W.fnOf "many_lineups" "many_lineups" (defArgs sManyLineups) (defBody sManyLineups) (defScope sManyLineups) .none kV13 dc13 pm13 an13 cd13 ct13)
    have dDr : DrawAt l.prog w K mg base _ _ := ⟨ok_draw F20 T, gl a20, k20, b20⟩
    have dPn := (⟨ok_pen F19 T, gl a19, k19, b19⟩ : DefAt l.prog w K mg base _ _ "_law_bench" _ _ _ _)
    have dPk := (⟨ok_pick F21 T dDr, gl a21, k21, b21⟩ : DefAt l.prog w K mg base _ _ "_law_pick" _ _ _ _)
    have dMx := (⟨ok_mixed F22 T dDr, gl a22, k22, b22⟩ : DefAt l.prog w K mg base _ _ "_law_mixed" _ _ _ _)
    have dLn := (⟨ok_lengths F23 T dDr, gl a23, k23, b23⟩ : DefAt l.prog w K mg base _ _ "_law_lengths" _ _ _ _)
    have dCn := (⟨ok_cnts F24 T, gl a24, k24, b24⟩ : DefAt l.prog w K mg base _ _ "_law_counts" _ _ _ _)
    have dLv := (⟨ok_lev F25 T, gl a25, k25, b25⟩ : DefAt l.prog w K mg base _ _ "_law_levels" _ _ _ _)
    have dCR := (⟨ok_cr F26 T R Gp dCn dMLc kb1 dLv dDr dMx, gl a26, k26, b26⟩ : DefAt l.prog w K mg base _ _ "_law_counts_right" _ _ _ _)
    have dRR := (⟨ok_rr (hc := ⟨eR, eB, eM⟩) (c := ⟨eR, eB, eM⟩) F28 T R KT Gp ⟨am1, im1, km1⟩ NL bm1 dML ⟨rfl, rfl, rfl⟩ dDr dPk Hc tb1 hm1 hu1 F27 b27 (gl a27), gl a28, k28, b28⟩ : DefAt l.prog w K mg base _ _ "_law_refused_right" _ _ _ _)
    exact ok_law F29 T dPn dLn dPk dCR dRR
end K
open PySem PySem.W PyProof.Rows in
set_option maxRecDepth 100000 in
set_option maxHeartbeats 0 in
theorem PySem.Challenge.cw_ringbars_k55_lineups_counted_holds : PySem.Challenge.rw_ringbars_k55_lineups_counted.Holds := by
  w_on; o_law; k_head; (case hw => w_witness2)
  k_fill
  refine LamX.walk_ofTs (l := PySem.Challenge.rw_ringbars_k55_lineups_counted) (n := 63) (k := 11) (x := "_law_script") (CX := fun _ => L2.CX0) rfl (by decide) rfl ⟨rfl, by decide, by decide⟩ (fun w h Y => PySem.W.km_in_of Y) ?F (fun _ _ _ _ _ z => z)
  case F =>
    intro w mg fa h Y KX G hmg
    refine' K.all_mk KX G hmg ?aC ?aCL ?aeX ?aeR ?aeB ?aeM ?a0 ?l0 ?c0 ?k0 ?a1 ?l1 ?c1 ?k1 ?a2 ?l2 ?c2 ?k2 ?a3 ?l3 ?c3 ?k3 ?a4 ?l4 ?c4 ?k4 ?a5 ?l5 ?c5 ?k5 ?a6 ?l6 ?c6 ?k6 ?a7 ?l7 ?c7 ?k7 ?a8 ?l8 ?c8 ?k8 ?a9 ?l9 ?c9 ?k9 ?a10 ?l10 ?c10 ?k10 ?a11 ?l11 ?c11 ?k11 ?a12 ?l12 ?c12 ?k12 ?a13 ?l13 ?c13 ?k13 ?a14 ?l14 ?c14 ?k14 ?a15 ?l15 ?c15 ?k15 ?a16 ?l16 ?c16 ?k16 ?a17 ?l17 ?c17 ?k17 ?a18 ?l18 ?c18 ?k18 ?a19 ?l19 ?c19 ?k19 ?a20 ?l20 ?c20 ?k20 ?a21 ?l21 ?c21 ?k21 ?a22 ?l22 ?c22 ?k22 ?a23 ?l23 ?c23 ?k23 ?a24 ?l24 ?c24 ?k24 ?a25 ?l25 ?c25 ?k25 ?a26 ?l26 ?c26 ?k26 ?a27 ?l27 ?c27 ?k27 ?a28 ?l28 ?c28 ?k28 ?a29 ?l29 ?c29 ?k29 ?am0 ?im0 ?lm0 ?cm0 ?km0 ?am1 ?im1 ?lm1 ?cm1 ?km1 ?am2 ?im2 ?lm2 ?cm2 ?km2 ?am3 ?im3 ?lm3 ?cm3 ?km3 ?tim3 ?am4 ?im4 ?lm4 ?cm4 ?km4 ?tim4 ?am5 ?im5 ?lm5 ?cm5 ?km5 ?tim5 ?rC_pg ?rC_hd ?rC_po ?rC_sa ?rC_mk ?rC_kc ?rC_ha ?rC_hm ?rC_n_lengths ?rC_n_total ?rC_n_closes ?rC_n_is_clear ?rCL_pg ?rCL_hd ?rCL_po ?rCL_sa ?rCL_mk ?rCL_kc ?rCL_ha ?rCL_hm ?rCL_n_strands ?rCL_n_lots ?rCL_n_many ?rhn ?rht ?kN ?kI ?kS ?kL ?krn ?kmn ?kmr ?z_int ?z_len ?z_abs ?z_list ?z_tuple ?z_bool ?z_range ?z_sum ?z_max ?z_all ?z_any ?z_sorted ?z_enumerate ?z_isinstance ?g_MOST_LENGTH ?g_LEAST_BARS ?g_MOST_BARS ?g_MOST_LISTED ?xeR ?rveR ?saeR ?eCeR ?tCeR ?kCeR ?nfeRpart ?gaeR ?ggeR ?hdeR ?haeR ?hmeR ?sbeR ?xeB ?rveB ?saeB ?eCeB ?tCeB ?kCeB ?nfeBpart ?gaeB ?ggeB ?hdeB ?haeB ?hmeB ?sbeB ?xeM ?rveM ?saeM ?eCeM ?tCeM ?kCeM ?nfeMwhat ?nfeMmost ?gaeM ?ggeM ?hdeM ?haeM ?hmeM ?sbeM ?eCeX ?hdeX ?tCeX ?lc1 ?hdc1 ?nT1 ?hT1
    (case hT1 => exact PySem.W.km_tabs_of Y _ (List.mem_cons_self ..))
    (case aC => k_is)
    (case aCL => k_is)
    (case aeX => k_is)
    (case aeR => k_is)
    (case aeB => k_is)
    (case aeM => k_is)
    (case a0 => k_is)
    (case l0 => k_is)
    (case c0 => k_is)
    (case k0 => k_is)
    (case a1 => k_is)
    (case l1 => k_is)
    (case c1 => k_is)
    (case k1 => k_is)
    (case a2 => k_is)
    (case l2 => k_is)
    (case c2 => k_is)
    (case k2 => k_is)
    (case a3 => k_is)
    (case l3 => k_is)
    (case c3 => k_is)
    (case k3 => k_is)
    (case a4 => k_is)
    (case l4 => k_is)
    (case c4 => k_is)
    (case k4 => k_is)
    (case a5 => k_is)
    (case l5 => k_is)
    (case c5 => k_is)
    (case k5 => k_is)
    (case a6 => k_is)
    (case l6 => k_is)
    (case c6 => k_is)
    (case k6 => k_is)
    (case a7 => k_is)
    (case l7 => k_is)
    (case c7 => k_is)
    (case k7 => k_is)
    (case a8 => k_is)
    (case l8 => k_is)
    (case c8 => k_is)
    (case k8 => k_is)
    (case a9 => k_is)
    (case l9 => k_is)
    (case c9 => k_is)
    (case k9 => k_is)
    (case a10 => k_is)
    (case l10 => k_is)
    (case c10 => k_is)
    (case k10 => k_is)
    (case a11 => k_is)
    (case l11 => k_is)
    (case c11 => k_is)
    (case k11 => k_is)
    (case a12 => k_is)
    (case l12 => k_is)
    (case c12 => k_is)
    (case k12 => k_is)
    (case a13 => k_is)
    (case l13 => k_is)
    (case c13 => k_is)
    (case k13 => k_is)
    (case a14 => k_is)
    (case l14 => k_is)
    (case c14 => k_is)
    (case k14 => k_is)
    (case a15 => k_is)
    (case l15 => k_is)
    (case c15 => k_is)
    (case k15 => k_is)
    (case a16 => k_is)
    (case l16 => k_is)
    (case c16 => k_is)
    (case k16 => k_is)
    (case a17 => k_is)
    (case l17 => k_is)
    (case c17 => k_is)
    (case k17 => k_is)
    (case a18 => k_is)
    (case l18 => k_is)
    (case c18 => k_is)
    (case k18 => k_is)
    (case a19 => k_is)
    (case l19 => k_is)
    (case c19 => k_is)
    (case k19 => k_is)
    (case a20 => k_is)
    (case l20 => k_is)
    (case c20 => k_is)
    (case k20 => k_is)
    (case a21 => k_is)
    (case l21 => k_is)
    (case c21 => k_is)
    (case k21 => k_is)
    (case a22 => k_is)
    (case l22 => k_is)
    (case c22 => k_is)
    (case k22 => k_is)
    (case a23 => k_is)
    (case l23 => k_is)
    (case c23 => k_is)
    (case k23 => k_is)
    (case a24 => k_is)
    (case l24 => k_is)
    (case c24 => k_is)
    (case k24 => k_is)
    (case a25 => k_is)
    (case l25 => k_is)
    (case c25 => k_is)
    (case k25 => k_is)
    (case a26 => k_is)
    (case l26 => k_is)
    (case c26 => k_is)
    (case k26 => k_is)
    (case a27 => k_is)
    (case l27 => k_is)
    (case c27 => k_is)
    (case k27 => k_is)
    (case a28 => k_is)
    (case l28 => k_is)
    (case c28 => k_is)
    (case k28 => k_is)
    (case a29 => k_is)
    (case l29 => k_is)
    (case c29 => k_is)
    (case k29 => k_is)
    (case am0 => k_is)
    (case im0 => k_is)
    (case lm0 => k_is)
    (case cm0 => k_is)
    (case km0 => k_is)
    (case am1 => k_is)
    (case im1 => k_is)
    (case lm1 => k_is)
    (case cm1 => k_is)
    (case km1 => k_is)
    (case am2 => k_is)
    (case im2 => k_is)
    (case lm2 => k_is)
    (case cm2 => k_is)
    (case km2 => k_is)
    (case am3 => k_is)
    (case im3 => k_is)
    (case lm3 => k_is)
    (case cm3 => k_is)
    (case km3 => k_is)
    (case tim3 => k_is)
    (case am4 => k_is)
    (case im4 => k_is)
    (case lm4 => k_is)
    (case cm4 => k_is)
    (case km4 => k_is)
    (case tim4 => k_is)
    (case am5 => k_is)
    (case im5 => k_is)
    (case lm5 => k_is)
    (case cm5 => k_is)
    (case km5 => k_is)
    (case tim5 => k_is)
    (case rC_pg => k_is)
    (case rC_hd => k_is)
    (case rC_po => k_is)
    (case rC_sa => k_is)
    (case rC_mk => k_is)
    (case rC_kc => k_is)
    (case rC_ha => k_is)
    (case rC_hm => k_is)
    (case rC_n_lengths => k_is)
    (case rC_n_total => k_is)
    (case rC_n_closes => k_is)
    (case rC_n_is_clear => k_is)
    (case rCL_pg => k_is)
    (case rCL_hd => k_is)
    (case rCL_po => k_is)
    (case rCL_sa => k_is)
    (case rCL_mk => k_is)
    (case rCL_kc => k_is)
    (case rCL_ha => k_is)
    (case rCL_hm => k_is)
    (case rCL_n_strands => k_is)
    (case rCL_n_lots => k_is)
    (case rCL_n_many => k_is)
    (case rhn => k_is)
    (case rht => k_is)
    (case kN => kit_is)
    (case kI => kit_is)
    (case kS => kit_is)
    (case kL => kit_is)
    (case krn => kit_is)
    (case kmn => kit_is)
    (case kmr => kit_is)
    (case z_int => k_is)
    (case z_len => k_is)
    (case z_abs => k_is)
    (case z_list => k_is)
    (case z_tuple => k_is)
    (case z_bool => k_is)
    (case z_range => k_is)
    (case z_sum => k_is)
    (case z_max => k_is)
    (case z_all => k_is)
    (case z_any => k_is)
    (case z_sorted => k_is)
    (case z_enumerate => k_is)
    (case z_isinstance => k_is)
    (case g_MOST_LENGTH => k_is)
    (case g_LEAST_BARS => k_is)
    (case g_MOST_BARS => k_is)
    (case g_MOST_LISTED => k_is)
    (case xeR => k_is)
    (case rveR => first | (with_reducible rfl) | decide +kernel | k_is)
    (case saeR => k_is)
    (case eCeR => k_is)
    (case tCeR => k_is)
    (case kCeR => k_is)
    (case nfeRpart => k_is)
    (case gaeR => k_is)
    (case ggeR => k_is)
    (case hdeR => k_is)
    (case haeR => k_is)
    (case hmeR => k_is)
    (case sbeR => k_is)
    (case xeB => k_is)
    (case rveB => first | (with_reducible rfl) | decide +kernel | k_is)
    (case saeB => k_is)
    (case eCeB => k_is)
    (case tCeB => k_is)
    (case kCeB => k_is)
    (case nfeBpart => k_is)
    (case gaeB => k_is)
    (case ggeB => k_is)
    (case hdeB => k_is)
    (case haeB => k_is)
    (case hmeB => k_is)
    (case sbeB => k_is)
    (case xeM => k_is)
    (case rveM => first | (with_reducible rfl) | decide +kernel | k_is)
    (case saeM => k_is)
    (case eCeM => k_is)
    (case tCeM => k_is)
    (case kCeM => k_is)
    (case nfeMwhat => k_is)
    (case nfeMmost => k_is)
    (case gaeM => k_is)
    (case ggeM => k_is)
    (case hdeM => k_is)
    (case haeM => k_is)
    (case hmeM => k_is)
    (case sbeM => k_is)
    (case eCeX => k_is)
    (case hdeX => k_is)
    (case tCeX => k_is)
    (case lc1 => k_is)
    (case hdc1 => first | rfl | decide +kernel | with_unfolding_all rfl)
    (case nT1 => exact K.out_of Y (by decide +kernel))
