import PyProof.Rows.All
import Wide.All
import OpenK.AllK
import Wide.FinOn
import HandS.ForMost
import HandS.IsInst
import HandS.Strs
import HandS.ExcInit
import HandS.ExcField
import HandS.ExcIs
import HandS.TryOnly
import HandS.Lambda
import HandS.EndTab
import HandS.Flow
import HandS.SortInts
import HandS.SortRule
import HandS.SortKw
import KE.KTupSum
import HandS.NamedTupSort
import PyProof.P3Eq
import HandS.ReCall
import HandS.OwnEq
import HandS.TupAny
import HandS.Deep
import PyProof.InstNe
import KE.SortKeyHeap
import HandS.Walk
import KE.GoesEnum
import HandS.Evl
import HandS.WordsExc
import KE.KExcIs
import HandS.DictComp
import KE.GoesZip
import KE.KDictZip
import HandS.Zip
import PyProof.P3In
import HandS.Nested
import HandS.CallLocal
import HandS.Comp
import HandS.Exc
import HandS.Conv
import HandS.Style
import HandS.Codes
import HandS.Star
import KE.KTypeName
import KE.KSuper
import HandS.ClsMeth
import HandS.Records
import HandS.Words
import KE.SortData
import HandS.SetFor
import PyProof.Rows.SetFrom
import PyProof.Rows.Range3
import PyProof.Conv_bool
import HandS.Flt
import HandS.Dict
import PyProof.ReprRoads
import PyProof.CallFns
import HandS.RaiseMore
import PyProof.NeKinds
import KE.KNestM
import KE.OsRunLaw
import PySem.Challenge.RW_ringbars_k51_pointing_one_way_and_agains
set_option Elab.async false
set_option linter.all false
set_option maxRecDepth 100000
set_option maxHeartbeats 4000000
/-! ## rules of our own, for what the rings' program says and the layer has no rule for -/
namespace Rg
open PySem PySem.Spec PyProof.Rows L2

/-! ### f(k = v, ..), oj.m(k = v, ..) -/
section
variable {X : Cx} {CX : CXT} {k : Nat} {f C : Addr} {fd : FuncData} {ps ks : List Str} {sp : Sp} {E : XK} {x m : Str} {p pos apos : Pos} {oj : Expr} {kws : List Keyword} {ta : TE} {tkn : TA}
variable {g : List Value → List Value → List Value} {gV : List V → List V → List V}
theorem pe_callK0 (F : FnOk X.prog X.w X.K X.mg X.base CX k f fd ps sp) (hr : Room k X.A) (hg : Gl X x) (hmm : X.mg x = some (.ref f)) (hk : PySem.W.keepIn X.K (.ref f) = true) (hb : KBinds X.K fd ps ks g gV) (hx : Passes CX X E)
    (hkw : PK X kws tkn) (hall : (backToKw pos (keywordEach kws X.env)).all (·.1.isSome) = true := by rfl) (hks : (backToKw pos (keywordEach kws X.env)).filterMap (·.1) = ks := by rfl)
    (hdb : (x == ("__debug__" : Str)) = false := by decide)
    (hpl : ((backTo pos (starEach [] X.env)).any (·.1) || (backToKw pos (keywordEach kws X.env)).any (·.1.isNone)) = false := by rfl) :
    PE X (.Call (.Name x p) [] kws pos) (tCallK sp gV E tNil tkn) := by
  refine ⟨fun pns s σs Hh Qq Iv h => ?_⟩
  refine wpAny_Call_Name_kw (ld_glob Iv hg hmm ?_ hdb)
  refine PySem.W.callWith_KW0 (h₀ := X.base) Iv.ok.mod.kin hk hall ?_ hpl
  refine thn (hkw.run pos pns s σs Hh _ Iv h) fun kvs2 sh2 ⟨zvs, H2, I2, rlz, q2⟩ => ⟨I2.kIn, ?_⟩
  rw [hks]
  exact run_fnk (us := []) (vs := []) F hr hb hx I2 .nil rlz q2
/-- oj.m(k = v, ..) -/
def tMethK (C : Addr) (m : Str) (sp : Sp) (gV : List V → List V → List V) (E : XK) (ta : TE) (tkn : TA) : TE := fun σs Hh Qq => ta σs Hh fun x H1 => ∃ a dx fs, x = .ref a ∧ H1 a = some (.ins C dx fs) ∧ fs.lookup m = none ∧
  tkn σs H1 fun zvs H2 => sp (gV [.ref a] zvs) H2 Qq E
theorem pe_methK0 {pl : Sem Bool} (he : PE X oj ta) (c : Cls X.K C) (hmm : Meth X.K C m f) (F : FnOk X.prog X.w X.K X.mg X.base CX k f fd ps sp) (hr : Room k X.A) (hb : KBinds X.K fd ps ks g gV) (hx : Passes CX X E)
    (hkw : PK X kws tkn) (hall : (backToKw pos (keywordEach kws X.env)).all (·.1.isSome) = true := by rfl) (hks : (backToKw pos (keywordEach kws X.env)).filterMap (·.1) = ks := by rfl)
    (hpl : ((backTo pos (starEach [] X.env)).any (·.1) || (backToKw pos (keywordEach kws X.env)).any (·.1.isNone)) = false := by rfl)
    (ht : eval (.Call (.Attribute oj m apos) [] kws pos) X.env = (do
      let ov ← eval oj X.env
      standAt apos.atName
      let (f, first) ← holding [ov] (getMethod ov m pl)
      callWith pos f first (backTo pos (starEach [] X.env)) (backToKw pos (keywordEach kws X.env))) := by rfl) :
    PE X (.Call (.Attribute oj m apos) [] kws pos) (tMethK C m sp gV E ta tkn) := by
  refine ⟨fun pns s σs Hh Qq Iv h => ?_⟩
  refine PySem.W.methodCall_KW (pl := pl) (thn (he.run pns s σs Hh _ Iv h) fun u sh1 ⟨x, H1, I1, rlx, a, dx, fs, ex, eqa, l, qq⟩ => ?_) ht
  subst ex
  obtain rfl : u = Value.ref a := rlx
  refine getmeth_ok I1 eqa c hmm l ?_
  refine PySem.W.callWith_KW0 (first := [.ref a]) (h₀ := X.base) Iv.ok.mod.kin hmm.kp hall ?_ hpl
  refine thn (hkw.run pos pns sh1 σs H1 _ I1 qq) fun kvs2 sh2 ⟨zvs, H2, I2, rlz, q2⟩ => ⟨I2.kIn, ?_⟩
  rw [hks]
  exact run_fnk (us := [.ref a]) (vs := [.ref a]) F hr hb hx I2 (.cons rfl .nil) rlz q2
end

/-! ### len(oj), the instance's own __len__ -/
section
variable {X : Cx} {k : Nat} {f : Addr} {fd : FuncData} {sp : Sp}
def rLenO (K : PySem.W.Frag) (f : Addr) (sp : Sp) : List V → Hp → VK → Prop := fun vxs Hh Qq => ∃ a C dx fs, vxs = [.ref a] ∧ Hh a = some (.ins C dx fs) ∧ PySem.W.findIn K (.ref C) "__len__" = some (some (.ref f)) ∧ PySem.W.isFn K (.ref f) = true ∧
  sp [.ref a] Hh (fun v H' => ∃ n : Int, v = .int n ∧ 0 ≤ n ∧ n < 2 ^ 63 ∧ Qq (.int n) H') E0
theorem call_lenO (F : FnOk X.prog X.w X.K X.mg X.base CX0 k f fd ["self"] sp) (hr : Room (k + 1) X.A) (hb : Binds X.K fd ["self"] []) : CallR X (.builtin "len") (rLenO X.K f sp) := by
  intro pns s σs Hh vxs uvs Qq Iv r h
  obtain ⟨a, C, dx, fs, rfl, eqa, hs, hf, qq⟩ := h
  obtain ⟨u, rfl, rlu⟩ := vals1 r
  obtain rfl : u = Value.ref a := rlu
  obtain ⟨mA, O, _, _, _, _⟩ := ins_get Iv.hok eqa
  obtain ⟨m, fr⟩ := Iv.fr
  obtain ⟨od, hod⟩ : ∃ od, s.heap.get? dx = some od := let ⟨oj, _, _, e', _⟩ := O.ns; ⟨oj, e'⟩
  refine PySem.W.len_K fr Iv.ok.mod.kin (ox := PySem.W.instObj C dx) (C := C) (od := some od) ⟨O.obj, rfl, rfl, hod⟩ hs hf ?_
  have hlst : ([Value.ref a] ++ []).length = (["self"] : List Str).length := rfl
  refine wpAny_call (codeAny_mono (F.run X.A.in1 X.stack s Hh ⟨[.ref a], []⟩ [.ref a] [.ref a] _ E0 hr.in1 Iv.env0.in1 (hb s [.ref a] Iv.kIn hlst) (.cons rfl .nil) qq) fun r s' hsq => ?_)
  cases r with
  | error e => exact hsq.elim
  | ok fl =>
    cases fl with
    | ret u =>
      obtain ⟨v, H', I3, rlv, n, ev, h0, hh1, q3⟩ := Iv.after hsq
      subst ev
      obtain ⟨t, rfl⟩ := rlv
      exact ⟨⟨h0, hh1⟩, ⟨.int n, H', I3.tok _, ⟨_, rfl⟩, q3⟩⟩
    | next => exact False.elim hsq
    | brk => exact False.elim hsq
    | cont => exact False.elim hsq
end

/-! ### sum, max of a tuple of ints; vls index -/
section
variable {prog : Program} {w : World} {A : Around} {E : Value → Shared → Prop} {s : Shared} {l : Addr} {vls : List Value} {nms : List Int} {Qq : Value → Shared → Prop}
theorem isTuple_of {h : Heap} (x : IsTup h l vls.toArray) : h.IsTuple l vls.toArray := x
theorem sumT_raw (hcal : A.handled = none) (hlst : s.heap.IsTuple l vls.toArray) (hint : IntsAre vls nms)
    (h : ∀ h' tkn t', (∀ b oj, s.heap.get? b = some oj → h'.get? b = some oj) → Qq (.int nms.sum t') { s with heap := h', toks := tkn }) : wpAny (model prog w) A (call (.builtin "sum") [.ref l]) Qq E s := by
  obtain ⟨vxs, e⟩ := hint.allInts.items
  have hnn : numsOf (intItems vxs).toList = nms := by rw [← e]; exact hint.numsOf
  rw [nums_intItems] at hnn
  rw [e] at hlst
  refine PySem.W.ktm_sumG hcal hlst fun h' tkn t' hk => ?_
  have := h h' tkn t' hk
  rw [preSum_eq, List.take_of_length_le (by simp), hnn]; exact this
end
section
variable {X : Cx}
def rSumT (K : PySem.W.Frag) : List V → Hp → VK → Prop := fun vs Hh Qq => ∃ (a : Addr) (nms : List Int), vs = [V.ref a] ∧ SqT K Hh a (nms.map V.int) ∧ Qq (.int nms.sum) Hh
theorem cr_sumT (hc : X.calm = true) : CallR X (.builtin "sum") (rSumT X.K) := by
  intro pns s σs Hh vs uvs Qq Iv r h
  obtain ⟨a, nms, rfl, hs, qq⟩ := h
  obtain ⟨vls, rlv, hlst, _⟩ := Iv.tuple hs
  rw [Vals.ref1 r]
  exact sumT_raw (Iv.ok.hd hc) (isTuple_of hlst) rlv.ints fun h' tkn t' hk => ⟨.int _, Hh, Iv.kept hk, ⟨_, rfl⟩, qq⟩
end
end Rg
namespace Rg
open PySem PySem.Spec PyProof.Rows L2
/-! ### max of a tuple of ints, vls index, isinstance of a caught error with fields -/
section
variable {prog : Program} {w : World} {A : Around} {E : Value → Shared → Prop} {s : Shared} {l : Addr} {vls : List Value} {nms : List Int} {Qq : Value → Shared → Prop}
theorem max_intTup {vxs : Array (Int × Tok)} (hcal : A.handled = none) (ht : s.heap.IsTuple l (intItems vxs)) (hpos : 0 < vxs.size)
    (h : ∀ v h' tkn, (intItems vxs)[argBest (fun i j => decide (numAt vxs i > numAt vxs j)) (vxs.size - 1)]? = some v → (∀ b oj, s.heap.get? b = some oj → h'.get? b = some oj) → Qq v { s with heap := h', toks := tkn }) :
    wpAny (model prog w) A (call (.builtin "max") [.ref l]) Qq E s := by
  obtain ⟨oj, hob, hc, n, hd⟩ := id ht
  have hI : l ≠ s.heap.objs.size := Nat.ne_of_lt (Heap.lt_size hob)
  refine call_max_walk (wpAny_pyIter_tuple ht ?_)
  refine ⟨s.heap.objs.size, _, _, _, _, _, _, rfl, Walks.tuple (A := A.in1) hcal _ l hI (intItems vxs), ⟨⟨_, Heap.get?_push_size _ rfl, rfl, rfl⟩, ht.at fun oj e => Heap.get?_push_of_some _ e⟩, fun b hb => ?_, by simpa [intItems] using hpos, CmpOf.ints_gt (numAt vxs) (fun _ _ => intItems_at), fun v h' tkn hP hk => ?_⟩
  · rcases List.mem_cons.mp hb with rfl | hb
    · exact Heap.lt_size (Heap.get?_push_size _ rfl)
    · obtain rfl := List.mem_singleton.mp hb
      exact Heap.lt_size (Heap.get?_push_of_some _ hob)
  · refine h v h' tkn (by simpa [intItems] using hP) fun b oj e => ?_
    exact hk b oj (fun hb => absurd (Heap.lt_size e) ((List.mem_singleton.mp hb) ▸ Nat.lt_irrefl _)) (Heap.get?_push_of_some _ e)
theorem maxT_raw (hcal : A.handled = none) (hlst : s.heap.IsTuple l vls.toArray) (hint : IntsAre vls nms) (hpos : 0 < nms.length)
    (h : ∀ h' tkn M t', (∀ b oj, s.heap.get? b = some oj → h'.get? b = some oj) → M ∈ nms → (∀ a, a ∈ nms → a ≤ M) → Qq (.int M t') { s with heap := h', toks := tkn }) : wpAny (model prog w) A (call (.builtin "max") [.ref l]) Qq E s := by
  obtain ⟨vxs, e⟩ := hint.allInts.items
  have hnn : numsOf (intItems vxs).toList = nms := by rw [← e]; exact hint.numsOf
  rw [nums_intItems] at hnn
  subst hnn
  rw [e] at hlst
  have hsz : 0 < vxs.size := by simpa using hpos
  refine max_intTup hcal hlst hsz fun v h' tkn hval hk => ?_
  obtain ⟨t, rfl⟩ := intItems_at hval
  obtain ⟨hh1, hh2⟩ := argBest_gt (numAt vxs) (vxs.size - 1)
  refine h h' tkn _ t hk ?_ fun a ha => ?_
  · rw [numAt_eq]; exact PySem.getD_mem (by rw [List.length_map, Array.length_toList]; omega)
  · obtain ⟨j, hjj, rfl⟩ := mem_getD ha
    rw [List.length_map, Array.length_toList] at hjj
    rw [← numAt_eq]; exact hh2 j (by omega)
end
section
variable {X : Cx}
def rMaxT (K : PySem.W.Frag) : List V → Hp → VK → Prop := fun vs Hh Qq => ∃ (a : Addr) (nms : List Int), vs = [V.ref a] ∧ SqT K Hh a (nms.map V.int) ∧ 0 < nms.length ∧ ∀ m, m ∈ nms → (∀ y, y ∈ nms → y ≤ m) → Qq (.int m) Hh
theorem cr_maxT (hc : X.calm = true) : CallR X (.builtin "max") (rMaxT X.K) := by
  intro pns s σs Hh vs uvs Qq Iv r h
  obtain ⟨a, nms, rfl, hs, hpos, qq⟩ := h
  obtain ⟨vls, rlv, hlst, _⟩ := Iv.tuple hs
  rw [Vals.ref1 r]
  exact maxT_raw (Iv.ok.hd hc) (isTuple_of hlst) rlv.ints hpos fun h' tkn m t' hk hh1 hh2 => ⟨.int _, Hh, Iv.kept hk, ⟨_, rfl⟩, qq m hh1 hh2⟩
theorem flat_ints (yms : List Int) : (yms.map V.int).all flatV = true := by
  rw [List.all_map]
  exact List.all_eq_true.mpr fun _ _ => rfl
def rTIdx (K : PySem.W.Frag) : V → List V → Hp → VK → Prop := fun x vxs Hh Qq => ∃ (p : Addr) (yms : List Int) (z : Int) (j : Nat), x = .ref p ∧ vxs = [.int z] ∧ SqT K Hh p (yms.map V.int) ∧ yms[j]? = some z ∧ (∀ m, m < j → yms[m]? ≠ some z) ∧ Qq (.int (j : Nat)) Hh
theorem mt_tupIdx : MtR X "tuple.index" (rTIdx X.K) := by
  intro pns s σs Hh x vxs v uvs Qq Iv rlx rs h
  obtain ⟨p, yms, z, j, rfl, rfl, hsq, hatj, hnot, qq⟩ := h
  cases rlx
  obtain ⟨u, rfl, t, rfl⟩ := vals1 rs
  obtain ⟨vls, r, pl, hszz⟩ := Iv.tuple hsq
  obtain ⟨⟨cls, dct, dta, slt⟩, hob, hc, n, hd⟩ := pl
  simp only at hc hd
  subst hc
  subst hd
  have hlst : vls.toArray.size = yms.length := by rw [List.size_toArray, ← r.length, List.length_map]
  have hjj : j < vls.toArray.size := by rw [hlst]; exact (List.getElem?_eq_some_iff.mp hatj).1
  have at' : ∀ (m : Nat) (hmm : m < vls.toArray.size), ∃ y t', yms[m]? = some y ∧ vls.toArray[m] = Value.int y t' := fun m hmm => by
    have hm' : m < yms.length := by rw [← hlst]; exact hmm
    obtain ⟨w, hwv, t', hw'⟩ := r.get (i := m) (x := .int yms[m]) (by simp [hm'])
    refine ⟨yms[m], t', List.getElem?_eq_getElem hm', ?_⟩
    have e := (List.getElem?_eq_some_iff.mp hwv).2
    rw [← hw', ← e]
    simp
  refine call_meets PySem.F.slot_tuple_index ⟨_, hob, rfl⟩ PySem.F.entry_tuple_index (PySem.F.args_tuple_index_2 _ _) (TI.tuple_indexAt p vls.toArray n dct slt (.int z t) (eqU (.int z)) j hjj ?_ ?_)
    ⟨hob, fun w hwv => mem_eqAt (x := .int z) ⟨t, rfl⟩ rfl r (flat_ints yms) w (by simpa using hwv), ⟨.int (j : Nat), Hh, Iv.tok _, ⟨_, rfl⟩, qq⟩⟩
  · obtain ⟨y, t', hh1, hh2⟩ := at' j hjj
    rw [hatj] at hh1
    cases hh1
    rw [hh2]
    simp [eqU, eqV]
  · intro m hmm hlt
    obtain ⟨y, t', hh1, hh2⟩ := at' m hmm
    rw [hh2]
    have : y ≠ z := fun e => hnot m hlt (by rw [hh1, e])
    simp [eqU, eqV, this]
end
/-! isinstance(e, c), e the exception that the suite holds, with vls dict -/
def rIsED (K : PySem.W.Frag) (D a : Addr) : List V → Hp → VK → Prop := fun vxs Hh Qq => ∃ (c : V) (cv : Value) (b : Bool), vxs = [.ref a, c] ∧ (∀ u, RelV c u → u = cv) ∧ PySem.W.kitOne K (.ref D) cv = some b ∧ Qq (.bl b) Hh
end Rg
namespace Rg
open PySem PySem.Spec PyProof.Rows L2 SrtO
/-! ### sorted(t), t a tuple -/
section
variable {prog : Program} {w : World} {A : Around} {E : Value → Shared → Prop} {s : Shared} {l : Addr} {vs : List Value}
/-- the heap behind the collecting -/
abbrev colHeap (h : Heap) (vs : List Value) : Heap := (h.push (seqObj "list" #[] 0)).update h.objs.size (Obj.mapSeq (· ++ vs.toArray))
theorem col_tup {Qq : List Value → Shared → Prop} (hlst : s.heap.IsTuple l vs.toArray) (hszz : vs.length ≤ sizeLine) (h : Qq vs { s with heap := colHeap s.heap vs }) : wpAny (model prog w) A (collect (.ref l)) Qq E s := by
  obtain ⟨oj, hob, hc, n, hd⟩ := hlst
  have hnew : (s.heap.push (seqObj "list" #[] 0)).get? s.heap.objs.size = some (seqObj "list" #[] 0) := Heap.get?_push_size _ rfl
  have hold : (s.heap.push (seqObj "list" #[] 0)).get? l = some oj := Heap.get?_push_of_some _ hob
  have tt : (Value.type "tuple" == Value.type "tuple") = true := by rfl
  unfold collect
  refine wpAny_bind (wpAny_runValue (codeAny_builtin entry_proto_collect' ?_))
  show wpAny _ _ (do again (.builtin "list.__iadd__" ⟨[← newList [], .ref l], []⟩)) _ _ s
  refine wpAny_bind (wpAny_newList (wpAny_pure ⟨Code.quiet_builtin _ (by decide +kernel), codeAny_builtin entry_list_iadd' ?_⟩))
  show wpAny _ _ (Builtin.List.listExtendWith (.ref s.heap.objs.size) (.ref l) (.ref s.heap.objs.size)) _ _ { s with heap := s.heap.push (seqObj "list" #[] 0) }
  unfold Builtin.List.listExtendWith
  refine wpAny_bind (wpAny_typeOf (T := "tuple") ⟨oj, hold, hc⟩ ?_)
  rw [if_pos (by rw [tt]; simp)]
  refine wpAny_bind (listItems_at hold hd (wpAny_bind (listItems_at (xs := #[]) (n := 0) hnew rfl ?_)))
  rw [if_neg (by simp)]
  refine wpAny_bind (listUpdate_at (xs := #[]) (n := 0) hnew rfl (wpAny_pure ?_) (Nat.zero_le _) (by show (#[] ++ vs.toArray).size ≤ sizeLine + 1; simp only [Array.size_append, List.size_toArray, List.length_nil]; omega))
  show wpAny (model prog w) A (do
      let oj ← load s.heap.objs.size
      match oj.data with
      | .seq vxs _ => pure vxs.toList
      | _ => unsupported "internal:collect") Qq E { s with heap := colHeap s.heap vs }
  refine wpAny_bind (wpAny_load (get?_update_seq hnew _) ?_)
  show wpAny _ _ (pure ((#[] : Array Value) ++ vs.toArray).toList) Qq E _
  have e : ((#[] : Array Value) ++ vs.toArray).toList = vs := by simp
  rw [e]
  exact wpAny_pure h
theorem sorted_tup {ltv : Value → Value → Bool} {Qq : Value → Shared → Prop} (O : Swo ltv) (hlst : s.heap.IsTuple l vs.toArray) (hszz : vs.length ≤ sizeLine)
    (hS : 2 ≤ vs.length → ∀ (h₁ : Heap) (a : Addr), h₁.get? a = some (seqObj "list" vs.toArray 0) → (∀ b oj, s.heap.get? b = some oj → b ≠ a ∧ h₁.get? b = some oj) → SortableO prog w A.in1.in1 { s with heap := h₁ } a vs ltv)
    (h : ∀ out : List Value, Srtd ltv out → Stb ltv out vs → Qq (.ref (s.heap.objs.size + 1)) { s with heap := sortedAll s.heap vs out.toArray }) : wpAny (model prog w) A (call (.builtin "sorted") [.ref l]) Qq E s := by
  have size1 : (colHeap s.heap vs).objs.size = s.heap.objs.size + 1 := by rw [Heap.size_update, size_push']
  have at1 : ((colHeap s.heap vs).push (seqObj "list" vs.toArray 0)).get? (s.heap.objs.size + 1) = some (seqObj "list" vs.toArray 0) := size1 ▸ Heap.get?_push_size (colHeap s.heap vs) rfl
  have old : ∀ b oj, s.heap.get? b = some oj → b ≠ s.heap.objs.size + 1 ∧ ((colHeap s.heap vs).push (seqObj "list" vs.toArray 0)).get? b = some oj := fun b oj qq => by
    have lt : b < s.heap.objs.size := Heap.lt_size qq
    exact ⟨Nat.ne_of_lt (Nat.lt_succ_of_lt lt), Heap.get?_push_of_some _ ((Heap.get?_update_ne _ _ _ _ (Nat.ne_of_lt lt)).trans (Heap.get?_push_of_some _ qq))⟩
  refine Calls.call_function_entry kind_sorted plain_sorted entry_sorted (args_sorted1 _) ?_
  unfold Builtin.«sorted»
  refine wpAny_bind (m := checkCount "sorted" 1 1 _) (wpAny_pure (wpAny_bind (col_tup hlst hszz (wpAny_bind (wpAny_newList ?_ hszz)))))
  show wpAny _ _ _ _ _ { s with heap := (colHeap s.heap vs).push (seqObj "list" vs.toArray 0) }
  rw [size1]
  exact wpAny_bind (wpAny_holding (wpAny_call_entry slot_list_sort ⟨_, at1, rfl⟩ entry_list_sort (list_sort_ord O at1 hszz (fun hh2 => hS hh2 _ _ at1 old) fun out hs hb => ⟨_, rfl, wpAny_pure ⟨_, rfl, h out hs hb⟩⟩) (args_list_sort _)))
end
section
variable {X : Cx}
def rSortedT (K : PySem.W.Frag) : List V → Hp → VK → Prop := fun vs Hh Qq => ∃ (a : Addr) (nms : List Int), vs = [V.ref a] ∧ SqT K Hh a (nms.map V.int) ∧
  ∀ (ns' : List Int) (p : Addr), ns'.Perm nms → ns'.Pairwise (· ≤ ·) → Hh p = none → Qq (.ref p) (upd Hh p (.lst (ns'.map V.int)))
theorem cr_sortedT : CallR X (.builtin "sorted") (rSortedT X.K) := by
  intro pns s σs Hh vs uvs Qq Iv r h
  obtain ⟨a, nms, rfl, hs, qq⟩ := h
  obtain ⟨vls, rlv, hlst, hszz⟩ := Iv.tuple hs
  have hint := rlv.ints
  rw [List.length_map] at hszz
  rw [Vals.ref1 r]
  refine sorted_tup swo_int (isTuple_of hlst) (by rw [hint.length]; exact hszz) (fun hh2 h₁ a' _ _ => ints_sortable hint hh2) fun out hh1 hh2 => ?_
  obtain ⟨k1, k2, k3⟩ := ints_out hint hh1 hh2
  obtain ⟨ep, he'⟩ := PyProof.Rows.sortedAll_at s.heap vls out.toArray
  exact ⟨.ref _, upd Hh (s.heap.objs.size + 1) (.lst ((out.map iv).map V.int)), Iv.laid (t' := s.toks) (fun _ _ => PyProof.Rows.sortedAll_old) (Nat.le_succ _) ⟨by rw [List.length_map, k2.length_eq]; exact hszz, out, ep, vals_of_ints k1, he'⟩, rfl, qq _ _ k2 k3 (Iv.hok.fresh (Nat.le_succ _))⟩
end
end Rg
namespace Rg
open PySem PySem.Spec PyProof.Rows L2 SrtO
/-! ### sorted(vxs), vxs a list of pairs (k, t): k an int, t a tuple of ints -/
/-- at v a pair of x and a tuple of the ints nms -/
def Nest (h : Heap) (v : Value) (x : Int) (nms : List Int) : Prop := ∃ (a b : Addr) (oj : Obj) (t : Tok) (n : Nat) (vls : List Value), v = .ref a ∧ h.get? a = some oj ∧ oj.cls = .type "tuple" ∧ oj.data = .seq #[.int x t, .ref b] n ∧ IsTup h b vls.toArray ∧ IntsAre vls nms
theorem Nest.kept {h h' : Heap} {v : Value} {x : Int} {nms : List Int} (p : Nest h v x nms) (k : ∀ b oj, h.get? b = some oj → oj.cls = .type "tuple" → h'.get? b = some oj) : Nest h' v x nms := by
  obtain ⟨a, b, oj, t, n, vls, e, hob, hc, hd, ⟨ob, hb, hbc, hbd⟩, hint⟩ := p
  exact ⟨a, b, oj, t, n, vls, e, k _ _ hob hc, hc, hd, ⟨ob, k _ _ hb hbc, hbc, hbd⟩, hint⟩
theorem reads_ints {h : Heap} : ∀ {vs : List Value} {nms : List Int}, IntsAre vs nms → ∃ as, ReadsAll h vs (nms.map PyData.int) as
  | _, _, .nil => ⟨_, .nil⟩
  | _, _, .cons i t r => by
    obtain ⟨as, qq⟩ := reads_ints (h := h) r
    exact ⟨_, .cons (.int i t) qq⟩
theorem eqvA_ints : ∀ vxs yms : List Int, PyData.eqvAll (vxs.map PyData.int) (yms.map PyData.int) = decide (vxs = yms)
  | [], [] => by simp [PyData.eqvAll]
  | [], y :: yms => by simp [PyData.eqvAll]
  | x :: vxs, [] => by simp [PyData.eqvAll]
  | x :: vxs, y :: yms => by
    simp only [List.map_cons, PyData.eqvAll, eqvA_ints vxs yms, PyData.eqv]
    by_cases e : x = y <;> by_cases f : vxs = yms <;> simp [e, f]
theorem layA_ints : ∀ l : List Int, PyData.canLayAll0 (l.map PyData.int) = true
  | [] => by simp [PyData.canLayAll0]
  | i :: l => by simp [PyData.canLayAll0, PyData.canLay0, layA_ints l]
theorem depA_ints : ∀ l : List Int, PyData.depthAll (l.map PyData.int) = 0
  | [] => by simp [PyData.depthAll]
  | i :: l => by simp [PyData.depthAll, PyData.depth, depA_ints l]
theorem lex_self : ∀ l : List Int, HT.lexLt l l = false
  | [] => rfl
  | x :: l => by rw [HT.lexLt_cons, if_pos rfl]; exact lex_self l
section
variable {prog : Program} {w : World} {A : Around} {E : Value → Shared → Prop} {s : Shared}
theorem eq_tupInts {b c : Addr} {vls jts : List Value} {nms ms : List Int} (hb : IsTup s.heap b vls.toArray) (hc : IsTup s.heap c jts.toArray) (hint : IntsAre vls nms) (hjj : IntsAre jts ms) (hu : A.units + 1 < cLine) :
    SeqAt.EqAt A s (.ref b) (.ref c) (decide (nms = ms)) := by
  obtain ⟨o1, hh1, c1, n1, d1⟩ := hb
  obtain ⟨o2, hh2, c2, n2, d2⟩ := hc
  obtain ⟨as, r1⟩ := reads_ints (h := s.heap) hint
  obtain ⟨bs, r2⟩ := reads_ints (h := s.heap) hjj
  have qq := SeqAt.eqAt_reads (.tuple (nms.map PyData.int)) (.tuple (ms.map PyData.int)) A s (.ref b) (.ref c) _ _ (Reads.tuple hh1 c1 d1 r1) (Reads.tuple hh2 c2 d2 r2) (by simp only [PyData.canLay0]; exact layA_ints nms) (by simp only [PyData.canLay0]; exact layA_ints ms)
    (by simp only [PyData.depth, depA_ints]; omega)
  have e : PyData.eqv (.tuple (nms.map PyData.int)) (.tuple (ms.map PyData.int)) = decide (nms = ms) := by
    simp only [PyData.eqv]
    exact eqvA_ints nms ms
  rwa [e] at qq
theorem nest_cmp {vs : List Value} {k : Value → Int × List Int} (hp : ∀ v ∈ vs, Nest s.heap v (k v).1 (k v).2) (hu : A.units + 1 < cLine) :
    SrtO.Cmp prog w A s (tuples' true) (fun p => p.1 ∈ vs) (lt2 fun v u => HT.lexLt ((k v).1 :: (k v).2) ((k u).1 :: (k u).2)) := by
  intro p qq hmm hm'
  have hh1 := hp _ hmm
  have hh2 := hp _ hm'
  show wpAny (model prog w) A (keyLt' (tuples' true) p.1 qq.1) (fun r s' => s' = s ∧ r = HT.lexLt ((k p.1).1 :: (k p.1).2) ((k qq.1).1 :: (k qq.1).2)) (fun _ _ => False) s
  generalize (k p.1).1 = x at hh1 ⊢
  generalize (k p.1).2 = nms at hh1 ⊢
  generalize (k qq.1).1 = y at hh2 ⊢
  generalize (k qq.1).2 = ms at hh2 ⊢
  obtain ⟨a, b, oj, t, n, vls, e, hob, hc, hd, hb, hint⟩ := hh1
  obtain ⟨a', b', o', t', n', its', e', ho', hc', hd', hb', hi'⟩ := hh2
  rw [e, e', HT.lexLt_cons]
  refine PySem.W.kat_lt hob hd ho' hd' ?_
  show PySem.W.KatLex prog w A true (decide (2 < 2)) _ [(.int x t, .int y t'), (.ref b, .ref b')] 0 s
  refine PySem.W.kat_cons (SeqAt.EqAt.int_int x t y t' prog w _ _ (PySem.W.kat_go (fun e1 => PySem.W.kat_yes (PySem.W.kat_cons (eq_tupInts hb hb' hint hi' hu prog w _ _ (PySem.W.kat_go (fun ee2 => ?_) (fun ee2 => ?_))))) (fun e1 => ?_)))
  · have ex : x = y := by simpa using e1
    have ey : nms = ms := of_decide_eq_true ee2
    refine PySem.W.kat_yes (PySem.W.kat_nil ⟨rfl, ?_⟩)
    rw [if_pos ex, ey, lex_self]
    rfl
  · have ex : x = y := by simpa using e1
    rw [if_pos ex]
    exact PySem.W.kat_no (PySem.W.kat_one _ _ (HT.lt_tupInts hb hb' hint hi' (by omega) ⟨rfl, rfl⟩))
  · have ex : ¬ x = y := by simpa using e1
    rw [if_neg ex]
    exact PySem.W.kat_no (oneLt_int ⟨rfl, rfl⟩)
theorem nest_firsts {h : Heap} {k : Value → Int × List Int} : ∀ {vs : List Value}, (∀ v ∈ vs, Nest h v (k v).1 (k v).2) → ∃ fs : List Value, PySem.W.KatTups h vs fs ∧ fs.length = vs.length ∧ ∀ f ∈ fs, ∃ x t, f = Value.int x t
  | [], _ => ⟨[], PySem.W.KatTups.nil, rfl, fun _ z => nomatch z⟩
  | v :: vs, hp => by
    obtain ⟨fs, q1, q2, q3⟩ := nest_firsts fun v' z => hp v' (List.mem_cons_of_mem _ z)
    obtain ⟨a, b, oj, t, n, vls, e, hob, hc, hd, _⟩ := hp v (List.mem_cons_self ..)
    rw [e]
    refine ⟨.int _ t :: fs, PySem.W.KatTups.cons hob hc hd rfl q1, congrArg (· + 1) q2, fun f z => ?_⟩
    rcases List.mem_cons.mp z with z | z
    · exact ⟨_, t, z⟩
    · exact q3 f z
theorem nest_sortable {a : Addr} {vs : List Value} {k : Value → Int × List Int} (h0 : 0 < vs.length) (hu : A.units + 1 < cLine) (hp : ∀ v ∈ vs, Nest s.heap v (k v).1 (k v).2) (ha : ∀ oj, s.heap.get? a = some oj → oj.cls ≠ .type "tuple") :
    SortableO prog w A s a vs fun v u => HT.lexLt ((k v).1 :: (k v).2) ((k u).1 :: (k u).2) := by
  intro h' keep
  have hp' : ∀ v ∈ vs, Nest h' v (k v).1 (k v).2 := fun v z => (hp v z).kept fun b oj e c => keep b oj (fun z => ha oj (z ▸ e) c) e
  obtain ⟨fs, q1, q2, q3⟩ := nest_firsts hp'
  refine ⟨tuples' true, fun Qq E hsq => PySem.W.kat_kind (T := .type "int") q1 (by omega) (fun f z => ?_) (by rfl) ?_, nest_cmp hp' hu⟩
  · obtain ⟨x, t, e⟩ := q3 f z
    rw [e]
    exact PySem.W.Looks.now
  · rw [show (Value.type "int" != Value.type "tuple") = true by decide +kernel]
    exact hsq
end
section
variable {X : Cx}
/-- k says what stands at each item -/
def rSortedN (K : PySem.W.Frag) : List V → Hp → VK → Prop := fun vs Hh Qq => ∃ (a : Addr) (vxs : List V) (k : V → Int × List Int), vs = [V.ref a] ∧ SqL K Hh a vxs ∧ (∀ x ∈ vxs, ∃ t b, x = V.ref t ∧ Hh t = some (.tup [.int (k x).1, .ref b]) ∧ Hh b = some (.tup ((k x).2.map V.int))) ∧
  ∀ yms p, Srtd (fun v u => HT.lexLt ((k v).1 :: (k v).2) ((k u).1 :: (k u).2)) yms → yms.Perm vxs → Hh p = none → Qq (.ref p) (upd Hh p (.lst yms))
theorem cr_sortedN (hu : X.A.units + 64 < cLine) : CallR X (.builtin "sorted") (rSortedN X.K) := by
  intro pns s σs Hh vs uvs Qq Iv r h
  obtain ⟨a, vxs, k, rfl, hs, hx, qq⟩ := h
  obtain ⟨vls, rlv, hlst, hszz⟩ := Iv.list hs
  rw [Vals.ref1 r]
  obtain ⟨e1, ee2⟩ := refs_back rlv fun x m => let ⟨t, _, e, _⟩ := hx x m; ⟨t, e⟩
  have nst : ∀ v ∈ vls, Nest s.heap v (k (backV v)).1 (k (backV v)).2 := fun v hval => by
    obtain ⟨t, rfl⟩ := ee2 v hval
    obtain ⟨t', b, et, hh1, hh2⟩ := hx (V.ref t) (by rw [e1]; exact List.mem_map.mpr ⟨_, hval, rfl⟩)
    cases et
    obtain ⟨_, jts, r2, oj, hob, hc, n, hd⟩ := Iv.hok _ _ hh1
    obtain ⟨u1, u2, rfl, ⟨t1, rfl⟩, r3⟩ := vals2 r2
    obtain rfl : u2 = Value.ref b := r3
    obtain ⟨_, kts, r4, p4⟩ := Iv.hok _ _ hh2
    exact ⟨t, b, oj, t1, n, kts, rfl, hob, hc, hd, p4, r4.ints⟩
  refine sorted_ord (NtL.swo_lexL fun u : Value => (k (backV u)).1 :: (k (backV u)).2) hlst.isList (by rw [← rlv.length]; exact hszz) (fun hh2 h₁ a' ha kk => ?_) fun out hh1 hh2 => ?_
  · refine nest_sortable (s := { s with heap := h₁ }) (k := fun u => k (backV u)) (by omega) (show X.A.units + 1 + 1 + 1 < cLine by omega) (fun v hval => (nst v hval).kept fun b oj e _ => (kk b oj e).2) fun oj e c => ?_
    cases e.symm.trans ha
    exact absurd (Value.type.inj c) (by decide)
  · have h3 : ∀ u ∈ out, ∃ a, u = Value.ref a := fun u hu => ee2 u (hh2.perm.mem_iff.mp hu)
    have hp : (out.map backV).Perm vxs := by rw [e1]; exact hh2.perm.map backV
    obtain ⟨n, hnn⟩ := PyProof.Rows.sortedAll_at s.heap vls out.toArray
    exact ⟨.ref _, upd Hh (s.heap.objs.size + 1) (.lst (out.map backV)), Iv.laid (t' := s.toks) (fun _ _ => PyProof.Rows.sortedAll_old) (Nat.le_succ _) ⟨by rw [hp.length_eq]; exact hszz, out, n, vals_back h3, hnn⟩, rfl,
      qq _ _ (List.pairwise_map.mpr hh1) hp (Iv.hok.fresh (Nat.le_succ _))⟩
end
end Rg
namespace Rg
open PySem PySem.Spec PyProof.Rows L2
/-! tuple(list), whose object is known to have no dict: so that vls methods can be called -/
section
variable {X : Cx}
def rTupF (K : PySem.W.Frag) : List V → Hp → VK → Prop := fun vxs Hh Qq => ∃ p yms, vxs = [V.ref p] ∧ SqL K Hh p yms ∧ ∀ l oj, Hh l = none → oj.dict = none → Qq (.ref l) (upd Hh l (.frz oj (.tup yms)))
theorem cr_tupF : CallR X (.type "tuple") (rTupF X.K) := by
  intro pns s σs Hh vxs uvs Qq Iv r ⟨p, yms, e, hsq, qq⟩
  subst e
  obtain ⟨u, rfl, rlx⟩ := vals1 r
  cases rlx
  obtain ⟨vls, rlv, pl, sz⟩ := Iv.list hsq
  have hnn := rlv.length
  refine call_tuple_list pl.isList (fun hh1 kp => ?_) (by rw [List.size_toArray]; omega)
  have J : Inv X pns σs Hh { s with heap := hh1 } := Iv.kept (t' := s.toks) kp
  have J2 : Inv X pns σs (upd Hh hh1.objs.size (.frz { cls := .type "tuple", data := .seq vls.toArray } (.tup yms))) { s with heap := hh1.push { cls := .type "tuple", data := .seq vls.toArray } } :=
    J.laid (t' := s.toks) (fun b oj e => Heap.get?_push_of_some _ e) (Nat.le_refl _)
      (show ObjOk X.prog X.w _ _ _ (.frz _ (.tup yms)) from ⟨Heap.get?_push_size _ rfl, sz, vls, rlv, IsTup.new _ _⟩)
  exact ⟨.ref hh1.objs.size, _, J2, rfl, qq _ _ (J.hok.fresh (Nat.le_refl _)) rfl⟩
def tyTF (x : V) (Hh : Hp) : Prop := ∃ a oj yms, x = .ref a ∧ Hh a = some (.frz oj (.tup yms)) ∧ oj.dict = none
theorem ty_tf : TyOk X "tuple" tyTF := by
  intro pns σs Hh s x v Iv r ⟨a, oj, yms, e, h, hd⟩
  subst e
  cases r
  obtain ⟨e, _, vls, _, o2, ee2, hc, _⟩ := (show ObjOk X.prog X.w Hh s.heap a (.frz oj (.tup yms)) from Iv.hok a _ h)
  refine ⟨⟨_, ee2, hc⟩, fun b qq => ?_⟩
  cases qq
  exact ⟨oj, e, hd⟩
end
end Rg
namespace Rg
open PySem PySem.Spec PyProof.Rows L2
/-! ### x != y, x == y of instances whose class has an own == and no own != -/
section
variable {prog : Program} {w : World} {A : Around} {E : Value → Shared → Prop} {s : Shared} {K : PySem.W.Frag} {x C L f : Addr} {h₀ : Heap} {m : Str → Option Value} {ox : Obj} {od : Option Obj} {b tb : Value}
theorem boundNe {M : Model} {args : List Value} {Q : Option Value → Shared → Prop} (Xk : K.In s.heap) (Ia : PySem.W.InstAt s.heap x ox C od) (hs : PySem.W.findIn K (.ref C) "__ne__" = some (some (.builtin "object.__ne__")))
    (h : wpAny M A (call (.builtin "object.__ne__") (.ref x :: args)) (fun v => Q (some v)) E s) : wpAny M A (callSpecialIfBound? (.ref x) "__ne__" args) Q E s := by
  simp only [callSpecialIfBound?, bindSpecialIfBound?]
  refine wpAny_holding (wpAny_bind (wpAny_bind (wpAny_bind (Ia.type.here ((PySem.W.looks_findIn Xk hs).here ?_)))))
  dsimp only
  simp only [F.cmp_object.ne.bind]
  refine wpAny_bind (wpAny_askSetting (wpAny_ite ?_))
  have fin : wpAny M A (call (.builtin "object.__ne__") ([.ref x] ++ args) >>= fun v => pure (some v)) Q E s := wpAny_bind (wpAny_mono h (fun v s' h' => wpAny_pure h') fun _ _ h' => h')
  split
  · exact wpAny_bind (wpAny_pure (wpAny_pure fin))
  · exact wpAny_tryCatch (wpAny_bind (wpAny_pure (wpAny_pure fin)))
theorem checkNe {M : Model} {Q : Unit → Shared → Prop} (Xk : K.In s.heap) (Ia : PySem.W.InstAt s.heap x ox C od) (ho : PySem.W.subIn K (.ref C) (.type "object") = some true) (hq : Q () s) : wpAny M A (checkBuiltinCall "object.__ne__" ⟨[.ref x, b], []⟩) Q E s := by
  simp only [checkBuiltinCall, F.cmpKind_ne, F.cmpSplit_ne]
  refine wpAny_bind ?_
  unfold isInstance
  refine wpAny_bind (Ia.type.here ((PySem.W.looks_subIn Xk ho).here ?_))
  simp only [Bool.not_true, Bool.false_eq_true, if_false]
  have ha := F.cmpArgs_ne (.ref x) b
  cases hsig : Manifest.signature? "object.__ne__" with
  | none => exact wpAny_pure hq
  | some sig =>
    simp only [argsOk, hsig] at ha
    have h2 : Bind.checkArgs "object.__ne__" sig ⟨[.ref x, b], []⟩ = pure () := ha
    show wpAny M A (Bind.checkArgs "object.__ne__" sig ⟨[.ref x, b], []⟩) Q E _
    rw [h2]; exact wpAny_pure hq
theorem objNeK {Q : Fin → Shared → Prop} (Xk : K.In s.heap) (Ia : PySem.W.InstAt s.heap x ox C od) (hs : PySem.W.findIn K (.ref C) "__eq__" = some (some (.ref f))) (hf : PySem.W.isFn K (.ref f) = true) (hu : A.units < cLine)
    (h : wpAny (model prog w) A (call (.ref f) [.ref x, b]) (fun v s' => ∃ r, v = .bool r ∧ Q (.done (.ret (.bool (!r)))) s') E s) :
    wpAny (model prog w) A (Builtin.«object.__ne__» ⟨[.ref x, b], []⟩) Q E s := by
  unfold Builtin.«object.__ne__»
  repeat (first
    | with_reducible refine wpAny_cRoomFor hu ?_
    | (refine wpAny_bind (m := callSpecialIfBound? (.ref x) (Str.ofString "__eq__") [b])
        (PySem.W.ifBound_K Xk Ia hs hf (wpAny_mono h (fun r s' hr => by
          obtain ⟨b, rfl, hq⟩ := hr
          repeat (first | exact hq | exact wpAny_pure hq | exact wpAny_truthy_bool hq | (refine wpAny_bind (m := truthy (.bool _)) (wpAny_truthy_bool ?_)) | wp_step)) fun _ _ e => e)))
    | wp_step)
theorem neK {Q : Value → Shared → Prop} (hu : A.units + 1 < cLine) (Fr0 : Fr h₀ L s.heap m) (X₀ : K.In h₀) (Ia : PySem.W.InstAt s.heap x ox C od) (hb : PySem.W.Looks (model prog w) s.heap (typeOf b) tb) (hn : PySem.W.notFirst K C tb = true)
    (hne : PySem.W.findIn K (.ref C) "__ne__" = some (some (.builtin "object.__ne__"))) (ho : PySem.W.subIn K (.ref C) (.type "object") = some true) (hs : PySem.W.findIn K (.ref C) "__eq__" = some (some (.ref f))) (hf : PySem.W.isFn K (.ref f) = true)
    (h : wpAny (model prog w) A.in1 (call (.ref f) [.ref x, b]) (fun v s' => ∃ r, v = .bool r ∧ Q (.bool (!r)) s') E s) : wpAny (model prog w) A (richCompare .NotEq (.ref x) b) Q E s := by
  have Xk := X₀.keeps Fr0.keep
  have one : wpAny (model prog w) A (tryCompare (.ref x) "__ne__" b) (fun r s' => ∃ v, r = some v ∧ Q v s') E s := by
    unfold tryCompare
    refine wpAny_bind (boundNe Xk Ia hne (wpAny_call (codeAny_call_builtin F.cmp_object.ne.plain F.cmpEntry_ne (checkNe Xk Ia ho (objNeK (A := A.in1) Xk Ia hs hf hu (wpAny_mono h (fun v s' hv => ?_) fun _ _ e => e))))))
    obtain ⟨r, rfl, hq⟩ := hv
    exact ⟨r, rfl, wpAny_pure ⟨_, rfl, hq⟩⟩
  unfold richCompare
  simp only [oneThing_ref]
  refine wpAny_holding (wpAny_bind (wpAny_cRoomFor (Nat.lt_of_succ_lt hu) ?_))
  refine wpAny_bind (Ia.type.here (wpAny_bind (hb.here ?_)))
  split
  · rename_i q
    have e : PySem.W.subIn K tb (.ref C) = some false := by
      rcases Bool.or_eq_true_iff.mp hn with e | e
      · rw [beq_iff_eq.mp e] at q; simp at q
      · exact beq_iff_eq.mp e
    refine wpAny_bind ((PySem.W.looks_subIn Xk e).here ?_)
    simp only [Bool.false_eq_true, if_false]
    refine wpAny_bind (wpAny_mono one (fun r s' z => ?_) fun _ _ e => e)
    obtain ⟨v, rfl, hq⟩ := z
    exact wpAny_pure hq
  · refine wpAny_bind (wpAny_pure ?_)
    simp only [Bool.false_eq_true, if_false]
    refine wpAny_bind (wpAny_mono one (fun r s' z => ?_) fun _ _ e => e)
    obtain ⟨v, rfl, hq⟩ := z
    exact wpAny_pure hq
end
section
variable {X : Cx} {n : Nat} {C f : Addr} {fd : FuncData} {ps : List Str} {sp : Sp}
/-- both are instances of C; what the own == says of them, as a bool -/
def rInsEq (C : Addr) (sp : Sp) : R2 := fun x y H Q => ∃ a b dx dy fs gs, x = .ref a ∧ y = .ref b ∧ H a = some (.ins C dx fs) ∧ H b = some (.ins C dy gs) ∧ sp [.ref a, .ref b] H (fun v H' => ∃ r, v = .bl r ∧ Q (.bl r) H') E0
def rInsNe (C : Addr) (sp : Sp) : R2 := fun x y H Q => ∃ a b dx dy fs gs, x = .ref a ∧ y = .ref b ∧ H a = some (.ins C dx fs) ∧ H b = some (.ins C dy gs) ∧ sp [.ref a, .ref b] H (fun v H' => ∃ r, v = .bl r ∧ Q (.bl (!r)) H') E0
theorem op_insNe (F : FnOk X.prog X.w X.K X.mg X.base CX0 n f fd ps sp) (hne : PySem.W.findIn X.K (.ref C) "__ne__" = some (some (.builtin "object.__ne__"))) (ho : PySem.W.subIn X.K (.ref C) (.type "object") = some true)
    (hs : PySem.W.findIn X.K (.ref C) "__eq__" = some (some (.ref f))) (hf : PySem.W.isFn X.K (.ref f) = true) (hb : Binds X.K fd ps []) (hr : Room (n + 1) X.A) : OpR X (compareOp .NotEq) (rInsNe C sp) := by
  intro pins s σ H x y u v Q I rx ry ⟨a, b, dx, dy, fs, gs, ex, ey, ha, hb', hsp⟩
  subst ex ey
  cases rx
  cases ry
  obtain ⟨mA, J, _⟩ := ins_get I.hok ha
  obtain ⟨mB, J', _⟩ := ins_get I.hok hb'
  obtain ⟨od, J, _⟩ := J.look
  obtain ⟨od', J', _⟩ := J'.look
  obtain ⟨m, hF⟩ := I.fr
  show wpAny (model X.prog X.w) X.A (richCompare .NotEq (.ref a) (.ref b)) (EP X pins σ Q) X.xe s
  refine neK (tb := .ref C) (by have := hr.un; omega) hF I.ok.mod.kin J J'.type (by simp [PySem.W.notFirst]) hne ho hs hf ?_
  have hl := F.len _ _ _ _ hsp
  have r2 : Vals [V.ref a, V.ref b] [Value.ref a, Value.ref b] := .cons rfl (.cons rfl .nil)
  refine wpAny_call (codeAny_mono (F.run X.A.in1 X.stack s H ⟨[.ref a, .ref b], []⟩ [.ref a, .ref b] [.ref a, .ref b] _ E0 hr.in1 I.env0.in1 (by
    have := hb s [.ref a, .ref b] I.kIn (by simpa using hl)
    simpa using this) r2 hsp) fun r s' hq => ?_)
  cases r with
  | error e => exact hq.elim
  | ok fl =>
    cases fl with
    | ret w =>
      obtain ⟨z, H', I', rz, r0, ez, q⟩ := I.after hq
      subst ez
      cases rz
      exact ⟨r0, rfl, .bl (!r0), H', I', rfl, q⟩
    | next => exact False.elim hq
    | brk => exact False.elim hq
    | cont => exact False.elim hq
theorem op_insEq (F : FnOk X.prog X.w X.K X.mg X.base CX0 n f fd ps sp)
    (hs : PySem.W.findIn X.K (.ref C) "__eq__" = some (some (.ref f))) (hf : PySem.W.isFn X.K (.ref f) = true) (hb : Binds X.K fd ps []) (hr : Room n X.A) : OpR X (compareOp .Eq) (rInsEq C sp) := by
  intro pins s σ H x y u v Q I rx ry ⟨a, b, dx, dy, fs, gs, ex, ey, ha, hb', hsp⟩
  subst ex ey
  cases rx
  cases ry
  obtain ⟨mA, J, _⟩ := ins_get I.hok ha
  obtain ⟨mB, J', _⟩ := ins_get I.hok hb'
  obtain ⟨od, J, _⟩ := J.look
  obtain ⟨od', J', _⟩ := J'.look
  obtain ⟨m, hF⟩ := I.fr
  show wpAny (model X.prog X.w) X.A (richCompare .Eq (.ref a) (.ref b)) (EP X pins σ Q) X.xe s
  refine PySem.W.cmp_K (op := .Eq) (tb := .ref C) hr.units0 hF I.ok.mod.kin J J'.type (by simp [PySem.W.notFirst]) hs hf ?_
  have hl := F.len _ _ _ _ hsp
  have r2 : Vals [V.ref a, V.ref b] [Value.ref a, Value.ref b] := .cons rfl (.cons rfl .nil)
  refine wpAny_call (codeAny_mono (F.run X.A X.stack s H ⟨[.ref a, .ref b], []⟩ [.ref a, .ref b] [.ref a, .ref b] _ E0 hr I.env0 (by
    have := hb s [.ref a, .ref b] I.kIn (by simpa using hl)
    simpa using this) r2 hsp) fun r s' hq => ?_)
  cases r with
  | error e => exact hq.elim
  | ok fl =>
    cases fl with
    | ret w =>
      obtain ⟨z, H', I', rz, r0, ez, q⟩ := I.after hq
      subst ez
      cases rz
      exact ⟨.bl r0, H', I', rfl, q⟩
    | next => exact False.elim hq
    | brk => exact False.elim hq
    | cont => exact False.elim hq
end
end Rg
namespace Rg
open PySem PySem.Spec PyProof.Rows L2 LamX
/-! ### sorted(lots, key=lambda lot: (len(lot), lot)), lots tuples of ints -/
theorem reads_intsN {h : Heap} : ∀ {vs : List Value} {nms : List Int}, IntsAre vs nms → ReadsAll h vs (nms.map PyData.int) []
  | _, _, .nil => .nil
  | _, _, .cons i t r => .cons (.int i t) (reads_intsN r)
def lotKey (l : List Int) : PyData := .tuple [.int (l.length : Nat), .tuple (l.map PyData.int)]
theorem alike_lotKey (a b : List Int) : PySem.W.alike (lotKey a) (lotKey b) = true := by
  simp [lotKey, PySem.W.alike, PySem.W.alikeAll, PySem.W.alike_ints]
theorem depth_lotKey (a : List Int) : (lotKey a).depth ≤ 4 := by
  simp [lotKey, PyData.depth, PyData.depthAll, PySem.W.depth_ints]
theorem eqvA_ints8 : ∀ vxs yms : List Int, PyData.eqvAll (vxs.map PyData.int) (yms.map PyData.int) = decide (vxs = yms)
  | [], [] => by simp [PyData.eqvAll]
  | [], y :: yms => by simp [PyData.eqvAll]
  | x :: vxs, [] => by simp [PyData.eqvAll]
  | x :: vxs, y :: yms => by
    simp only [List.map_cons, PyData.eqvAll, eqvA_ints8 vxs yms, PyData.eqv]
    by_cases e : x = y <;> by_cases f : vxs = yms <;> simp [e, f]
/-- fewer bars first, then as tuples -/
def lotLe (a b : List Int) : Bool := !PySem.W.dataLt (lotKey b) (lotKey a)
section
variable {prog : Program} {w : World} {A : Around} {s : Shared} {h : Heap}
theorem lotkey_turn {tk : Nat} {f c' t : Addr} {q y : Str} {params : Arguments} {scope : Scope} {pm ctv : Value} {p1 p2 p3 p4 p5 : Pos} {x1 : Nat} {mg mb : Str → Option Value} {ns : List Int} {its : List Value}
    (hroom : A.depth < recursionLimit)
    (hf : h.get? f = some (PySem.W.kla_obj "<lambda>" q params (.Tuple [.Call (.Name "len" p1) [.Name y p2] [] p3, .Name y p4] x1 p5) scope [] pm c' ctv))
    (hco : scope.isCoroutine = false) (hgen : scope.isGenerator = false) (hk : scope.kind = .function)
    (hcell : ∀ x ∈ scope.names, x.2 ≠ .cell) (hy : scope.names.lookup y = some .local) (hlen : scope.names.lookup ("len" : Str) = some .globalImplicit)
    (hbind : ∀ v : Value, bindArgs (PySem.W.kla_fn "<lambda>" q params (.Tuple [.Call (.Name "len" p1) [.Name y p2] [] p3, .Name y p4] x1 p5) scope [] pm (.ref c') ctv) ⟨[v], []⟩ = pure [(y, v)])
    (hcd : h.CodeRec (.ref c') q) (hg : h.Ns mainGlobals mg) (hm : mg ("len" : Str) = none) (hb : h.Ns builtinsNs mb) (hmb : mb ("len" : Str) = some (.builtin "len")) (hnl : h.NoLimit)
    (ht : IsTup h t its.toArray) (hi : IntsAre its ns) (hz : its.length ≤ sizeLine) (hyd : (y == ("__debug__" : Str)) = false) :
    wpAny (model prog w) A (call (.ref f) [.ref t]) (PySem.W.KeyPure (lotKey ns) { s with heap := h, toks := tk }) (fun _ _ => False) { s with heap := h, toks := tk } := by
  refine wpAny_call (PySem.W.kla_callFunE hroom hf rfl hco hgen rfl hcd ?_)
  rw [hbind]
  refine wpAny_pure (wpAny_newFunctionEnv hcell (fun z hz => by rw [List.mem_singleton.mp hz]; exact hy) (fun h₁ hns hsb => ⟨hnl.fresh _ hsb, ?_⟩) hk)
  have kp : ∀ b o, h.get? b = some o → h₁.get? b = some o := fun b o e => hsb.extBut b o (Nat.ne_of_lt (Heap.lt_size e)) (Heap.get?_push_of_some _ e)
  show codeAny _ _ (.expr _ (PySem.W.envX q scope h.objs.size f (.ref c') [])) _ _
  refine PySem.W.kla_codeExpr ?_
  refine wpAny_Tuple_spliced ?_
  have rd : ∀ (A' : Around) (tk' : Nat) (pos : Pos) (Q : Value → Shared → Prop) (E : Value → Shared → Prop), Q (.ref t) { s with heap := h₁, toks := tk' } → wpAny (model prog w) A' (eval (.Name y pos) (PySem.W.envX q scope h.objs.size f (.ref c') [])) Q E { s with heap := h₁, toks := tk' } := fun A' tk' pos Q E hQ =>
    wpAny_Name (wpAny_loadName_local hk hy hns (by show ([(y, Value.ref t)].reverse).lookup y = _; simp) hQ) hyd
  refine Calls.spliced_cons (wpAny_Call_Name_kw (Calls.Name_function_global hk hlen (Calls.loadGlobal_builtin (hg.keeps kp) hm (hb.keeps kp) hmb ?_)))
  refine PyProof.Rows.callWith_builtin1 (Calls.spliced_cons (rd _ _ _ _ _ (Calls.spliced_nil ?_))) rfl rfl
  refine len_tuple (ht.keeps kp) ?_ ?_
  · have := line63
    simp only [List.size_toArray]
    omega
  refine Calls.spliced_cons (rd _ _ _ _ _ (Calls.spliced_nil ⟨by show 2 ≤ sizeLine; decide, ?_⟩))
  refine ⟨_, _, rfl, fun b o e => Heap.get?_push_of_some _ (kp b o e), ?_⟩
  obtain ⟨o, ho, hc, n, hd⟩ := ht.keeps kp
  refine Reads.tuple (Heap.get?_push_size _ rfl) rfl rfl ?_
  show ReadsAll _ [.int (its.toArray.size : Nat) _, .ref t] [.int (ns.length : Nat), .tuple (ns.map .int)] []
  have e1 : its.toArray.size = ns.length := by rw [List.size_toArray, hi.length]
  rw [e1]
  exact ReadsAll.cons (.int _ _) (ReadsAll.cons (Reads.tuple (Heap.get?_push_of_some _ ho) hc hd (reads_intsN hi)) .nil)
end
theorem each_vals : ∀ {out : List Value} {ys : List V}, PySem.W.EachIs (fun u x => RelV x u) out ys → Vals ys out
  | _, _, .nil => .nil
  | _, _, .cons r t => .cons r (each_vals t)
theorem vals_each : ∀ {ys : List V} {out : List Value}, Vals ys out → PySem.W.EachIs (fun u x => RelV x u) out ys
  | _, _, .nil => .nil
  | _, _, .cons r t => .cons r (vals_each t)
section
variable {X : Cx}
/-- sorted(e, key=the lambda) -/
def tSortLots (K : PySem.W.Frag) (T : List (Addr × Str)) (te : TE) : TE := fun σ H Q => te σ H fun v H1 => ∃ (a : Addr) (xs : List V) (k : V → List Int), v = .ref a ∧ SqL K H1 a xs ∧ (∀ x ∈ xs, ∃ t, x = V.ref t ∧ H1 t = some (.tup ((k x).map V.int))) ∧ Tabs T H1 ∧
  ∀ (H2 : Hp) (p : Addr) (ys : List V), ExtN H1 H2 → Tabs T H2 → ys.Perm xs → (ys.Pairwise fun u v => lotLe (k u) (k v) = true) → H2 p = none → Q (.ref p) (upd H2 p (.lst ys))
theorem pe_sortLots {T : List (Addr × Str)} {c P : Addr} {y : Str} {params : Arguments} {scope : Scope} {p p1 p2 p3 p4 p5 lpos kpos pos : Pos} {x1 : Nat} {e : Expr} {te : TE}
    (hdp : X.A.depth < recursionLimit) (hu : X.A.units + 64 < cLine) (hgS : Gl X ("sorted" : Str)) (hmS : X.mg ("sorted" : Str) = none) (hmL : X.mg ("len" : Str) = none) (he : PE X e te)
    (TB : TabB X.base X.mg c P) (hcode : X.env.code = .ref c) (hmT : (P, X.env.qual ++ "<lambda>") ∈ T) (huT : ∀ p ∈ T, p.1 = P → p.2 = X.env.qual ++ "<lambda>")
    (hdef : defaultsOf params X.env = ([], [])) (hco : scope.isCoroutine = false) (hgen : scope.isGenerator = false) (hk : scope.kind = .function)
    (hcell : ∀ x ∈ scope.names, x.2 ≠ .cell ∧ x.2 ≠ .free) (hy : scope.names.lookup y = some .local) (hlen : scope.names.lookup ("len" : Str) = some .globalImplicit) (hclo : cloFrom X.env.cells scope.names [] = [])
    (hbind : ∀ (q : Str) (pm cv ctv v : Value), bindArgs (PySem.W.kla_fn "<lambda>" q params (.Tuple [.Call (.Name "len" p1) [.Name y p2] [] p3, .Name y p4] x1 p5) scope [] pm cv ctv) ⟨[v], []⟩ = pure [(y, v)])
    (hyd : (y == ("__debug__" : Str)) = false := by decide)
    (hes : backTo pos (starEach [e] X.env) = [(false, eval e X.env)] := by rfl) :
    PE X (.Call (.Name "sorted" p) [e] [⟨some "key", .Lambda params (.Tuple [.Call (.Name "len" p1) [.Name y p2] [] p3, .Name y p4] x1 p5) scope lpos, kpos⟩] pos) (tSortLots X.K T te) := by
  refine ⟨fun pins s σ H Q I h => ?_⟩
  refine wpAny_Call_Name_kw (ld_blt I hgS hmS (u := .builtin "sorted") (by decide +kernel) ?_ (by decide) (by decide))
  refine PyProof.Rows.callWith_kw ?_ hes (by rw [hes]; rfl) rfl rfl
  rw [hes]
  refine Calls.spliced_cons (thn (he.run pins s σ H _ I h) fun u s1 ⟨v, H1, I1, r1, q1⟩ => Calls.spliced_nil ?_)
  obtain ⟨a, xs, k, rfl, hs, hx, hT, q⟩ := q1
  obtain rfl : u = Value.ref a := r1
  show wpAny _ _ (evalAll [do let v ← eval (.Lambda params (.Tuple [.Call (.Name "len" p1) [.Name y p2] [] p3, .Name y p4] x1 p5) scope lpos) X.env; standAt pos; pure v]) _ _ _
  refine wpAny_evalAll_cons (wpAny_bind ?_)
  refine lam_make2 I1 TB hcode hmT huT hT hdef (fun z hz ef => absurd ef (hcell z hz).2) fun f c' pm ctv H2 s2 I2 eN T2 hf hfn hfr hco2 => ?_
  rw [hclo] at hf
  refine wpAny_bind (wpAny_standAt (wpAny_pure ?_))
  refine wpAny_evalAll_nil ?_
  show wpAny _ _ (call (.builtin "sorted") [.ref a] [(Str.ofString "key", .ref f)]) _ _ s2
  have hs2 : SqL X.K H2 a xs := by
    rcases hs with (hs | ⟨o, hs⟩) | hs
    · exact .inl (.inl (eN _ _ hs (fun _ z => nomatch z)))
    · exact .inl (.inr ⟨o, eN _ _ hs (fun _ z => nomatch z)⟩)
    · exact .inr hs
  obtain ⟨its, rv, hl, hsz⟩ := I2.list hs2
  have hx2 : ∀ x ∈ xs, ∃ t, x = V.ref t ∧ H2 t = some (.tup ((k x).map V.int)) := fun x m => let ⟨t, e1, e2⟩ := hx x m; ⟨t, e1, eN _ _ e2 (fun _ z => nomatch z)⟩
  obtain ⟨⟨oc, cvs, ct, hoc, hdc, hvc⟩, _, _⟩ := I2.hok c' _ hco2
  obtain ⟨mb, hb1, hb2⟩ := I2.mod.blt
  refine PySem.W.sorted_key_data (β := V) (R := fun u x => RelV x u) (fun x => lotKey (k x)) hl.isList (vals_each rv) (PySem.W.AllAlike.of fun b b' => alike_lotKey _ _) (PySem.W.Sortable.tuples fun b => ⟨_, _, rfl⟩) hsz
    (fun x _ => by have := depth_lotKey (k x); omega) (PyProof.Rows.ksk_s1 _ _) (fun _ => PyProof.Rows.ksk_l1 _ _) (fun x => PyProof.Rows.ksk_t1 f x) ?_ ?_
  · intro v x hR hxm h' tk' hk'
    obtain ⟨t, rfl, ht⟩ := hx2 x hxm
    obtain rfl : v = Value.ref t := hR
    obtain ⟨hz, jts, rj, tj⟩ := I2.hok t _ ht
    refine lotkey_turn (hroom := hdp) (hk' _ _ hf) hco hgen hk (fun z hz => (hcell z hz).1) hy hlen (fun v => hbind _ _ _ _ v) ⟨c', oc, cvs, ct, rfl, hk' _ _ hoc, hdc, hvc⟩
      ((I2.mod.glob.keeps I2.bk).keeps hk') hmL ((hb1.keeps I2.bk).keeps hk') ((hb2 _ (by decide)).trans PySem.boot_len) (I2.nolimit.keeps hk') (tj.keeps hk') rj.ints (by rw [← rj.length]; exact hz) hyd
  · intro out cc h' tk' hk' hfr' hnew hol heach
    have hpm : (xs.mergeSort (PySem.W.dataLe false fun x => lotKey (k x))).Perm xs := List.mergeSort_perm ..
    refine ⟨.ref (s2.heap.objs.size + 1), upd H2 (s2.heap.objs.size + 1) (.lst (xs.mergeSort (PySem.W.dataLe false fun x => lotKey (k x)))), I2.laid (t' := tk') hk' (Nat.le_succ _) ?_, rfl, ?_⟩
    · exact ⟨by rw [hpm.length_eq]; exact hsz, out, cc, each_vals heach, hnew⟩
    · have nf : H2 (s2.heap.objs.size + 1) = none := I2.hok.fresh (Nat.le_succ _)
      refine q _ _ _ eN T2 hpm ?_ nf
      have z := PySem.W.sortLe_total (listOrd itemOrd) false (fun x : V => PySem.W.keyToks (lotKey (k x)))
      exact List.pairwise_mergeSort (le := PySem.W.dataLe false fun x => lotKey (k x)) (fun a b c => z.trans a b c) (fun a b => Bool.or_eq_true _ _ |>.mpr (z.total a b)) xs
end
end Rg
namespace Rg
open PySem PySem.Spec PyProof.Rows L2
/-! ### enumerate(t), t a tuple -/
theorem meets_enum1 {v : Value} {ob : Obj} {Hz : Heap → Prop} (B : Begins v ob Hz) :
    Meets (Builtin.«enumerate.__new__» ⟨[.type "enumerate", v], []⟩) (fun _ R s => Hz s.heap ∧
      R (.ok (.ret (.ref (s.heap.push ob).objs.size))) { s with heap := (s.heap.push ob).push { cls := .type "enumerate", data := .fields #[.none, .bool false, .ref s.heap.objs.size, rawInt 0, .none, .none] } }) :=
  .of_wp fun prog w A R s h => by
    obtain ⟨hp, gg, dd, tk, os⟩ := s
    obtain ⟨hz, h⟩ := h
    have hsub := sub_enumerate
    have go : ∀ {A' : Around} {E' : Value → Shared → Prop} {Q' : Value → Shared → Prop}, Q' (.ref hp.objs.size) ⟨hp.push ob, gg, dd, tk, os⟩ → wpAny (model prog w) A' (pyIter v) Q' E' ⟨hp, gg, dd, tk, os⟩ :=
      fun q => B.iter prog w _ _ ⟨hp, gg, dd, tk, os⟩ _ hz q
    wp_walk using go
    refine wpAny_stack_any fun st => wpAny_pure ?_
    split
    · rename_i c _ _ _ _ _
      cases (c == Value.type "enumerate")
      · wp_walk using go
        exact ⟨_, rfl, h⟩
      · wp_walk using go
        exact ⟨_, rfl, h⟩
    · wp_walk using go
      exact ⟨_, rfl, h⟩
section
variable {prog : Program} {w : World} {A : Around} {E : Value → Shared → Prop} {s : Shared}
theorem call_enum1 {v : Value} {ob : Obj} {Hz : Heap → Prop} {Q : Value → Shared → Prop} (B : Begins v ob Hz) (hz : Hz s.heap)
    (k : ∀ g, IsEnum g (s.heap.objs.size + 1) s.heap.objs.size 0 .none → g.get? s.heap.objs.size = some ob → (∀ c u, s.heap.get? c = some u → g.get? c = some u) → Q (.ref (s.heap.objs.size + 1)) { s with heap := g }) :
    wpAny (model prog w) A (call (.type "enumerate") [v]) Q E s := by
  refine callType_new F.called_enumerate (by decide) (F.typeCall_enumerate_1 _) (F.newCall_enumerate_1 _) (fun obj => F.args_object_init_2 obj _) F.entry_enumerate_new (meets_enum1 B) ⟨hz, ?_⟩
  have sz : (s.heap.push ob).objs.size = s.heap.objs.size + 1 := Heap.size_push ..
  show _ ∧ _
  rw [sz]
  have ie : IsEnum ((s.heap.push ob).push { cls := .type "enumerate", data := .fields #[.none, .bool false, .ref s.heap.objs.size, rawInt 0, .none, .none] }) (s.heap.objs.size + 1) s.heap.objs.size 0 .none := by
    have z := Heap.get?_push_size (s.heap.push ob) (o := { cls := .type "enumerate", data := .fields #[.none, .bool false, .ref s.heap.objs.size, rawInt 0, .none, .none] }) rfl
    rw [sz] at z
    exact z
  exact ⟨⟨_, ie, rfl⟩, k _ ie (Heap.get?_push_of_some _ (Heap.get?_push_size _ B.free)) fun c u x => Heap.get?_push_of_some _ (Heap.get?_push_of_some _ x)⟩
end
/-- the tuple at a as it stands at each turn, each item in a new pair -/
def IteT (K : PySem.W.Frag) (a : Addr) : It :=
  ⟨fun i H => ∃ (xs : List V) (x : V), SqT K H a xs ∧ xs[i]? = some x, fun i H v H' => ∃ T x, v = .ref T ∧ H T = none ∧ H' = upd H T (.tup [.int (i : Nat), x]) ∧ ∀ xs, SqT K H a xs → xs[i]? = some x, fun i H => ∃ xs : List V, SqT K H a xs ∧ xs.length ≤ i⟩
theorem turn_enumT {P : Program} {w : World} {K : PySem.W.Frag} {elts : List Expr} {kk : Nat} {tpos : Pos} (a e it : Addr) :
    Turn P w K (.Tuple elts kk tpos) (IteT K a) [e, it] e (fun i h => (∃ old, IsEnum h e it ((i : Nat) : Int) old) ∧ h.IsTupleIter it a i ∧ e ≠ it) where
  mem := List.mem_cons_self ..
  obj := by
    rintro i h ⟨⟨old, he⟩, ⟨o, ho, hc, hd⟩, _⟩ b hb
    rcases List.mem_cons.mp hb with z | z
    · rw [z]; exact ⟨_, he, fun v q => nomatch q⟩
    · rw [List.mem_singleton.mp z]; exact ⟨o, ho, fun v q => by rw [hd] at q; cases q⟩
  keep := by
    rintro i h h' ⟨⟨old, he⟩, hi, hne⟩ k
    exact ⟨⟨old, k e (by simp) _ he⟩, hi.at fun o q => k it (by simp) o q, hne⟩
  item := by
    intro X hP hw hK hc i pins s σ H E I hf st hg
    subst hP hw hK
    obtain ⟨⟨old, he⟩, hit, hne⟩ := st
    obtain ⟨xs, x, hq, hx⟩ := hg
    obtain ⟨its, rv, tp, hz⟩ := I.tuple hq
    obtain ⟨u, hu, ru⟩ := rv.get hx
    have hel : e < s.heap.objs.size := Heap.lt_size he
    have hil : it < s.heap.objs.size := by obtain ⟨_, q, _⟩ := hit; exact Heap.lt_size q
    obtain ⟨ot, hot, hct, nt, hdt⟩ := tp
    have nai : a ≠ it := fun z => by
      obtain ⟨oi, hoi, hci, _⟩ := hit
      rw [← z, hot] at hoi
      cases hoi
      rw [hct] at hci
      exact absurd (Value.type.inj hci) (by decide)
    have nae : a ≠ e := fun z => by
      have he' := he
      rw [IsEnum, ← z, hot] at he'
      cases he'
      exact absurd (Value.type.inj hct) (by decide)
    have hlt : i < its.toArray.size := by
      rw [List.size_toArray]
      exact (List.getElem?_eq_some_iff.mp hu).1
    refine wpAny_pyNext_enum_itemD (Draws.tuple (A := X.A.in1) (I.ok.hd hc) it a nai its.toArray) he ⟨hit, ⟨ot, hot, hct, nt, hdt⟩⟩ hlt hne (by simp [hne, Ne.symm nae]) fun u' g tk hP ho hst' hT hsz hk => ?_
    have eu : u' = u := by
      have h1 : its.toArray[i]? = some u' := hP
      rw [List.getElem?_toArray, hu] at h1
      exact (Option.some.inj h1).symm
    subst eu
    refine ⟨_, rfl, wpAny_letOwnedTupleGo_enum (s := { s with heap := g, toks := tk + 1 }) ho fun g2 he' sb => ?_⟩
    have hT2 : g2.get? s.heap.objs.size = some { cls := .type "tuple", data := .seq #[.int i tk, u'] } := (sb.2 _ (Nat.ne_of_gt hel)).trans hT
    have I1 : Inv X pins σ (upd H s.heap.objs.size (.tup [.int (i : Nat), x])) { s with heap := g2, toks := tk + 1 } :=
      I.turnedNew (ch := [e, it]) (fun b ob hb q => (sb.2 b (fun z => hb (by simp [z]))).trans (hk b ob (fun z => hb (by simp [z])) (fun z => hb (by simp [z])) q)) hf (Nat.le_refl _)
        ⟨by show 2 ≤ sizeLine; decide, [.int i tk, u'], .cons ⟨_, rfl⟩ (.cons ru .nil), ⟨_, hT2, rfl, _, rfl⟩⟩
    refine ⟨.ref s.heap.objs.size, _, I1, rfl, ⟨_, x, rfl, I.hok.fresh (Nat.le_refl _), rfl, fun ys hy => by rw [I.tuple_inj hy hq]; exact hx⟩, ⟨⟨u', ?_⟩, hst'.1.at fun o q => (sb.2 it (Ne.symm hne)).trans q, hne⟩, fun b hb => ?_⟩
    · have e1 : ((i + 1 : Nat) : Int) = (i : Int) + 1 := by omega
      rw [e1]
      exact he'
    · have hb' : b < s.heap.objs.size := by
        rcases List.mem_cons.mp hb with z | z
        · rw [z]; exact hel
        · rw [List.mem_singleton.mp z]; exact hil
      rw [upd_ne (Nat.ne_of_lt hb')]
      exact (hf b hb).1
  done := by
    intro X hP hw hK hc i pins s σ H E I hf st hg
    subst hP hw hK
    obtain ⟨⟨old, he⟩, hit, hne⟩ := st
    obtain ⟨xs, hq, hx⟩ := hg
    obtain ⟨its, rv, tp, hz⟩ := I.tuple hq
    obtain ⟨f0, f1, f2, f3, f4, f5⟩ := hf it (by simp)
    have hl := rv.length
    have hT : s.TypeIs (.ref e) "enumerate" := ⟨_, he, rfl⟩
    unfold pyNext
    refine wpAny_bind (wpAny_attempt (wpAny_callSpecial?_slot (name := Str.ofString "__next__") hT F.slot_enumerate_next
      (wpAny_call_entry F.slot_enumerate_next hT F.entry_enumerate_next ?_ (F.args_enumerate_next_1 _))))
    show wpAny _ _ (field (.ref e) 2 >>= _) _ _ _
    refine wpAny_bind (wpAny_field he rfl (x := .ref it) rfl ?_)
    refine wpAny_bind (wpAny_nextOf_tuple_end (I.ok.hd hc) hit tp (by simp; omega) fun g x eb hx' => ?_)
    obtain ⟨o, ho, hcl⟩ := hx'
    refine wpAny_bind (wpAny_isInstance (T := "StopIteration") (b := true) ⟨o, ho, hcl⟩ isSubtype_stop ?_)
    exact wpAny_pure ⟨rfl, I.turned (t' := s.toks) (fun b o hb q => eb b o hb q) f0 f1 f3 f4 f5⟩
  self := fun A i s Q E st h => let ⟨⟨_, he⟩, _⟩ := st; wpAny_pyIter_enum he h
def iEnumT (K : PySem.W.Frag) (ta : TA) : TI := fun σ H R => ta σ H fun vs H1 => ∃ a xs, vs = [.ref a] ∧ SqT K H1 a xs ∧ R (IteT K a) H1
theorem pi_enumT {X : Cx} {e : Expr} {ta : TA} {p pos tpos : Pos} {elts : List Expr} {kk : Nat} (hg : Gl X "enumerate") (hm : X.mg "enumerate" = none) (ha : PA X [e] ta) (hs : starEach [e] X.env = [(false, eval e X.env)] := by rfl) :
    PI X (.Tuple elts kk tpos) (.Call (.Name "enumerate" p) [e] [] pos) (iEnumT X.K ta) := by
  refine ⟨fun pins s σ H R I h => ?_⟩
  refine Call_ (ld_blt I hg hm boot_enumerate (PyProof.Rows.callWith_type1 (thn (ha.run pos pins s σ H _ I h) fun us s1 ⟨vs, H1, I1, r1, q1⟩ => ?_) hs rfl))
  obtain ⟨a, xs, rfl, hq, q⟩ := q1
  rw [Vals.ref1 r1]
  obtain ⟨its, rv, tp, hz⟩ := I1.tuple hq
  refine call_enum1 (begins_tuple a its.toArray) tp fun g he hit hk => wpAny_pyIter_enum he ?_
  have I2 : Inv X pins σ H1 { s1 with heap := g } := I1.kept (t' := s1.toks) hk
  refine ⟨s1.heap.objs.size + 1, [s1.heap.objs.size + 1, s1.heap.objs.size], _, _, H1, rfl, I2, turn_enumT a (s1.heap.objs.size + 1) s1.heap.objs.size, ⟨⟨.none, he⟩, ⟨_, hit, rfl, rfl⟩, Nat.succ_ne_self _⟩, fun b hb => ?_, q⟩
  have hle : s1.heap.objs.size ≤ b := by
    rcases List.mem_cons.mp hb with z | z
    · rw [z]; exact Nat.le_succ _
    · rw [List.mem_singleton.mp z]; exact Nat.le_refl _
  exact I1.fpOk hle (I1.hok.fresh hle)
theorem walk_enumT {K : PySem.W.Frag} {a : Addr} {xs : List V} : Walk (IteT K a) xs.length (fun H => SqT K H a xs) (YPair (fun i => some (.int (i : Nat))) (fun i => xs[i]?)) := by
  refine ⟨fun i _ hi q => ⟨xs, xs[i], q, List.getElem?_eq_getElem hi⟩, fun _ q => ⟨xs, q, Nat.le_refl _⟩, fun i H v H' _ q y => ?_⟩
  obtain ⟨T, x, y1, y2, y3, y4⟩ := y
  exact ⟨T, .int (i : Nat), x, y1, y2, y3, rfl, y4 xs q⟩
end Rg
namespace K
open PySem L2 Rg
open Evl (pss_cut)
def top (i : Nat) : Stmt := PySem.Challenge.pw_ringbars_k51_pointing_one_way_and_agains.main.body.getD i (.Pass ⟨0, 0, 0, 0⟩)
abbrev sWall : Stmt := top 0
abbrev sFixed : Stmt := top 2
abbrev sPaperInit : Stmt := inClass (top 3) 0
abbrev sPaperEq : Stmt := inClass (top 3) 1
abbrev sPaperBool : Stmt := inClass (top 3) 2
abbrev sDenialEq : Stmt := inClass (top 4) 0
abbrev sDenialBool : Stmt := inClass (top 4) 1
abbrev sAreEqual : Stmt := top 5
abbrev sIsInteger : Stmt := top 7
abbrev sIsWithin : Stmt := top 8
abbrev sIsList : Stmt := top 9
abbrev sIsNumbers : Stmt := top 10
abbrev sFirstTwice : Stmt := top 11
abbrev sTwiceAt : Stmt := top 12
abbrev sBadRingInit : Stmt := inClass (top 15) 0
abbrev sBadLotInit : Stmt := inClass (top 16) 0
abbrev sBadLineUpInit : Stmt := inClass (top 17) 0
abbrev sBadNumberInit : Stmt := inClass (top 18) 0
abbrev sMisfitInit : Stmt := inClass (top 19) 0
abbrev sMissingInit : Stmt := inClass (top 20) 0
abbrev sTwiceInit : Stmt := inClass (top 22) 0
abbrev sTooManyInit : Stmt := inClass (top 23) 0
abbrev sBadTextInit : Stmt := inClass (top 24) 0
abbrev sWantNumber : Stmt := top 26
abbrev sWantBar : Stmt := top 27
abbrev sWantLot : Stmt := top 28
abbrev sWantAsMany : Stmt := top 29
abbrev sSortBy : Stmt := top 31
abbrev sItemsOf : Stmt := top 34
abbrev sIntegerOf : Stmt := top 35
abbrev sItemAt : Stmt := top 36
abbrev sNumberAt : Stmt := top 37
abbrev sRingInit : Stmt := inClass (top 42) 0
abbrev sRingLen : Stmt := inClass (top 42) 1
abbrev sRingEq : Stmt := inClass (top 42) 2
abbrev sRingStr : Stmt := inClass (top 42) 3
abbrev sRingLengthOf : Stmt := inClass (top 42) 4
abbrev sRingSortOf : Stmt := inClass (top 42) 5
abbrev sRingWithLength : Stmt := inClass (top 42) 6
abbrev sRingBegunAt : Stmt := inClass (top 42) 7
abbrev sRingBackwards : Stmt := inClass (top 42) 8
abbrev sRingInOrder : Stmt := inClass (top 42) 9
abbrev sRingAsOne : Stmt := inClass (top 42) 10
abbrev sRingInTwo : Stmt := inClass (top 42) 11
abbrev sRingRead : Stmt := inClass (top 42) 12
abbrev sAreLengths : Stmt := top 43
abbrev sHasLevel : Stmt := top 44
abbrev sReadRing : Stmt := top 45
abbrev sWantRing : Stmt := top 46
abbrev sLineUpInit : Stmt := inClass (top 48) 0
abbrev sLineUpEq : Stmt := inClass (top 48) 1
abbrev sLineUpStr : Stmt := inClass (top 48) 2
abbrev sLineUpRead : Stmt := inClass (top 48) 3
abbrev sPointing : Stmt := top 49
abbrev sWithAlone : Stmt := top 50
abbrev sAreStrands : Stmt := top 51
abbrev sIsStrand : Stmt := top 52
abbrev sAsStrand : Stmt := top 53
abbrev sLineupItems : Stmt := top 54
abbrev sItemOf : Stmt := top 55
abbrev sReadLineup : Stmt := top 56
abbrev sPairsNext : Stmt := top 57
abbrev sNetsInit : Stmt := inClass (top 59) 0
abbrev sTooGreatInit : Stmt := inClass (top 60) 0
abbrev sCanLine : Stmt := top 61
abbrev sCanPoint : Stmt := top 62
abbrev sAgainst : Stmt := top 63
abbrev sNetsOf : Stmt := top 64
abbrev sTooGreat : Stmt := top 65
abbrev sIsHad : Stmt := top 66
abbrev sWantLineup : Stmt := top 67
abbrev sWantLined : Stmt := top 68
abbrev sLwBench : Stmt := top 70
abbrev sLwDraw : Stmt := top 71
abbrev sLwPick : Stmt := top 72
abbrev sLwMixed : Stmt := top 73
abbrev sLwLengths : Stmt := top 74
abbrev sLwIsHome : Stmt := top 75
abbrev sLwLots : Stmt := top 76
abbrev sLwPointsRight : Stmt := top 77
abbrev sLwAgainstRight : Stmt := top 78
abbrev sLwHeard : Stmt := top 79
abbrev sLwRefusedRight : Stmt := top 80
abbrev sLaw : Stmt := top 81

/-- all but what stands at p is as it was -/
def But (p : Addr) (H H' : Hp) : Prop := ∀ b o, b ≠ p → H b = some o → H' b = some o
theorem But.refl (p : Addr) (H : Hp) : But p H H := fun _ _ _ h => h
theorem But.trans {p : Addr} {H H1 H2 : Hp} (a : But p H H1) (b : But p H1 H2) : But p H H2 := fun c o n h => b c o n (a c o n h)
theorem But.new {p q : Addr} {H H' : Hp} {o : HO} (a : But p H H') (n : H' q = none) : But p H (upd H' q o) := fun c u hc h => by
  have e := a c u hc h
  rw [upd_ne (ne_of_none e n)]
  exact e
theorem But.at {p : Addr} {H H' : Hp} {o : HO} (a : But p H H') : But p H (upd H' p o) := fun c u hc h => by
  rw [upd_ne hc]
  exact a c u hc h
theorem But.seq {K : PySem.W.Frag} {p a : Addr} {H H' : Hp} {xs : List V} (e : But p H H') (n : a ≠ p) (h : SqL K H a xs) : SqL K H' a xs := by
  rcases h with (h | ⟨o, h⟩) | h
  · exact .inl (.inl (e _ _ n h))
  · exact .inl (.inr ⟨o, e _ _ n h⟩)
  · exact .inr h
/-- the pen: its cells, how many were begun (at most n), what a great one has left -/
structure PenAt (K : PySem.W.Frag) (H : Hp) (p : Addr) (e : Addr × List Int) (n : Nat) : Prop where
  ex : ∃ (at' rest : Int), H p = some (.lst [.ref e.1, .int at', .int rest]) ∧ 0 ≤ at' ∧ at' ≤ n ∧ 0 ≤ rest
  sq : SqL K H e.1 (e.2.map V.int)
  np : e.1 ≠ p
  ln : e.2.length ≤ 62
theorem But.of {p : Addr} {H H' : Hp} (e : Same H H') : But p H H' := fun b o _ h => e b o h
theorem But.mut {p q : Addr} {H H' : Hp} {o : HO} (a : But p H H') (n : H q = none) : But p H (upd H' q o) := fun c u hc h => by
  have e := a c u hc h
  rw [upd_ne (ne_of_none h n)]
  exact e
theorem But.free {p q : Addr} {H H' : Hp} (a : But p H H') (hq : q ≠ p) (n : H' q = none) : H q = none := by
  cases e : H q with
  | none => rfl
  | some o =>
    rw [a q o hq e] at n
    cases n
theorem But.tup {K : PySem.W.Frag} {p a : Addr} {H H' : Hp} {xs : List V} (e : But p H H') (n : a ≠ p) (h : SqT K H a xs) : SqT K H' a xs := by
  rcases h with (h | ⟨o, h⟩) | h
  · exact .inl (.inl (e _ _ n h))
  · exact .inl (.inr ⟨o, e _ _ n h⟩)
  · exact .inr h
theorem _root_.L2.Same.new {q : Addr} {H H' : Hp} {o : HO} (a : Same H H') (n : H' q = none) : Same H (upd H' q o) := fun c u h => by
  have e := a c u h
  rw [upd_ne (ne_of_none e n)]
  exact e
theorem _root_.L2.Same.mut {q : Addr} {H H' : Hp} {o : HO} (a : Same H H') (n : H q = none) : Same H (upd H' q o) := fun c u h => by
  have e := a c u h
  rw [upd_ne (ne_of_none h n)]
  exact e
theorem _root_.L2.Same.tup {K : PySem.W.Frag} {a : Addr} {H H' : Hp} {xs : List V} (e : Same H H') (h : SqT K H a xs) : SqT K H' a xs := by
  rcases h with (h | ⟨o, h⟩) | h
  · exact .inl (.inl (e _ _ h))
  · exact .inl (.inr ⟨o, e _ _ h⟩)
  · exact .inr h
section
variable {K : PySem.W.Frag} {H H' : Hp} {p q : Addr} {e : Addr × List Int} {n m : Nat} {o : HO}
theorem PenAt.mono (h : PenAt K H p e n) (le : n ≤ m) : PenAt K H p e m := by
  obtain ⟨a, r, h1, h5, h6, h7⟩ := h.ex
  exact ⟨⟨a, r, h1, h5, by omega, h7⟩, h.sq, h.np, h.ln⟩
/-- the pen stands while all that is tracked stands -/
theorem PenAt.same (h : PenAt K H p e n) (s : Same H H') : PenAt K H' p e n := by
  obtain ⟨a, r, h1, h5, h6, h7⟩ := h.ex
  exact ⟨⟨a, r, s _ _ h1, h5, h6, h7⟩, s.seq h.sq, h.np, h.ln⟩
theorem PenAt.some (h : PenAt K H p e n) : ∃ xs, H p = some (.lst xs) := by
  obtain ⟨a, r, h1, _⟩ := h.ex
  exact ⟨_, h1⟩
theorem PenAt.ne (h : PenAt K H p e n) (z : H q = none) : q ≠ p := by
  obtain ⟨xs, h1⟩ := h.some
  exact (ne_of_none h1 z).symm
/-- the pen stands while a new thing is laid -/
theorem PenAt.put (h : PenAt K H p e n) (z : H q = none) : PenAt K (upd H q o) p e n := h.same (Same.new (Same.refl H) z)
/-- .. while a thing is written that was not there ahead -/
theorem PenAt.mut (h : PenAt K H p e m) (h2 : PenAt K H' p e n) (b : But p H H') (z : H q = none) : PenAt K (upd H' q o) p e n := by
  obtain ⟨a, r, h1, h5, h6, h7⟩ := h2.ex
  exact ⟨⟨a, r, by rw [upd_ne (h.ne z).symm]; exact h1, h5, h6, h7⟩, (b.mut z).seq h.np h.sq, h.np, h.ln⟩
end
/-- the built-ins that the text names -/
structure Bi (mg : Str → Option Value) : Prop where
  int : mg "int" = none
  len : mg "len" = none
  abs : mg "abs" = none
  list : mg "list" = none
  tuple : mg "tuple" = none
  bool : mg "bool" = none
  range : mg "range" = none
  sum : mg "sum" = none
  max : mg "max" = none
  all : mg "all" = none
  any : mg "any" = none
  sorted : mg "sorted" = none
  enumerate : mg "enumerate" = none
  isinstance : mg "isinstance" = none
section
variable {K : PySem.W.Frag}
theorem eqv_nil (l : List Int) : PyData.eqv (.list (l.map PyData.int)) (.list []) = l.isEmpty := by
  cases l <;> simp [PyData.eqv, PyData.eqvAll] <;> rfl
theorem dp_ints {H : Hp} : ∀ l : List Int, DpAll K H (l.map V.int) (l.map PyData.int)
  | [] => .nil
  | i :: l => .cons (.int i) (dp_ints l)
theorem lay_ints : ∀ l : List Int, PyData.canLayAll0 (l.map PyData.int) = true
  | [] => by simp [PyData.canLayAll0]
  | i :: l => by simp [PyData.canLayAll0, PyData.canLay0, lay_ints l]
theorem deep_ints : ∀ l : List Int, PyData.depthAll (l.map PyData.int) = 0
  | [] => by simp [PyData.depthAll]
  | i :: l => by simp [PyData.depthAll, PyData.depth, deep_ints l]
theorem shaped_ints (l : List Int) : SeqAt.shaped (.list (l.map PyData.int)) = true := by
  simp [SeqAt.shaped, PyData.canLay0, PyData.depth, lay_ints l, deep_ints l]
end
end K
namespace K
open PySem L2 Rg
open Evl (pss_cut)
/-- the kinds that are asked for -/
def kinds : List String := ["NoneType", "bool", "int", "str", "list", "tuple", "dict"]
theorem kit_int : ∀ k ∈ kinds, kitB k "int" = some (decide (k = "int" ∨ k = "bool")) := by decide +kernel
theorem kit_bool : ∀ k ∈ kinds, kitB k "bool" = some (decide (k = "bool")) := by decide +kernel
theorem kit_list : ∀ k ∈ kinds, kitB k "list" = some (decide (k = "list")) := by decide +kernel
theorem kit_tuple : ∀ k ∈ kinds, kitB k "tuple" = some (decide (k = "tuple")) := by decide +kernel
/-- v is of the kind k -/
def Knd (K : PySem.W.Frag) (H : Hp) (v : V) (k : String) : Prop := TyX K H v (.type k) ∧ k ∈ kinds
section
variable {P : Program} {w : World} {K : PySem.W.Frag} {mg : Str → Option Value} {base : Heap}
theorem Knd.int {H : Hp} {i : Int} : Knd K H (.int i) "int" := ⟨.base (.int i), by decide⟩
theorem tyx_same {H H' : Hp} {v : V} {t : Value} (h : TyX K H v t) (s : Same H H') : TyX K H' v t := by
  cases h with
  | base h =>
    refine .base ?_
    cases h with
    | non => exact .non
    | bl x => exact .bl x
    | int x => exact .int x
    | str x => exact .str x
    | flt x => exact .flt x
    | lst e => exact .lst (s _ _ e)
    | frz e => exact .frz (s _ _ e)
    | tup e => exact .tup (s _ _ e)
    | dK e => exact .dK (s _ _ e)
    | dT e => exact .dT (s _ _ e)
    | ins e cl ha hn htk hm => exact .ins (s _ _ e) cl ha hn htk hm
  | byt b => exact .byt b
  | set e => exact .set (s _ _ e)
  | kList e c => exact .kList e c
  | kTuple e c => exact .kTuple e c
  | kDict e c => exact .kDict e c
  | fTuple e => exact .fTuple (s _ _ e)
  | fDict e => exact .fDict (s _ _ e)
theorem Knd.same {H H' : Hp} {v : V} {k : String} (h : Knd K H v k) (s : Same H H') : Knd K H' v k := ⟨tyx_same h.1 s, h.2⟩
/-! ### is_integer -/
def spIsInt (K : PySem.W.Frag) : Sp := fun vs H Q _ => ∃ (v : V) (k : String), vs = [v] ∧ Knd K H v k ∧ Q (.bl (decide (k = "int"))) H
theorem scIsInt : FnScope ["value"] ["value"] (defScope sIsInteger) := ⟨rfl, rfl, rfl, by decide +kernel, rfl, by decide +kernel, by decide +kernel⟩
theorem ok_isInt {f : Addr} {fd : FuncData} (F : Fun K "is_integer" "is_integer" sIsInteger f fd) (T : Bi mg) : FnOk P w K mg base CX0 1 f fd ["value"] (spIsInt K) := by
  refine F.ok scIsInt (fun vs H Q E h => ?_) (fun cdv A outer s H vs Q E hr h => ?_)
  · obtain ⟨v, k, rfl, _⟩ := h
    rfl
  · refine ⟨_, pss_one (ps_ret (pe_and (pe_callB call_isi (by rfl) T.isinstance (by decide +kernel) (pa_cons (pv 0) (pa_cons (pe_bltn (v := .ty "int") (u := .type "int") (by rfl) T.int (by decide +kernel) rfl) pa_nil)))
      (pe_one (pe_not (pe_callB call_isi (by rfl) T.isinstance (by decide +kernel) (pa_cons (pv 0) (pa_cons (pe_bltn (v := .ty "bool") (u := .type "bool") (by rfl) T.bool (by decide +kernel) rfl) pa_nil))))))), ?_⟩
    obtain ⟨v, k, rfl, ⟨ty, hk⟩, q⟩ := h
    refine ⟨_, rfl, v, .ty "int", _, _, _, rfl, .ty _, ty, kit_ty (kit_int k hk), _, rfl, ?_⟩
    refine ite2 (fun c => ?_) (fun c => ?_)
    · refine ⟨_, rfl, v, .ty "bool", _, _, _, rfl, .ty _, ty, kit_ty (kit_bool k hk), _, rfl, ?_⟩
      have c' : k = "int" ∨ k = "bool" := of_decide_eq_true c
      have e : (!decide (k = "bool")) = decide (k = "int") := by
        rcases c' with rfl | rfl <;> decide
      rw [e]
      exact q
    · have c' : ¬ (k = "int" ∨ k = "bool") := fun z => c (decide_eq_true z)
      have e : decide (k = "int") = false := decide_eq_false fun z => c' (.inl z)
      rw [e] at q
      exact q
/-! ### is_list -/
def spIsList (K : PySem.W.Frag) : Sp := fun vs H Q _ => ∃ (v : V) (k : String), vs = [v] ∧ Knd K H v k ∧ ∀ H', Same H H' → Q (.bl (decide (k = "list" ∨ k = "tuple"))) H'
theorem scIsList : FnScope ["value"] ["value"] (defScope sIsList) := ⟨rfl, rfl, rfl, by decide +kernel, rfl, by decide +kernel, by decide +kernel⟩
theorem ok_isList {f : Addr} {fd : FuncData} (F : Fun K "is_list" "is_list" sIsList f fd) (T : Bi mg) : FnOk P w K mg base CX0 1 f fd ["value"] (spIsList K) := by
  refine F.ok scIsList (fun vs H Q E h => ?_) (fun cdv A outer s H vs Q E hr h => ?_)
  · obtain ⟨v, k, rfl, _⟩ := h
    rfl
  · refine ⟨_, pss_one (ps_ret (pe_callB call_isiT (by rfl) T.isinstance (by decide +kernel) (pa_cons (pv 0) (pa_cons (pe_tup (pa_cons (pe_bltn (v := .ty "list") (u := .type "list") (by rfl) T.list (by decide +kernel) rfl) (pa_cons (pe_bltn (v := .ty "tuple") (u := .type "tuple") (by rfl) T.tuple (by decide +kernel) rfl) pa_nil))) pa_nil)))), ?_⟩
    obtain ⟨v, k, rfl, ⟨ty, hk⟩, q⟩ := h
    refine ⟨_, rfl, (by show 2 ≤ sizeLine; decide), fun p hp => ?_⟩
    have s1 : Same H (upd H p (.tup [.ty "list", .ty "tuple"])) := (Same.refl H).new hp
    refine ⟨v, p, [.ty "list", .ty "tuple"], _, _, decide (k = "list" ∨ k = "tuple"), rfl, upd_same, .cons (.ty _) (.cons (.ty _) .nil), tyx_same ty s1, kitAny_cons (kit_ty (kit_list k hk)) (fun e => kitAny_cons (b := decide (k = "tuple")) (r := decide (k = "list" ∨ k = "tuple")) (kit_ty (kit_tuple k hk)) (fun e' => ?_) fun e' => ?_) fun e => ?_, q _ s1⟩
    · have h1 : ¬ k = "list" := of_decide_eq_false e
      have h2 : ¬ k = "tuple" := of_decide_eq_false e'
      rw [kitAny_nil, decide_eq_false (fun z => z.elim h1 h2)]
    · exact decide_eq_true (.inr (of_decide_eq_true e'))
    · exact decide_eq_true (.inl (of_decide_eq_true e))
end
end K
namespace K
open PySem L2 Rg
open Evl (pss_cut)
theorem iteDT {c A B : Prop} [Decidable c] (hc : c) (h : A) : if decide c = true then A else B := by
  rw [if_pos (decide_eq_true hc)]; exact h
theorem iteDF {c A B : Prop} [Decidable c] (hc : ¬ c) (h : B) : if decide c = true then A else B := by
  rw [if_neg (by rw [decide_eq_false hc]; exact Bool.false_ne_true)]; exact h
theorem iteBT {c : Bool} {A B : Prop} (hc : c = true) (h : A) : if c = true then A else B := by
  rw [if_pos hc]; exact h
theorem iteBF {c : Bool} {A B : Prop} (hc : c = false) (h : B) : if c = true then A else B := by
  rw [if_neg (by rw [hc]; exact Bool.false_ne_true)]; exact h
theorem sm {n : Nat} (h : n ≤ 10000) : n < sizeLine := Nat.lt_of_le_of_lt h (by decide)
/-- a def of the text, by its name -/
structure DefAt (P : Program) (w : World) (K : PySem.W.Frag) (mg : Str → Option Value) (base : Heap) (CX : CXT) (k : Nat) (x : Str) (ps : List Str) (sp : Sp) (f : Addr) (fd : FuncData) : Prop where
  ok : FnOk P w K mg base CX k f fd ps sp
  g : mg x = some (.ref f)
  kp : PySem.W.keepIn K (.ref f) = true
  b : Binds K fd ps []
section
variable {P : Program} {w : World} {K : PySem.W.Frag} {mg : Str → Option Value} {base : Heap}
/-- two promises of one def -/
theorem fn_or {CX : CXT} {k : Nat} {f : Addr} {fd : FuncData} {ps : List Str} {sp sp' : Sp} (F : FnOk P w K mg base CX k f fd ps sp) (G : FnOk P w K mg base CX k f fd ps sp') : FnOk P w K mg base CX k f fd ps (fun vs H Q E => sp vs H Q E ∨ sp' vs H Q E) :=
  ⟨fun vs H Q E h => h.elim (F.len vs H Q E) (G.len vs H Q E), fun A outer s H args us vs Q E hr e0 hb hv h => h.elim (F.run A outer s H args us vs Q E hr e0 hb hv) (G.run A outer s H args us vs Q E hr e0 hb hv)⟩
/-! ### is_within, of ints -/
def spWithin : Sp := fun vs H Q _ => ∃ (v lo hi : Int), vs = [.int v, .int lo, .int hi] ∧ Q (.bl (decide (lo ≤ v) && decide (v ≤ hi))) H
theorem scWithin : FnScope ["value", "least", "most"] ["value", "least", "most"] (defScope sIsWithin) := ⟨rfl, rfl, rfl, by decide +kernel, rfl, by decide +kernel, by decide +kernel⟩
theorem ok_within {f fI : Addr} {fd fdI : FuncData} (F : Fun K "is_within" "is_within" sIsWithin f fd) (G : DefAt P w K mg base CX0 1 "is_integer" ["value"] (spIsInt K) fI fdI) : FnOk P w K mg base CX0 2 f fd ["value", "least", "most"] spWithin := by
  refine F.ok scWithin (fun vs H Q E h => ?_) (fun cdv A outer s H vs Q E hr h => ?_)
  · obtain ⟨v, lo, hi, rfl, _⟩ := h
    rfl
  · refine ⟨_, pss_cons (ps_if (pt_not (pt_val (pe_call G.ok hr rfl G.g G.kp G.b .nil pass0 (pa_cons (pv 0) pa_nil)))) (pss_one (ps_ret pe_bl)) pss_nil)
      (pss_one (ps_ret (pe_and (pe_or (pe_cmpR op_isN (pv 1) pe_non (nomark _)) (pe_one (pe_cmpR op_ge (pv 0) (pv 1) (nomark _)))) (pe_one (pe_or (pe_cmpR op_isN (pv 2) pe_non (nomark _)) (pe_one (pe_cmpR op_le (pv 0) (pv 2) (nomark _)))))))), ?_⟩
    obtain ⟨v, lo, hi, rfl, q⟩ := h
    refine ⟨_, rfl, V.int v, "int", rfl, Knd.int, _, rfl, iteNS rfl ?_⟩
    refine ⟨_, rfl, rfl, _, rfl, iteDF (fun z => nomatch z) ⟨_, rfl, _, rfl, _, _, rfl, rfl, _, rfl, ?_⟩⟩
    refine ite2 (fun c => ?_) (fun c => ?_)
    · have c' : lo ≤ v := of_decide_eq_true c
      refine ⟨_, rfl, rfl, _, rfl, iteDF (fun z => nomatch z) ⟨_, rfl, _, rfl, _, _, rfl, rfl, ?_⟩⟩
      rw [decide_eq_true c', Bool.true_and] at q
      exact q
    · have c' : ¬ lo ≤ v := fun z => c (decide_eq_true z)
      rw [decide_eq_false c', Bool.false_and] at q
      exact q
/-! ### is_numbers -/
abbrev nNums : List Str := ["value", "one"]
theorem scNums : FnScope nNums ["value"] (defScope sIsNumbers) := ⟨rfl, rfl, rfl, by decide +kernel, rfl, by decide +kernel, by decide +kernel⟩
/-- of what is no list or tuple | of a list | of a tuple -/
def spNumsO (K : PySem.W.Frag) : Sp := fun vs H Q _ => ∃ (v : V) (k : String), vs = [v] ∧ Knd K H v k ∧ k ≠ "list" ∧ k ≠ "tuple" ∧ ∀ H', Same H H' → Q (.bl false) H'
def spNumsL (K : PySem.W.Frag) : Sp := fun vs H Q _ => ∃ (a : Addr) (xs : List V) (kf : V → String), vs = [.ref a] ∧ Knd K H (.ref a) "list" ∧ SqL K H a xs ∧ xs.length ≤ 1000 ∧ (∀ x ∈ xs, Knd K H x (kf x)) ∧ ∀ H', Same H H' → Q (.bl (xs.all fun x => decide (kf x = "int"))) H'
def spNumsT (K : PySem.W.Frag) : Sp := fun vs H Q _ => ∃ (a : Addr) (xs : List V) (kf : V → String), vs = [.ref a] ∧ Knd K H (.ref a) "tuple" ∧ SqT K H a xs ∧ xs.length ≤ 1000 ∧ (∀ x ∈ xs, Knd K H x (kf x)) ∧ ∀ H', Same H H' → Q (.bl (xs.all fun x => decide (kf x = "int"))) H'
theorem all_map_bl (xs : List V) (g : V → Bool) : ((xs.map g).all id) = xs.all g := by
  rw [List.all_map]; rfl
theorem ok_numsO {f fI fL : Addr} {fd fdI fdL : FuncData} (F : Fun K "is_numbers" "is_numbers" sIsNumbers f fd) (T : Bi mg) (G : DefAt P w K mg base CX0 1 "is_integer" ["value"] (spIsInt K) fI fdI) (L : DefAt P w K mg base CX0 1 "is_list" ["value"] (spIsList K) fL fdL) : FnOk P w K mg base CX0 2 f fd ["value"] (spNumsO K) := by
  refine F.ok scNums (fun vs H Q E h => ?_) (fun cdv A outer s H vs Q E hr h => ?_)
  · obtain ⟨v, k, rfl, _⟩ := h
    rfl
  · refine ⟨_, pss_one (ps_ret (pe_and (pe_call L.ok hr rfl L.g L.kp L.b .nil pass0 (pa_cons (pv 0) pa_nil)) (pe_one (pe_callB (cr_all rfl) (by rfl) T.all (by decide +kernel) (pa_cons (pe_lc (own := [("one", 1)]) (g := gName 1) (tt := tYes) rfl scNums.nd (pi_list (pv 0))
      (blkOk_by (N := nNums) (sc := defScope sIsNumbers) (by decide +kernel)) (fun _ _ _ _ _ => pg_name (i := 1) scNums.nd rfl (Or.inl rfl)) (fun _ _ _ _ _ => pts_nil) (fun _ _ _ _ _ => pe_call G.ok hr rfl G.g G.kp G.b .nil pass0 (pa_cons (pv 1) pa_nil))) pa_nil))))), ?_⟩
    obtain ⟨v, k, rfl, hk, k1, k2, q⟩ := h
    exact ⟨_, rfl, v, k, rfl, hk, fun H' s1 => ⟨_, rfl, iteDF (fun z => z.elim k1 k2) (q H' s1)⟩⟩
theorem ok_numsL {f fI fL : Addr} {fd fdI fdL : FuncData} (F : Fun K "is_numbers" "is_numbers" sIsNumbers f fd) (T : Bi mg) (G : DefAt P w K mg base CX0 1 "is_integer" ["value"] (spIsInt K) fI fdI) (L : DefAt P w K mg base CX0 1 "is_list" ["value"] (spIsList K) fL fdL) : FnOk P w K mg base CX0 2 f fd ["value"] (spNumsL K) := by
  refine F.ok scNums (fun vs H Q E h => ?_) (fun cdv A outer s H vs Q E hr h => ?_)
  · obtain ⟨v, k, kf, rfl, _⟩ := h
    rfl
  · refine ⟨_, pss_one (ps_ret (pe_and (pe_call L.ok hr rfl L.g L.kp L.b .nil pass0 (pa_cons (pv 0) pa_nil)) (pe_one (pe_callB (cr_all rfl) (by rfl) T.all (by decide +kernel) (pa_cons (pe_lc (own := [("one", 1)]) (g := gName 1) (tt := tYes) rfl scNums.nd (pi_list (pv 0))
      (blkOk_by (N := nNums) (sc := defScope sIsNumbers) (by decide +kernel)) (fun _ _ _ _ _ => pg_name (i := 1) scNums.nd rfl (Or.inl rfl)) (fun _ _ _ _ _ => pts_nil) (fun _ _ _ _ _ => pe_call G.ok hr rfl G.g G.kp G.b .nil pass0 (pa_cons (pv 1) pa_nil))) pa_nil))))), ?_⟩
    obtain ⟨a, xs, kf, rfl, hk, hs, hl, hx, q⟩ := h
    refine ⟨_, rfl, _, "list", rfl, hk, fun H1 s1 => ⟨_, rfl, iteDT (.inl rfl) ?_⟩⟩
    refine ⟨_, rfl, a, rfl, ⟨_, s1.seq hs⟩, fun D hD => ?_⟩
    have hD0 := s1.free hD
    refine lc_list (K := K) (a := a) (xs := xs) (fun i H' => Same H H' ∧ H' D = some (.lst ((xs.take i).map fun x => V.bl (decide (kf x = "int"))))) ⟨s1.new hD, upd_same⟩ (fun i H' _ p => p.1.seq hs) ?_ ?_
    · rintro i x H' hi ⟨s2, h2⟩
      refine ⟨rfl, _, rfl, x, kf x, rfl, (hx x (List.mem_of_getElem? hi)).same s2, _, h2, (by rw [List.length_map, List.length_take]; exact sm (by omega)), s2.mut hD0, ?_⟩
      rw [upd_same, List.take_succ, hi, List.map_append]
      rfl
    · rintro H' ⟨s2, h2⟩
      rw [List.take_length] at h2
      refine ⟨D, xs.map fun x => decide (kf x = "int"), rfl, SqL.of (by rw [List.map_map]; exact h2), ?_⟩
      rw [all_map_bl]
      exact q H' s2
theorem ok_numsT {f fI fL : Addr} {fd fdI fdL : FuncData} (F : Fun K "is_numbers" "is_numbers" sIsNumbers f fd) (T : Bi mg) (G : DefAt P w K mg base CX0 1 "is_integer" ["value"] (spIsInt K) fI fdI) (L : DefAt P w K mg base CX0 1 "is_list" ["value"] (spIsList K) fL fdL) : FnOk P w K mg base CX0 2 f fd ["value"] (spNumsT K) := by
  refine F.ok scNums (fun vs H Q E h => ?_) (fun cdv A outer s H vs Q E hr h => ?_)
  · obtain ⟨v, k, kf, rfl, _⟩ := h
    rfl
  · refine ⟨_, pss_one (ps_ret (pe_and (pe_call L.ok hr rfl L.g L.kp L.b .nil pass0 (pa_cons (pv 0) pa_nil)) (pe_one (pe_callB (cr_all rfl) (by rfl) T.all (by decide +kernel) (pa_cons (pe_lc (own := [("one", 1)]) (g := gName 1) (tt := tYes) rfl scNums.nd (pi_tup (pv 0))
      (blkOk_by (N := nNums) (sc := defScope sIsNumbers) (by decide +kernel)) (fun _ _ _ _ _ => pg_name (i := 1) scNums.nd rfl (Or.inl rfl)) (fun _ _ _ _ _ => pts_nil) (fun _ _ _ _ _ => pe_call G.ok hr rfl G.g G.kp G.b .nil pass0 (pa_cons (pv 1) pa_nil))) pa_nil))))), ?_⟩
    obtain ⟨a, xs, kf, rfl, hk, hs, hl, hx, q⟩ := h
    refine ⟨_, rfl, _, "tuple", rfl, hk, fun H1 s1 => ⟨_, rfl, iteDT (.inr rfl) ?_⟩⟩
    refine ⟨_, rfl, a, rfl, ⟨_, s1.tup hs⟩, fun D hD => ?_⟩
    have hD0 := s1.free hD
    refine lc_tup (K := K) (a := a) (xs := xs) (fun i H' => Same H H' ∧ H' D = some (.lst ((xs.take i).map fun x => V.bl (decide (kf x = "int"))))) ⟨s1.new hD, upd_same⟩ (fun i H' _ p => p.1.tup hs) ?_ ?_
    · rintro i x H' hi ⟨s2, h2⟩
      refine ⟨rfl, _, rfl, x, kf x, rfl, (hx x (List.mem_of_getElem? hi)).same s2, _, h2, (by rw [List.length_map, List.length_take]; exact sm (by omega)), s2.mut hD0, ?_⟩
      rw [upd_same, List.take_succ, hi, List.map_append]
      rfl
    · rintro H' ⟨s2, h2⟩
      rw [List.take_length] at h2
      refine ⟨D, xs.map fun x => decide (kf x = "int"), rfl, SqL.of (by rw [List.map_map]; exact h2), ?_⟩
      rw [all_map_bl]
      exact q H' s2
end
end K
namespace K
open PySem L2 Rg
open Evl (pss_cut)
def spDraw (K : PySem.W.Frag) : Sp := fun vs H Q _ => ∃ (p : Addr) (e : Addr × List Int) (many : Int) (n : Nat), vs = [.ref p, .int many] ∧ 1 ≤ many ∧ many ≤ 1000000 ∧ n < 1000000 ∧ PenAt K H p e n ∧
  ∀ (r : Int) (H' : Hp), 0 ≤ r → r < many → But p H H' → PenAt K H' p e (n + 1) → Q (.int r) H'
section
variable {P : Program} {w : World} {K : PySem.W.Frag} {mg : Str → Option Value} {base : Heap}
abbrev nDraw : List Str := ["_law_bench_here", "_law_many", "_law_digit", "_law_at", "_law_cell", "_law_great", "_law_mixed_here"]
theorem scDraw : FnScope nDraw ["_law_bench_here", "_law_many"] (defScope sLwDraw) := ⟨rfl, rfl, rfl, by decide +kernel, rfl, by decide +kernel, by decide +kernel⟩
theorem ok_draw {f : Addr} {fd : FuncData} (F : Fun K "_law_draw" "_law_draw" sLwDraw f fd) (T : Bi mg) : FnOk P w K mg base CX0 2 f fd ["_law_bench_here", "_law_many"] (spDraw K) := by
  refine F.ok scDraw (fun vs H Q E h => ?_) (fun cdv A outer s H vs Q E hr h => ?_)
  · obtain ⟨p, e, many, n, rfl, _⟩ := h
    rfl
  · have nd := scDraw.nd
    refine ⟨_, pss_cons (ps_if (pt_cmpR op_gt (pe_ix ix_list (pv 0) pe_int (fun _ _ => rfl)) pe_int (nomark _))
        (pss_cons (ps_set (i := 2) nd rfl (Or.inl rfl) (pe_op op_mod (pe_callTy call_int1 (by rfl) T.int (by decide +kernel) (pa_cons (pe_ix ix_list (pv 0) pe_int (fun _ _ => rfl)) pa_nil)) (pv 1)))
        (pss_cons (ps_asg (pe_op op_fdiv (pe_callTy call_int1 (by rfl) T.int (by decide +kernel) (pa_cons (pe_ix ix_list (pv 0) pe_int (fun _ _ => rfl)) pa_nil)) (pv 1)) (pg_sub (pv 0) pe_int set_list))
        (pss_one (ps_ret (pv 2))))) pss_nil)
      (pss_cons (ps_set (i := 3) nd rfl (Or.inl rfl) (pe_ix ix_list (pv 0) pe_int (fun _ _ => rfl)))
      (pss_cons (ps_asg (pe_op op_add (pv 3) pe_int) (pg_sub (pv 0) pe_int set_list))
      (pss_cons (ps_set (i := 4) nd rfl (Or.inl rfl) (pe_op op_add (pe_op op_mul pe_int (pv 3)) pe_int))
      (pss_cut (ps_if (pt_cmpR (op_neD hr.units) (pe_ix ix_list (pv 0) pe_int (fun _ _ => rfl)) (pe_lst pa_nil) (nomark _))
        (pss_one (ps_set (i := 4) nd rfl (Or.inl rfl) (pe_ix ix_list (pe_ix ix_list (pv 0) pe_int (fun _ _ => rfl)) (pe_op op_mod (pe_callTy call_int1 (by rfl) T.int (by decide +kernel) (pa_cons (pv 3) pa_nil)) (pe_callB call_len_seq (by rfl) T.len PySem.boot_len (pa_cons (pe_ix ix_list (pv 0) pe_int (fun _ _ => rfl)) pa_nil))) (fun _ _ => rfl)))) pss_nil)
      (pss_cut (ps_if (PW.pt (pw_and (pt_cmpR op_lt (pv 3) (pe_callB call_len_seq (by rfl) T.len PySem.boot_len (pa_cons (pe_ix ix_list (pv 0) pe_int (fun _ _ => rfl)) pa_nil)) (nomark _))
          (pw_and1 (pt_cmpR op_ge (pe_callB call_abs (by rfl) T.abs (by decide +kernel) (pa_cons (pv 4) pa_nil)) (pe_op op_pow pe_int pe_int) (nomark _)))))
        (pss_cons (ps_set (i := 5) nd rfl (Or.inl rfl) (pe_op op_add (pe_op op_mul pe_int (pe_op op_sub (pe_callB call_abs (by rfl) T.abs (by decide +kernel) (pa_cons (pv 4) pa_nil)) (pe_op op_pow pe_int pe_int))) (pe_callTy call_int1 (by rfl) T.int (by decide +kernel) (pa_cons (pe_cmpR op_lt (pv 4) pe_int (nomark _)) pa_nil))))
        (pss_cons (ps_asg (pe_op op_fdiv (pe_callTy call_int1 (by rfl) T.int (by decide +kernel) (pa_cons (pv 5) pa_nil)) (pv 1)) (pg_sub (pv 0) pe_int set_list))
        (pss_one (ps_ret (pe_op op_mod (pe_callTy call_int1 (by rfl) T.int (by decide +kernel) (pa_cons (pv 5) pa_nil)) (pv 1)))))) pss_nil)
      (pss_cut (ps_set (i := 6) nd rfl (Or.inl rfl) (pe_op op_mod (pe_callTy call_int1 (by rfl) T.int (by decide +kernel) (pa_cons (pe_op op_pow (pe_op op_add (pe_op op_add (pe_op op_mod (pe_callTy call_int1 (by rfl) T.int (by decide +kernel) (pa_cons (pv 4) pa_nil)) pe_int) (pe_op op_mul pe_int (pv 3))) pe_int) pe_int) pa_nil)) pe_int))
      (pss_cons (ps_set (i := 6) nd rfl (Or.inl rfl) (pe_op op_mod (pe_callTy call_int1 (by rfl) T.int (by decide +kernel) (pa_cons (pe_op op_pow (pe_op op_add (pe_op op_add (pe_op op_mul (pv 6) (pe_op op_add (pe_op op_mul pe_int (pv 3)) pe_int)) (pe_op op_mul (pe_op op_mul pe_int (pv 3)) (pv 3))) pe_int) pe_int) pa_nil)) pe_int))
      (pss_one (ps_ret (pe_op op_mod (pe_callTy call_int1 (by rfl) T.int (by decide +kernel) (pa_cons (pe_op op_fdiv (pv 6) pe_int) pa_nil)) (pv 1))))))))))), ?_⟩
    obtain ⟨p, ⟨c, cells⟩, many, n, rfl, m1, m2, hn, ⟨⟨at0, rest, hp, a0, a1, r0⟩, hc, hcp, hcl⟩, k⟩ := h
    dsimp only at hp hc hcp hcl
    have mp : (0 : Int) < many := by omega
    have md : (0 : Int) < many ∧ many < 1073741824 := ⟨mp, by omega⟩
    refine ⟨_, rfl, p, _, _, _, rfl, rfl, SqL.of hp, atI_nat (j := 2) rfl, _, _, rfl, rfl, _, rfl, ?_⟩
    refine ite2 (fun hg => ?_) (fun hg => ?_)
    · have g0 : rest > 0 := of_decide_eq_true hg
      refine ⟨_, rfl, p, _, _, _, rfl, rfl, SqL.of hp, atI_nat (j := 2) rfl, .inl ⟨_, rfl, _, rfl, _, _, rfl, rfl, mp, ?_⟩⟩
      refine ⟨_, rfl, p, _, _, _, rfl, rfl, SqL.of hp, atI_nat (j := 2) rfl, .inl ⟨_, rfl, _, rfl, _, _, rfl, rfl, md, _, rfl, p, _, _, 2, rfl, rfl, hp, rfl, ?_⟩⟩
      refine ⟨_, rfl, ?_⟩
      have b1 : But p H (upd H p (.lst [.ref c, .int at0, .int (rest / many)])) := (But.refl p H).at
      exact k _ _ (Int.emod_nonneg _ (by omega)) (Int.emod_lt_of_pos _ mp) b1 ⟨⟨at0, rest / many, upd_same, a0, by omega, Int.ediv_nonneg r0 (by omega)⟩, b1.seq hcp hc, hcp, hcl⟩
    · refine ⟨_, rfl, p, _, _, _, rfl, rfl, SqL.of hp, atI_nat (j := 1) rfl, ?_⟩
      refine ⟨_, rfl, _, _, rfl, rfl, _, rfl, p, _, _, 1, rfl, rfl, hp, rfl, ?_⟩
      have h1 : upd H p (.lst [.ref c, .int (at0 + 1), .int rest]) p = some (.lst [.ref c, .int (at0 + 1), .int rest]) := upd_same
      have b1 : But p H (upd H p (.lst [.ref c, .int (at0 + 1), .int rest])) := (But.refl p H).at
      refine ⟨_, rfl, _, _, rfl, rfl, .inl ⟨by decide, by decide⟩, _, _, rfl, rfl, ?_⟩
      refine ⟨fun σ' H' => ∃ cell : Int, σ' = [some (.ref p), some (.int many), none, some (.int at0), some (.int cell), none, none] ∧ But p H H' ∧ H' p = some (.lst [.ref c, .int (at0 + 1), .int rest]), ?_, ?_⟩
      · refine ⟨_, rfl, p, _, _, _, rfl, rfl, SqL.of h1, atI_nat (j := 0) rfl, (by decide), fun q hq => ?_⟩
        have hqp : p ≠ q := ne_of_none h1 hq
        have b2 : But p H (upd (upd H p (.lst [.ref c, .int (at0 + 1), .int rest])) q (.lst [])) := b1.new hq
        have h2 : upd (upd H p (.lst [.ref c, .int (at0 + 1), .int rest])) q (.lst []) p = some (.lst [.ref c, .int (at0 + 1), .int rest]) := by rw [upd_ne hqp]; exact h1
        refine ⟨_, _, .lst (b2.seq hcp hc) (dp_ints cells), .lst (SqL.of upd_same) .nil, shaped_ints _, rfl, _, rfl, ?_⟩
        rw [eqv_nil]
        cases e : cells.isEmpty with
        | true =>
          refine iteF ?_
          exact ⟨_, rfl, b2, h2⟩
        | false =>
          have hl : 0 < cells.length := by
            cases cells with
            | nil => cases e
            | cons z zs => simp
          refine iteT ?_
          have hlt : (at0 % (cells.length : Int)).toNat < cells.length := by
            have := Int.emod_lt_of_pos at0 (show (0 : Int) < cells.length by omega)
            have := Int.emod_nonneg at0 (show (cells.length : Int) ≠ 0 by omega)
            omega
          have hix : (cells.map V.int)[(at0 % (cells.length : Int)).toNat]? = some (V.int (cells[(at0 % (cells.length : Int)).toNat])) := by
            rw [List.getElem?_map, List.getElem?_eq_getElem hlt]
            rfl
          refine ⟨_, rfl, p, _, _, _, rfl, rfl, SqL.of h2, atI_nat (j := 0) rfl, _, rfl, .inl ⟨_, rfl, _, rfl, p, _, _, _, rfl, rfl, SqL.of h2, atI_nat (j := 0) rfl, c, _, rfl, .inl (b2.seq hcp hc), ?_⟩⟩
          rw [List.length_map]
          refine ⟨_, _, rfl, rfl, (by omega), c, _, _, _, rfl, rfl, b2.seq hcp hc, at_of (j := (at0 % (cells.length : Int)).toNat) (by
            have := Int.emod_nonneg at0 (show (cells.length : Int) ≠ 0 by omega)
            omega) hix, ?_⟩
          exact ⟨_, rfl, b2, h2⟩
      · rintro σ' H' ⟨cell, rfl, b2, h2⟩
        have pw : CPow 10 18 := ⟨by decide, by decide, by decide⟩
        refine ⟨fun σ' H'' => σ' = [some (.ref p), some (.int many), none, some (.int at0), some (.int cell), none, none] ∧ But p H H'' ∧ H'' p = some (.lst [.ref c, .int (at0 + 1), .int rest]), ?_, ?_⟩
        · refine ⟨_, rfl, _, rfl, p, _, _, _, rfl, rfl, SqL.of h2, atI_nat (j := 0) rfl, c, _, rfl, .inl (b2.seq hcp hc), _, _, rfl, rfl, _, rfl, ?_⟩
          refine ite2 (fun _ => ?_) (fun _ => iteF ?_)
          · refine ⟨_, rfl, _, rfl, _, _, rfl, rfl, pw, _, _, rfl, rfl, _, rfl, ?_⟩
            refine ite2 (fun hge => ?_) (fun _ => ?_)
            · have ge := of_decide_eq_true hge
              have ge2 : (10 : Int) ^ (18 : Int).toNat ≤ if cell < 0 then -cell else cell := ge
              have gr0 : 0 ≤ (2 * ((if cell < 0 then -cell else cell) - (10 : Int) ^ (18 : Int).toNat) + (if decide (cell < 0) = true then 1 else 0) : Int) := by
                split <;> omega
              refine ⟨_, rfl, _, rfl, _, _, rfl, rfl, pw, _, _, rfl, rfl, _, _, rfl, rfl, .inl ⟨by decide, by decide⟩, _, rfl, _, _, rfl, rfl, .inr ⟨_, rfl, _, _, rfl, rfl, ?_⟩⟩
              refine ⟨_, rfl, .inl ⟨_, rfl, _, rfl, _, _, rfl, rfl, md, _, rfl, p, _, _, 2, rfl, rfl, h2, rfl, ?_⟩⟩
              refine ⟨_, rfl, .inl ⟨_, rfl, _, rfl, _, _, rfl, rfl, mp, ?_⟩⟩
              exact k _ _ (Int.emod_nonneg _ (by omega)) (Int.emod_lt_of_pos _ mp) b2.at ⟨⟨at0 + 1, _, upd_same, by omega, by omega, Int.ediv_nonneg gr0 (by omega)⟩, (b2.at).seq hcp hc, hcp, hcl⟩
            · exact ⟨rfl, b2, h2⟩
          · exact ⟨rfl, b2, h2⟩
        · rintro σ'' H'' ⟨rfl, b3, h3⟩
          refine ⟨fun σ' H4 => ∃ x : Int, 0 ≤ x ∧ x < 2147483629 ∧ σ' = [some (.ref p), some (.int many), none, some (.int at0), some (.int cell), none, some (.int x)] ∧ H4 = H'', ?_, ?_⟩
          · have q0 := Int.emod_nonneg cell (show (2147483587 : Int) ≠ 0 by decide)
            have q1 := Int.emod_lt_of_pos cell (show (0 : Int) < 2147483587 by decide)
            have pw5 : CPow (cell % 2147483587 + 61051 * at0 + 2213) 5 := ⟨by decide, by decide, by omega⟩
            refine ⟨_, rfl, .inl ⟨_, rfl, _, _, rfl, rfl, (by show (0 : Int) < 2147483587; decide), _, rfl, _, _, rfl, rfl, .inl ⟨by decide, by decide⟩, _, _, rfl, rfl, _, _, rfl, rfl, _, _, rfl, rfl, pw5, .inl ⟨_, rfl, _, _, rfl, rfl, (by show (0 : Int) < 2147483629; decide), ?_⟩⟩⟩
            exact ⟨_, Int.emod_nonneg _ (by decide), Int.emod_lt_of_pos _ (by decide), rfl, rfl⟩
          · rintro σ' H4 ⟨x, x0, x1, rfl, rfl⟩
            have e1 : x * (2 * at0 + 2333) ≤ 2147483629 * 2002333 := Int.mul_le_mul (by omega) (by omega) (by omega) (by decide)
            have e2 : 0 ≤ x * (2 * at0 + 2333) := Int.mul_nonneg x0 (by omega)
            have e3 : 63059 * at0 * at0 ≤ 63059000000 * 1000000 := Int.mul_le_mul (by omega) (by omega) a0 (by decide)
            have e4 : 0 ≤ 63059 * at0 * at0 := Int.mul_nonneg (by omega) a0
            have pw3 : CPow (x * (2 * at0 + 2333) + 63059 * at0 * at0 + 60037) 3 := ⟨by decide, by decide, by omega⟩
            refine ⟨_, rfl, _, rfl, _, _, rfl, rfl, .inl ⟨by decide, by decide⟩, _, _, rfl, rfl, _, _, rfl, rfl, .inl ⟨by omega, by omega⟩, _, rfl, _, _, rfl, rfl, .inl ⟨by decide, by decide⟩, _, rfl, _, _, rfl, rfl, .inr ⟨by omega, by omega⟩, _, _, rfl, rfl, _, _, rfl, rfl, _, _, rfl, rfl, pw3, .inl ⟨_, rfl, _, _, rfl, rfl, (by show (0 : Int) < 2147483549; decide), ?_⟩⟩
            refine ⟨_, rfl, _, _, rfl, rfl, ⟨by decide, by decide⟩, .inl ⟨_, rfl, _, rfl, _, _, rfl, rfl, mp, ?_⟩⟩
            exact k _ _ (Int.emod_nonneg _ (by omega)) (Int.emod_lt_of_pos _ mp) b3 ⟨⟨at0 + 1, rest, h3, by omega, by omega, r0⟩, b3.seq hcp hc, hcp, hcl⟩
end
end K
namespace K
open PySem L2 Rg
open Evl (pss_cut)
theorem int_at {l : List Int} {i : Nat} {v : V} (h : (l.map V.int)[i]? = some v) : ∃ z, l[i]? = some z ∧ v = .int z := by
  rw [List.getElem?_map] at h
  cases e : l[i]? with
  | none => rw [e] at h; cases h
  | some z => rw [e] at h; exact ⟨z, rfl, (Option.some.inj h).symm⟩
theorem take_snoc {α : Type} {l : List α} {i : Nat} {z : α} (h : l[i]? = some z) : l.take i ++ [z] = l.take (i + 1) := by
  rw [List.take_succ, h]; rfl
theorem sz {n : Nat} (h : n ≤ 100000) : n ≤ sizeLine := Nat.le_trans h (by decide)
theorem szl {n : Nat} (h : n < 100000) : n < sizeLine := Nat.lt_of_lt_of_le h (by decide)
theorem cutV_to (xs : List V) (k : Nat) : cutV xs none (some (k : Int)) = xs.take k := by
  unfold cutV
  rw [HT.sIx_none, HT.sIx_nat, List.drop_zero, Nat.sub_zero]
  rcases Nat.le_total k xs.length with h | h
  · rw [Nat.min_eq_left h]
  · rw [Nat.min_eq_right h, List.take_length, List.take_of_length_le h]
section
variable {P : Program} {w : World} {K : PySem.W.Frag} {mg : Str → Option Value} {base : Heap}
/-! ### the pen -/
def spPen (K : PySem.W.Frag) : Sp := fun vs H Q _ => ∃ (a : Addr) (ns : List Int), vs = [.ref a] ∧ SqL K H a (ns.map V.int) ∧ ns.length ≤ 63 ∧
  ∀ (p : Addr) (e : Addr × List Int) (H' : Hp), Same H H' → H p = none → PenAt K H' p e 0 → Q (.ref p) H'
abbrev nPen : List Str := ["_law_script", "_law_cell"]
theorem scPen : FnScope nPen ["_law_script"] (defScope sLwBench) := ⟨rfl, rfl, rfl, by decide +kernel, rfl, by decide +kernel, by decide +kernel⟩
theorem ok_pen {f : Addr} {fd : FuncData} (F : Fun K "_law_bench" "_law_bench" sLwBench f fd) (T : Bi mg) : FnOk P w K mg base CX0 2 f fd ["_law_script"] (spPen K) := by
  refine F.ok scPen (fun vs H Q E h => ?_) (fun cdv A outer s H vs Q E hr h => ?_)
  · obtain ⟨a, ns, rfl, _⟩ := h
    rfl
  · have nd := scPen.nd
    refine ⟨_, pss_one (ps_ret (pe_lst (pa_cons (pe_lc (own := [("_law_cell", 1)]) (g := gName 1) (tt := tYes) rfl nd (pi_list (pe_slice sl_list (pv 0) po_none (po_some pe_int)))
      (blkOk_by (N := nPen) (sc := defScope sLwBench) (by decide +kernel)) (fun _ _ _ _ _ => pg_name (i := 1) nd rfl (Or.inl rfl)) (fun _ _ _ _ _ => pts_nil)
      (fun _ _ _ _ _ => pe_callTy call_int1 (by rfl) T.int (by decide +kernel) (pa_cons (pv 1) pa_nil))) (pa_cons pe_int (pa_cons pe_int pa_nil))))), ?_⟩
    obtain ⟨a, ns, rfl, hS, hl, k⟩ := h
    refine ⟨_, rfl, _, rfl, a, _, rfl, hS, fun q hq => ?_⟩
    have e0 : cutV (ns.map V.int) none (some 58) = (ns.take 58).map V.int := by
      rw [show (58 : Int) = ((58 : Nat) : Int) from rfl, cutV_to, List.map_take]
    rw [e0]
    refine ⟨q, rfl, ⟨_, SqL.of upd_same⟩, fun D hD => ?_⟩
    have hqD : q ≠ D := ne_of_none upd_same hD
    have sD : Same (upd H q (.lst ((ns.take 58).map V.int))) (upd (upd H q (.lst ((ns.take 58).map V.int))) D (.lst [])) := (Same.refl _).new hD
    refine lc_list (K := K) (a := q) (xs := (ns.take 58).map V.int) (fun i H' => Same (upd H q (.lst ((ns.take 58).map V.int))) H' ∧ H' D = some (.lst (((ns.take 58).take i).map V.int)))
      ⟨sD, upd_same⟩ (fun i H' _ p => p.1.seq (SqL.of upd_same)) ?_ ?_
    · rintro i x H' hi ⟨s1, h1⟩
      obtain ⟨z, hz, rfl⟩ := int_at hi
      refine ⟨rfl, _, rfl, .inl ⟨_, rfl, _, h1, szl (by rw [List.length_map, List.length_take, List.length_take]; omega), s1.mut hD, ?_⟩⟩
      rw [← take_snoc hz, List.map_append]
      exact upd_same
    · rintro H' ⟨s1, h1⟩
      rw [List.length_map, List.take_length] at h1
      refine ⟨(by show 3 ≤ sizeLine; decide), fun p hp => ?_⟩
      have nD : H D = none := by
        rw [upd_ne hqD.symm] at hD
        exact hD
      have s2 : Same H H' := fun b o e => s1 b o (by rw [upd_ne (ne_of_none e hq)]; exact e)
      refine k p (D, ns.take 58) _ (s2.new hp) (s2.free hp) ⟨⟨0, 0, upd_same, by decide, by decide, by decide⟩, SqL.of (by rw [upd_ne (ne_of_none h1 hp)]; exact h1), ne_of_none h1 hp, by rw [List.length_take]; omega⟩
end
end K
namespace K
open PySem L2 Rg
open Evl (pss_cut)
/-- the first that stands twice, behind those seen -/
def ft : List Int → List Int → Option Int
  | _, [] => none
  | seen, x :: xs => if x ∈ seen then some x else ft (seen ++ [x]) xs
def oV : Option Int → V
  | none => .non
  | some x => .int x
def seenK (l : List Int) : List (Key × V) := l.map fun k => (Sum.inl k, V.bl true)
theorem seen_val (l : List Int) (n : Int) : valV (seenK l) (Sum.inl n : Key) = if n ∈ l then some (.bl true) else none := by
  induction l with
  | nil => rfl
  | cons x l ih =>
    by_cases e : x = n
    · rw [if_pos (by rw [e]; exact List.mem_cons_self ..)]
      exact valV_pos (p := ((Sum.inl x : Key), V.bl true)) (by rw [e])
    · have h1 : valV (seenK (x :: l)) (Sum.inl n : Key) = valV (seenK l) (Sum.inl n) := valV_neg (p := ((Sum.inl x : Key), V.bl true)) (fun z => e (Sum.inl.inj z))
      rw [h1, ih]
      by_cases f : n ∈ l
      · rw [if_pos f, if_pos (List.mem_cons_of_mem _ f)]
      · rw [if_neg f, if_neg fun z => (List.mem_cons.mp z).elim (fun q => e q.symm) f]
theorem seen_len (l : List Int) : (seenK l).length = l.length := List.length_map ..
theorem seen_put {l : List Int} {n : Int} (h : n ∉ l) : putK (seenK l) (Sum.inl n : Key) (.bl true) = seenK (l ++ [n]) := by
  rw [putK_new _ (by rw [seen_val, if_neg h])]
  simp [seenK]
theorem ft_step {ns : List Int} {i : Nat} {z : Int} (h : ns[i]? = some z) : ft (ns.take i) (ns.drop i) = if z ∈ ns.take i then some z else ft (ns.take (i + 1)) (ns.drop (i + 1)) := by
  obtain ⟨hi, rfl⟩ := List.getElem?_eq_some_iff.mp h
  rw [List.drop_eq_getElem_cons hi, ← take_snoc h]
  rfl
section
variable {P : Program} {w : World} {K : PySem.W.Frag} {mg : Str → Option Value} {base : Heap}
/-! ### fixed, of an int -/
def spFixed : Sp := fun vs H Q _ => ∃ i : Int, vs = [.int i] ∧ ∀ H', Same H H' → Q (.int i) H'
theorem scFixed : FnScope ["value"] ["value"] (defScope sFixed) := ⟨rfl, rfl, rfl, by decide +kernel, rfl, by decide +kernel, by decide +kernel⟩
theorem ok_fixed {f : Addr} {fd : FuncData} (F : Fun K "fixed" "fixed" sFixed f fd) (T : Bi mg) : FnOk P w K mg base CX0 1 f fd ["value"] spFixed := by
  refine F.ok scFixed (fun vs H Q E h => ?_) (fun cdv A outer s H vs Q E hr h => ?_)
  · obtain ⟨v, rfl, _⟩ := h
    rfl
  · refine ⟨_, pss_cons (ps_if (pt_val (pe_callB call_isiT (by rfl) T.isinstance (by decide +kernel) (pa_cons (pv 0) (pa_cons (pe_tup (pa_cons (pe_bltn (v := .ty "list") (u := .type "list") (by rfl) T.list (by decide +kernel) rfl) (pa_cons (pe_bltn (v := .ty "tuple") (u := .type "tuple") (by rfl) T.tuple (by decide +kernel) rfl) pa_nil))) pa_nil)))) (pss_one ps_never) pss_nil)
      (pss_one (ps_ret (pv 0))), ?_⟩
    obtain ⟨i, rfl, q⟩ := h
    refine ⟨_, rfl, (by show 2 ≤ sizeLine; decide), fun p hp => ?_⟩
    have s1 : Same H (upd H p (.tup [.ty "list", .ty "tuple"])) := (Same.refl H).new hp
    refine ⟨.int i, p, [.ty "list", .ty "tuple"], .type "int", _, false, rfl, upd_same, .cons (.ty _) (.cons (.ty _) .nil), .base (.int i), kitAny_cons (kit_ty (kit_list "int" (by decide))) (fun e => kitAny_cons (b := false) (r := false) (kit_ty (kit_tuple "int" (by decide))) (fun _ => kitAny_nil) fun e' => nomatch e') (fun e => nomatch e), _, rfl, iteF ?_⟩
    exact ⟨_, rfl, q _ s1⟩
/-! ### twice_at, first_twice, of ints: a list | a tuple -/
def tatQ (ns : List Int) (H : Hp) (Q : VK) : Prop := ∀ H', Same H H' → (ft [] ns = none → Q .non H') ∧ ∀ (i : Nat) (z : Int), ns[i]? = some z → ft [] ns = some z → Q (.int (i : Nat)) H'
def spTaL (K : PySem.W.Frag) : Sp := fun vs H Q _ => ∃ (a : Addr) (ns : List Int), vs = [.ref a] ∧ SqL K H a (ns.map V.int) ∧ ns.length ≤ 1000 ∧ tatQ ns H Q
def spTaT (K : PySem.W.Frag) : Sp := fun vs H Q _ => ∃ (a : Addr) (ns : List Int), vs = [.ref a] ∧ SqT K H a (ns.map V.int) ∧ ns.length ≤ 1000 ∧ tatQ ns H Q
abbrev nTa : List Str := ["values", "seen", "at", "value", "key"]
theorem scTa : FnScope nTa ["values"] (defScope sTwiceAt) := ⟨rfl, rfl, rfl, by decide +kernel, rfl, by decide +kernel, by decide +kernel⟩
theorem ok_taL {f fX : Addr} {fd fdX : FuncData} (F : Fun K "twice_at" "twice_at" sTwiceAt f fd) (T : Bi mg) (G : DefAt P w K mg base CX0 1 "fixed" ["value"] spFixed fX fdX) : FnOk P w K mg base CX0 2 f fd ["values"] (spTaL K) := by
  refine F.ok scTa (fun vs H Q E h => ?_) (fun cdv A outer s H vs Q E hr h => ?_)
  · obtain ⟨a, ns, rfl, _⟩ := h
    rfl
  · have hu := hu_of hr
    have nd := scTa.nd
    refine ⟨_, pss_cons (ps_set (i := 1) nd rfl (Or.inl rfl) pe_dnewK)
      (pss_cons (ps_for PassesOwn.never rfl (pi_enum (by rfl) T.enumerate (pa_cons (pv 0) pa_nil)) (pg_tup rfl (pgs_cons (pg_name (i := 2) nd rfl (Or.inl rfl)) (pgs_cons (pg_name (i := 3) nd rfl (Or.inl rfl)) pgs_nil)))
        (pss_cons (ps_set (i := 4) nd rfl (Or.inl rfl) (pe_call G.ok hr rfl G.g G.kp G.b .nil pass0 (pa_cons (pv 3) pa_nil)))
        (pss_cons (ps_if (pt_cmp (pc_din hu (pv 4) (pv 1))) (pss_one (ps_ret (pv 2))) pss_nil)
        (pss_one (ps_dput hu (pv 1) (pv 4) pe_bl rfl)))))
      (pss_one (ps_ret pe_non))), ?_⟩
    obtain ⟨a, ns, rfl, hs, hl, q⟩ := h
    intro d hd
    refine ⟨_, rfl, a, _, rfl, ((Same.refl H).new hd).seq hs, ?_⟩
    refine for_it walk_enum (fun i σ H' => ∃ (z1 v k : Option V), σ = [some (.ref a), some (.ref d), z1, v, k] ∧ Same H H' ∧ H' d = some (.dK (seenK (ns.take i))) ∧ ft [] ns = ft (ns.take i) (ns.drop i))
      ⟨none, none, none, rfl, (Same.refl H).new hd, upd_same, rfl⟩ (fun i σ H' _ ⟨_, _, _, _, s, _⟩ => s.seq hs) ?_ ?_
    · rintro i x σ H1 H2 hi ⟨z1, v, k, rfl, s1, h1, e1⟩ ⟨U, x1, x2, rfl, hU, rfl, ex1, ex2⟩
      obtain rfl := (Option.some.inj ex1).symm
      obtain ⟨z, hz, rfl⟩ := int_at ex2
      rw [List.length_map] at hi
      rw [ft_step hz] at e1
      have s2 : Same H1 (upd H1 U (.tup [.int (i : Nat), .int z])) := (Same.refl H1).new hU
      refine ⟨U, _, rfl, .inl (.inl upd_same), rfl, _, _, rfl, _, _, rfl, rfl, ?_⟩
      refine ⟨_, rfl, z, rfl, fun H3 s3 => ?_⟩
      have h3 := s3 _ _ (s2 _ _ h1)
      have s13 := s1.trans (s2.trans s3)
      refine ⟨_, rfl, _, rfl, d, _, rfl, DGet.k (k := Sum.inl z) h3, _, rfl, ?_⟩
      rw [seen_val]
      by_cases c : z ∈ ns.take i
      · rw [if_pos c] at e1 ⊢
        refine iteT ?_
        exact ⟨_, rfl, (q H3 s13).2 i z hz e1⟩
      · rw [if_neg c] at e1 ⊢
        refine iteF ?_
        refine ⟨_, rfl, _, rfl, d, _, rfl, DPut.k (k := Sum.inl z) h3 (by rw [seen_len, List.length_take]; exact sm (by omega)), ?_⟩
        rw [seen_put c, take_snoc hz]
        exact ⟨_, _, _, rfl, s13.mut hd, upd_same, e1⟩
    · rintro σ H' ⟨z1, v, k, rfl, s1, h1, e1⟩
      rw [List.length_map, List.drop_length] at e1
      exact (q H' s1).1 e1
theorem ok_taT {f fX : Addr} {fd fdX : FuncData} (F : Fun K "twice_at" "twice_at" sTwiceAt f fd) (T : Bi mg) (G : DefAt P w K mg base CX0 1 "fixed" ["value"] spFixed fX fdX) : FnOk P w K mg base CX0 2 f fd ["values"] (spTaT K) := by
  refine F.ok scTa (fun vs H Q E h => ?_) (fun cdv A outer s H vs Q E hr h => ?_)
  · obtain ⟨a, ns, rfl, _⟩ := h
    rfl
  · have hu := hu_of hr
    have nd := scTa.nd
    refine ⟨_, pss_cons (ps_set (i := 1) nd rfl (Or.inl rfl) pe_dnewK)
      (pss_cons (ps_for PassesOwn.never rfl (pi_enumT (by rfl) T.enumerate (pa_cons (pv 0) pa_nil)) (pg_tup rfl (pgs_cons (pg_name (i := 2) nd rfl (Or.inl rfl)) (pgs_cons (pg_name (i := 3) nd rfl (Or.inl rfl)) pgs_nil)))
        (pss_cons (ps_set (i := 4) nd rfl (Or.inl rfl) (pe_call G.ok hr rfl G.g G.kp G.b .nil pass0 (pa_cons (pv 3) pa_nil)))
        (pss_cons (ps_if (pt_cmp (pc_din hu (pv 4) (pv 1))) (pss_one (ps_ret (pv 2))) pss_nil)
        (pss_one (ps_dput hu (pv 1) (pv 4) pe_bl rfl)))))
      (pss_one (ps_ret pe_non))), ?_⟩
    obtain ⟨a, ns, rfl, hs, hl, q⟩ := h
    intro d hd
    refine ⟨_, rfl, a, _, rfl, ((Same.refl H).new hd).tup hs, ?_⟩
    refine for_it walk_enumT (fun i σ H' => ∃ (z1 v k : Option V), σ = [some (.ref a), some (.ref d), z1, v, k] ∧ Same H H' ∧ H' d = some (.dK (seenK (ns.take i))) ∧ ft [] ns = ft (ns.take i) (ns.drop i))
      ⟨none, none, none, rfl, (Same.refl H).new hd, upd_same, rfl⟩ (fun i σ H' _ ⟨_, _, _, _, s, _⟩ => s.tup hs) ?_ ?_
    · rintro i x σ H1 H2 hi ⟨z1, v, k, rfl, s1, h1, e1⟩ ⟨U, x1, x2, rfl, hU, rfl, ex1, ex2⟩
      obtain rfl := (Option.some.inj ex1).symm
      obtain ⟨z, hz, rfl⟩ := int_at ex2
      rw [List.length_map] at hi
      rw [ft_step hz] at e1
      have s2 : Same H1 (upd H1 U (.tup [.int (i : Nat), .int z])) := (Same.refl H1).new hU
      refine ⟨U, _, rfl, .inl (.inl upd_same), rfl, _, _, rfl, _, _, rfl, rfl, ?_⟩
      refine ⟨_, rfl, z, rfl, fun H3 s3 => ?_⟩
      have h3 := s3 _ _ (s2 _ _ h1)
      have s13 := s1.trans (s2.trans s3)
      refine ⟨_, rfl, _, rfl, d, _, rfl, DGet.k (k := Sum.inl z) h3, _, rfl, ?_⟩
      rw [seen_val]
      by_cases c : z ∈ ns.take i
      · rw [if_pos c] at e1 ⊢
        refine iteT ?_
        exact ⟨_, rfl, (q H3 s13).2 i z hz e1⟩
      · rw [if_neg c] at e1 ⊢
        refine iteF ?_
        refine ⟨_, rfl, _, rfl, d, _, rfl, DPut.k (k := Sum.inl z) h3 (by rw [seen_len, List.length_take]; exact sm (by omega)), ?_⟩
        rw [seen_put c, take_snoc hz]
        exact ⟨_, _, _, rfl, s13.mut hd, upd_same, e1⟩
    · rintro σ H' ⟨z1, v, k, rfl, s1, h1, e1⟩
      rw [List.length_map, List.drop_length] at e1
      exact (q H' s1).1 e1
def spTwL (K : PySem.W.Frag) : Sp := fun vs H Q _ => ∃ (a : Addr) (ns : List Int), vs = [.ref a] ∧ SqL K H a (ns.map V.int) ∧ ns.length ≤ 1000 ∧ ∀ H', Same H H' → Q (oV (ft [] ns)) H'
def spTwT (K : PySem.W.Frag) : Sp := fun vs H Q _ => ∃ (a : Addr) (ns : List Int), vs = [.ref a] ∧ SqT K H a (ns.map V.int) ∧ ns.length ≤ 1000 ∧ ∀ H', Same H H' → Q (oV (ft [] ns)) H'
theorem ft_mem : ∀ (xs seen : List Int) (z : Int), ft seen xs = some z → z ∈ xs
  | [], seen, z, h => by cases h
  | x :: xs, seen, z, h => by
    unfold ft at h
    by_cases c : x ∈ seen
    · rw [if_pos c] at h
      rw [Option.some.inj h]
      exact List.mem_cons_self ..
    · rw [if_neg c] at h
      exact List.mem_cons_of_mem _ (ft_mem xs _ z h)
abbrev nTw : List Str := ["values", "at"]
theorem scTw : FnScope nTw ["values"] (defScope sFirstTwice) := ⟨rfl, rfl, rfl, by decide +kernel, rfl, by decide +kernel, by decide +kernel⟩
theorem ok_twL {f fX fA : Addr} {fd fdX fdA : FuncData} (F : Fun K "first_twice" "first_twice" sFirstTwice f fd) (G : DefAt P w K mg base CX0 1 "fixed" ["value"] spFixed fX fdX) (A' : DefAt P w K mg base CX0 2 "twice_at" ["values"] (spTaL K) fA fdA) : FnOk P w K mg base CX0 3 f fd ["values"] (spTwL K) := by
  refine F.ok scTw (fun vs H Q E h => ?_) (fun cdv A outer s H vs Q E hr h => ?_)
  · obtain ⟨a, ns, rfl, _⟩ := h
    rfl
  · have nd := scTw.nd
    refine ⟨_, pss_cons (ps_set (i := 1) nd rfl (Or.inl rfl) (pe_call A'.ok hr rfl A'.g A'.kp A'.b .nil pass0 (pa_cons (pv 0) pa_nil)))
      (pss_one (ps_ret (pe_ifExp (pt_cmpR op_isN (pv 1) pe_non (nomark _)) pe_non (pe_call G.ok (hr.mono (by decide)) rfl G.g G.kp G.b .nil pass0 (pa_cons (pe_ix (r := rIxL K) ix_list (pv 0) (pv 1) (fun _ _ => rfl)) pa_nil))))), ?_⟩
    obtain ⟨a, ns, rfl, hs, hl, q⟩ := h
    refine ⟨_, rfl, a, ns, rfl, hs, hl, fun H1 s1 => ⟨fun e => ?_, fun i z hz e => ?_⟩⟩
    · have qq := q H1 s1
      rw [e] at qq
      exact ⟨_, rfl, rfl, _, rfl, iteT qq⟩
    · refine ⟨_, rfl, rfl, _, rfl, iteF ?_⟩
      refine ⟨_, rfl, _, rfl, a, _, _, _, rfl, rfl, s1.seq hs, atI_nat (by rw [List.getElem?_map, hz]; rfl), z, rfl, fun H2 s2 => ?_⟩
      have qq := q H2 (s1.trans s2)
      rw [e] at qq
      exact qq
theorem ok_twT {f fX fA : Addr} {fd fdX fdA : FuncData} (F : Fun K "first_twice" "first_twice" sFirstTwice f fd) (G : DefAt P w K mg base CX0 1 "fixed" ["value"] spFixed fX fdX) (A' : DefAt P w K mg base CX0 2 "twice_at" ["values"] (spTaT K) fA fdA) : FnOk P w K mg base CX0 3 f fd ["values"] (spTwT K) := by
  refine F.ok scTw (fun vs H Q E h => ?_) (fun cdv A outer s H vs Q E hr h => ?_)
  · obtain ⟨a, ns, rfl, _⟩ := h
    rfl
  · have nd := scTw.nd
    refine ⟨_, pss_cons (ps_set (i := 1) nd rfl (Or.inl rfl) (pe_call A'.ok hr rfl A'.g A'.kp A'.b .nil pass0 (pa_cons (pv 0) pa_nil)))
      (pss_one (ps_ret (pe_ifExp (pt_cmpR op_isN (pv 1) pe_non (nomark _)) pe_non (pe_call G.ok (hr.mono (by decide)) rfl G.g G.kp G.b .nil pass0 (pa_cons (pe_ix (r := rIxT K) ix_tup (pv 0) (pv 1) (fun _ _ => rfl)) pa_nil))))), ?_⟩
    obtain ⟨a, ns, rfl, hs, hl, q⟩ := h
    refine ⟨_, rfl, a, ns, rfl, hs, hl, fun H1 s1 => ⟨fun e => ?_, fun i z hz e => ?_⟩⟩
    · have qq := q H1 s1
      rw [e] at qq
      exact ⟨_, rfl, rfl, _, rfl, iteT qq⟩
    · refine ⟨_, rfl, rfl, _, rfl, iteF ?_⟩
      refine ⟨_, rfl, _, rfl, a, _, _, _, rfl, rfl, s1.tup hs, atI_nat (by rw [List.getElem?_map, hz]; rfl), z, rfl, fun H2 s2 => ?_⟩
      have qq := q H2 (s1.trans s2)
      rw [e] at qq
      exact qq
end
end K
namespace K
open PySem L2 Rg
open Evl (pss_cut)
section
variable {P : Program} {w : World} {K : PySem.W.Frag} {mg : Str → Option Value} {base : Heap}
/-! ### errors with one field -/
def spIni (K : PySem.W.Frag) (f : Str) : Sp := fun vs H Q _ => ∃ (a C : Addr) (v : V), vs = [.ref a, v] ∧ OexC K C ∧ PySem.W.findIn K (.ref C) f = some none ∧ H a = some (exo a C none) ∧
  ∀ d, H d = none → d ≠ a → Q .non (upd (upd H d (exd d [(f, v)])) a (exo a C (some d)))
theorem scBadLot : FnScope ["self", "part"] ["self", "part"] (defScope sBadLotInit) := ⟨rfl, rfl, rfl, by decide +kernel, rfl, by decide +kernel, by decide +kernel⟩
theorem scMissing : FnScope ["self", "value"] ["self", "value"] (defScope sMissingInit) := ⟨rfl, rfl, rfl, by decide +kernel, rfl, by decide +kernel, by decide +kernel⟩
theorem scTwice : FnScope ["self", "value"] ["self", "value"] (defScope sTwiceInit) := ⟨rfl, rfl, rfl, by decide +kernel, rfl, by decide +kernel, by decide +kernel⟩
theorem ok_badLotI {f : Addr} {fd : FuncData} (F : Fun K "__init__" "BadLot.__init__" sBadLotInit f fd) : FnOk P w K mg base CX0 1 f fd ["self", "part"] (spIni K "part") := by
  refine F.ok scBadLot (fun vs H Q E h => ?_) (fun cdv A outer s H vs Q E hr h => ?_)
  · obtain ⟨a, C, v, rfl, _⟩ := h
    rfl
  · refine ⟨_, pss_one (ps_ost (pv 0) (pv 1)), ?_⟩
    obtain ⟨a, C, v, rfl, o, n, ha, k⟩ := h
    exact ⟨_, rfl, _, rfl, a, C, rfl, o, n, .inl ⟨ha, fun d h1 h2 => k d h1 h2⟩⟩
theorem ok_missingI {f : Addr} {fd : FuncData} (F : Fun K "__init__" "Missing.__init__" sMissingInit f fd) : FnOk P w K mg base CX0 1 f fd ["self", "value"] (spIni K "value") := by
  refine F.ok scMissing (fun vs H Q E h => ?_) (fun cdv A outer s H vs Q E hr h => ?_)
  · obtain ⟨a, C, v, rfl, _⟩ := h
    rfl
  · refine ⟨_, pss_one (ps_ost (pv 0) (pv 1)), ?_⟩
    obtain ⟨a, C, v, rfl, o, n, ha, k⟩ := h
    exact ⟨_, rfl, _, rfl, a, C, rfl, o, n, .inl ⟨ha, fun d h1 h2 => k d h1 h2⟩⟩
theorem ok_twiceI {f : Addr} {fd : FuncData} (F : Fun K "__init__" "Twice.__init__" sTwiceInit f fd) : FnOk P w K mg base CX0 1 f fd ["self", "value"] (spIni K "value") := by
  refine F.ok scTwice (fun vs H Q E h => ?_) (fun cdv A outer s H vs Q E hr h => ?_)
  · obtain ⟨a, C, v, rfl, _⟩ := h
    rfl
  · refine ⟨_, pss_one (ps_ost (pv 0) (pv 1)), ?_⟩
    obtain ⟨a, C, v, rfl, o, n, ha, k⟩ := h
    exact ⟨_, rfl, _, rfl, a, C, rfl, o, n, .inl ⟨ha, fun d h1 h2 => k d h1 h2⟩⟩
/-- the class x of errors with the field f, at C, its __init__ at fI -/
structure ErrAt (P : Program) (w : World) (K : PySem.W.Frag) (mg : Str → Option Value) (base : Heap) (x f : Str) (C fI : Addr) (fdI : FuncData) : Prop where
  oex : OexC K C
  ic : PySem.W.findIn K (.ref C) "__init__" = some (some (.ref fI))
  ti : PySem.W.typeIn K (.ref fI) = some (.type "function")
  nf : PySem.W.findIn K (.ref C) f = some none
  g : mg x = some (.ref C)
  b : Binds K fdI ["self", f] []
  ok : FnOk P w K mg base CX0 1 fI fdI ["self", f] (spIni K f)
/-- an error of the class at C with the field f holding v leaves; what was tracked stands -/
def Errs (E : XK) (C : Addr) (f : Str) (v : V) (H : Hp) : Prop := ∀ (d : Addr) (H' : Hp), Same H H' → H d = none → H' d = some (.xd [(f, v)]) → E (.ref C) (some d) H'
theorem Errs.later {E : XK} {C : Addr} {f : Str} {v : V} {H H1 : Hp} (h : Errs E C f v H) (s : Same H H1) : Errs E C f v H1 := fun d H' s' n e => h d H' (s.trans s') (s.free n) e
/-- the making of such an error, as a raise asks it -/
theorem err_made {E : XK} {C : Addr} {f : Str} {v : V} {H : Hp} (o : OexC K C) (n : PySem.W.findIn K (.ref C) f = some none) (h : Errs E C f v H) :
    ([v] : List V).length ≤ 1000 ∧ ∀ a, H a = none → spIni K f (.ref a :: ([v] ++ [])) (upd H a (exo a C none))
      (fun u H2 => u = .non ∧ ∃ (d : Addr) (fs : List (Str × V)), H2 a = some (exo a C (some d)) ∧ H2 d = some (exd d fs) ∧ H d = none ∧ E (.ref C) (some d) (upd (del H2 a) d (.xd fs))) (fun _ _ _ => False) := by
  refine ⟨(by show 1 ≤ 1000; decide), fun a ha => ⟨a, C, v, rfl, o, n, upd_same, fun d hd hda => ⟨rfl, d, [(f, v)], upd_same, by rw [upd_ne hda, upd_same], ?_, ?_⟩⟩⟩
  · rw [upd_ne hda] at hd
    exact hd
  · rw [upd_ne hda] at hd
    refine h d _ (fun b u e => ?_) hd upd_same
    have hba : b ≠ a := ne_of_none e ha
    have hbd : b ≠ d := ne_of_none e hd
    rw [upd_ne hbd, del_ne hba, upd_ne hba, upd_ne hbd, upd_ne hba]
    exact e
/-! ### want_bar -/
def spWantBar (C : Addr) : Sp := fun vs H Q E => ∃ (v many : Int), vs = [.int v, .int many] ∧ ((0 ≤ v ∧ v < many ∧ ∀ H', Same H H' → Q .non H') ∨ (¬ (0 ≤ v ∧ v < many) ∧ Errs E C "value" (.int v) H))
theorem scWantBar : FnScope ["value", "many"] ["value", "many"] (defScope sWantBar) := ⟨rfl, rfl, rfl, by decide +kernel, rfl, by decide +kernel, by decide +kernel⟩
theorem ok_wantBar {f fW C fI : Addr} {fd fdW fdI : FuncData} (F : Fun K "want_bar" "want_bar" sWantBar f fd) (W : DefAt P w K mg base CX0 2 "is_within" ["value", "least", "most"] spWithin fW fdW) (B : ErrAt P w K mg base "NoBar" "value" C fI fdI) :
    FnOk P w K mg base (L2.CX P w) 3 f fd ["value", "many"] (spWantBar C) := by
  refine F.okX scWantBar (fun vs H Q E h => ?_) (fun cdv A outer s H vs Q E hr h => ?_)
  · obtain ⟨v, many, rfl, _⟩ := h
    rfl
  · refine ⟨_, pss_one (ps_if (pt_not (pt_val (pe_call W.ok hr rfl W.g W.kp W.b .nil pass0 (pa_cons (pv 0) (pa_cons pe_int (pa_cons (pe_op op_sub (pv 1) pe_int) pa_nil))))))
      (pss_one (ps_raise rfl (takes_of rfl rfl rfl rfl) (pmk_oex B.oex B.ic B.ti B.ok hr B.b .nil pass0 rfl B.g (pa_cons (pv 0) pa_nil)))) pss_nil), ?_⟩
    obtain ⟨v, many, rfl, h⟩ := h
    refine ⟨_, rfl, _, rfl, _, _, rfl, rfl, v, 0, many - 1, rfl, _, rfl, ?_⟩
    rcases h with ⟨h0, h1, q⟩ | ⟨hn, q⟩
    · refine iteBF ?_ (q H (Same.refl H))
      simp only [decide_eq_true h0, decide_eq_true (show v ≤ many - 1 by omega)]
      rfl
    · refine iteBT ?_ ?_
      · have e : (decide (0 ≤ v) && decide (v ≤ many - 1)) = false := by
          cases c : (decide (0 ≤ v) && decide (v ≤ many - 1)) with
          | false => rfl
          | true =>
            simp only [Bool.and_eq_true, decide_eq_true_eq] at c
            exact absurd ⟨c.1, by omega⟩ hn
        show (!(decide (0 ≤ v) && decide (v ≤ many - 1))) = true
        rw [e]
        rfl
      · exact ⟨_, rfl, err_made B.oex B.nf q⟩
end
end K
namespace K
open PySem L2 Rg
open Evl (pss_cut)
/-- what becomes of a lot that is passed -/
inductive Lr where
  | bad | bar (b : Int) | twice (b : Int) | ok (ns : List Int)
def isBar (many b : Int) : Bool := decide (0 ≤ b) && decide (b < many)
def res (many : Int) (ns : List Int) : Lr := match ns.find? (fun b => !isBar many b) with
  | some b => .bar b
  | none => match ft [] ns with
    | some b => .twice b
    | none => .ok ns
theorem isBar_iff {many b : Int} : isBar many b = true ↔ 0 ≤ b ∧ b < many := by
  unfold isBar
  rw [Bool.and_eq_true, decide_eq_true_eq, decide_eq_true_eq]
theorem res_bar {many b : Int} {ns : List Int} {i : Nat} (h : ∀ x ∈ ns.take i, isBar many x = true) (hb : ns[i]? = some b) (nb : ¬ isBar many b = true) : res many ns = .bar b := by
  have e : ns.find? (fun b => !isBar many b) = some b := by
    obtain ⟨hi, rfl⟩ := List.getElem?_eq_some_iff.mp hb
    have e1 : ns = ns.take i ++ ns[i] :: ns.drop (i + 1) := by rw [List.getElem_cons_drop, List.take_append_drop]
    have e2 : (ns.take i).find? (fun b => !isBar many b) = none := List.find?_eq_none.mpr fun x hx => by rw [h x hx]; decide
    have e3 : ns.find? (fun b => !isBar many b) = (ns.take i ++ ns[i] :: ns.drop (i + 1)).find? (fun b => !isBar many b) := congrArg _ e1
    rw [e3, List.find?_append, e2, List.find?_cons]
    have e4 : isBar many ns[i] = false := by
      cases q : isBar many ns[i] with
      | false => rfl
      | true => exact absurd q nb
    rw [e4]
    rfl
  unfold res
  rw [e]
theorem res_all {many : Int} {ns : List Int} (h : ∀ x ∈ ns, isBar many x = true) : res many ns = match ft [] ns with | some b => .twice b | none => .ok ns := by
  have e : ns.find? (fun b => !isBar many b) = none := List.find?_eq_none.mpr fun x hx => by rw [h x hx]; decide
  unfold res
  rw [e]
section
variable {P : Program} {w : World} {K : PySem.W.Frag} {mg : Str → Option Value} {base : Heap}
/-- where the three errors stand -/
structure Cs where
  l : Addr
  n : Addr
  t : Addr
def LotFin (E : XK) (c : Cs) (part : Str) (H : Hp) (r : Lr) (k : List Int → Prop) : Prop := match r with
  | .bad => Errs E c.l "part" (.str part) H
  | .bar b => Errs E c.n "value" (.int b) H
  | .twice b => Errs E c.t "value" (.int b) H
  | .ok ns => k ns
def spWLO (K : PySem.W.Frag) (c : Cs) : Sp := fun vs H Q E => ∃ (v : V) (k : String) (many : Int) (part : Str), vs = [v, .int many, .str part] ∧ Knd K H v k ∧ k ≠ "list" ∧ k ≠ "tuple" ∧ Errs E c.l "part" (.str part) H
def spWLL (K : PySem.W.Frag) (c : Cs) : Sp := fun vs H Q E => ∃ (a : Addr) (xs : List V) (kf : V → String) (many : Int) (part : Str), vs = [.ref a, .int many, .str part] ∧ Knd K H (.ref a) "list" ∧ SqL K H a xs ∧ xs.length ≤ 1000 ∧ (∀ x ∈ xs, Knd K H x (kf x)) ∧
  (((xs.all fun x => decide (kf x = "int")) = false ∧ Errs E c.l "part" (.str part) H) ∨
   ∃ ns, xs = ns.map V.int ∧ (xs.all fun x => decide (kf x = "int")) = true ∧ LotFin E c part H (res many ns) fun ns => ∀ (p : Addr) (ms : List Int) (H' : Hp), ms.Perm ns → Same H H' → H' p = some (.tup (ms.map V.int)) → Q (.ref p) H')
def spWLT (K : PySem.W.Frag) (c : Cs) : Sp := fun vs H Q E => ∃ (a : Addr) (ns : List Int) (many : Int) (part : Str), vs = [.ref a, .int many, .str part] ∧ Knd K H (.ref a) "tuple" ∧ SqT K H a (ns.map V.int) ∧ ns.length ≤ 1000 ∧
  LotFin E c part H (res many ns) fun ns => ∀ (p : Addr) (ms : List Int) (H' : Hp), ms.Perm ns → Same H H' → H' p = some (.tup (ms.map V.int)) → Q (.ref p) H'
abbrev nWL : List Str := ["value", "many", "part", "bar", "twice"]
theorem scWL : FnScope nWL ["value", "many", "part"] (defScope sWantLot) := ⟨rfl, rfl, rfl, by decide +kernel, rfl, by decide +kernel, by decide +kernel⟩
theorem ok_wlO {f fN fB fT : Addr} {c : Cs} {fL fTI : Addr} {fd fdN fdB fdT fdL fdTI : FuncData} (F : Fun K "want_lot" "want_lot" sWantLot f fd) (T : Bi mg) (N : DefAt P w K mg base CX0 2 "is_numbers" ["value"] (spNumsO K) fN fdN) (B : DefAt P w K mg base (L2.CX P w) 3 "want_bar" ["value", "many"] (spWantBar c.n) fB fdB)
    (Tw : DefAt P w K mg base CX0 3 "first_twice" ["values"] (spTwL K) fT fdT) (L : ErrAt P w K mg base "BadLot" "part" c.l fL fdL) (TI : ErrAt P w K mg base "Twice" "value" c.t fTI fdTI) : FnOk P w K mg base (L2.CX P w) 4 f fd ["value", "many", "part"] (spWLO K c) := by
  refine F.okX scWL (fun vs H Q E h => ?_) (fun cdv A outer s H vs Q E hr h => ?_)
  · obtain ⟨v, k, many, part, rfl, _⟩ := h
    rfl
  · have nd := scWL.nd
    have hr2 : Room 2 (A.deeper (PyProof.Rows.envOfC "want_lot" (defScope sWantLot) s.heap.objs.size f cdv)) := hr.mono (by decide)
    refine ⟨_, pss_cons (ps_if (pt_not (pt_val (pe_call N.ok hr2 rfl N.g N.kp N.b .nil pass0 (pa_cons (pv 0) pa_nil)))) (pss_one (ps_raise rfl (takes_of rfl rfl rfl rfl) (pmk_oex L.oex L.ic L.ti L.ok hr2 L.b .nil pass0 rfl L.g (pa_cons (pv 2) pa_nil)))) pss_nil) pss_never, ?_⟩
    obtain ⟨v, k, many, part, rfl, hk, k1, k2, q⟩ := h
    exact ⟨_, rfl, v, k, rfl, hk, k1, k2, fun H' s1 => ⟨_, rfl, iteT ⟨_, rfl, err_made L.oex L.nf (q.later s1)⟩⟩⟩
theorem ok_wlL {f fN fB fT : Addr} {c : Cs} {fL fTI : Addr} {fd fdN fdB fdT fdL fdTI : FuncData} (F : Fun K "want_lot" "want_lot" sWantLot f fd) (T : Bi mg) (N : DefAt P w K mg base CX0 2 "is_numbers" ["value"] (spNumsL K) fN fdN) (B : DefAt P w K mg base (L2.CX P w) 3 "want_bar" ["value", "many"] (spWantBar c.n) fB fdB)
    (Tw : DefAt P w K mg base CX0 3 "first_twice" ["values"] (spTwL K) fT fdT) (L : ErrAt P w K mg base "BadLot" "part" c.l fL fdL) (TI : ErrAt P w K mg base "Twice" "value" c.t fTI fdTI) : FnOk P w K mg base (L2.CX P w) 4 f fd ["value", "many", "part"] (spWLL K c) := by
  refine F.okX scWL (fun vs H Q E h => ?_) (fun cdv A outer s H vs Q E hr h => ?_)
  · obtain ⟨a, xs, kf, many, part, rfl, _⟩ := h
    rfl
  · have nd := scWL.nd
    have hr2 : Room 2 (A.deeper (PyProof.Rows.envOfC "want_lot" (defScope sWantLot) s.heap.objs.size f cdv)) := hr.mono (by decide)
    refine ⟨_, pss_cons (ps_if (pt_not (pt_val (pe_call N.ok hr2 rfl N.g N.kp N.b .nil pass0 (pa_cons (pv 0) pa_nil)))) (pss_one (ps_raise rfl (takes_of rfl rfl rfl rfl) (pmk_oex L.oex L.ic L.ti L.ok hr2 L.b .nil pass0 rfl L.g (pa_cons (pv 2) pa_nil)))) pss_nil)
      (pss_cons (ps_for (passes_of rfl) rfl (pi_list (pv 0)) (pg_name (i := 3) nd rfl (Or.inl rfl)) (pss_one (ps_expr (pe_call B.ok hr rfl B.g B.kp B.b .nil (passes_call (takes_of rfl rfl rfl rfl) (fun _ _ _ _ h => h)) (pa_cons (pv 3) (pa_cons (pv 1) pa_nil))))))
      (pss_cons (ps_set (i := 4) nd rfl (Or.inl rfl) (pe_call Tw.ok hr rfl Tw.g Tw.kp Tw.b .nil pass0 (pa_cons (pv 0) pa_nil)))
      (pss_cons (ps_if (pt_cmpR op_notN (pv 4) pe_non (nomark _)) (pss_one (ps_raise rfl (takes_of rfl rfl rfl rfl) (pmk_oex TI.oex TI.ic TI.ti TI.ok hr2 TI.b .nil pass0 rfl TI.g (pa_cons (pv 4) pa_nil)))) pss_nil)
      (pss_one (ps_ret (pe_callTy call_tuple_of (by rfl) T.tuple (by decide +kernel) (pa_cons (pe_callB cr_sortedI (by rfl) T.sorted (by decide +kernel) (pa_cons (pv 0) pa_nil)) pa_nil))))))), ?_⟩
    obtain ⟨a, xs, kf, many, part, rfl, hk, hs, hl, hx, q⟩ := h
    refine ⟨_, rfl, a, xs, kf, rfl, hk, hs, hl, hx, fun H1 s1 => ⟨_, rfl, ?_⟩⟩
    rcases q with ⟨e, q⟩ | ⟨ns, rfl, e, q⟩
    · rw [e]
      exact iteT ⟨_, rfl, err_made L.oex L.nf (q.later s1)⟩
    · rw [e]
      refine iteF ?_
      refine ⟨_, rfl, a, rfl, ⟨_, s1.seq hs⟩, for_list (K := K) (a := a) (xs := ns.map V.int) (fun i σ H' => ∃ (b : Option V), σ = [some (.ref a), some (.int many), some (.str part), b, none] ∧ Same H H' ∧ ∀ x ∈ ns.take i, isBar many x = true)
        ⟨none, rfl, s1, fun x hx => nomatch hx⟩ (fun i σ H' _ ⟨_, _, s, _⟩ => s.seq hs) ?_ ?_⟩
      · rintro i x σ H' hi ⟨b, rfl, s2, al⟩
        obtain ⟨z, hz, rfl⟩ := int_at hi
        refine ⟨_, rfl, _, rfl, z, many, rfl, ?_⟩
        by_cases c : isBar many z = true
        · obtain ⟨c1, c2⟩ := isBar_iff.mp c
          refine .inl ⟨c1, c2, fun H3 s3 => ⟨_, rfl, s2.trans s3, fun y hy => ?_⟩⟩
          rw [← take_snoc hz] at hy
          rcases List.mem_append.mp hy with m | m
          · exact al y m
          · rw [List.mem_singleton.mp m]
            exact c
        · refine .inr ⟨fun z => c (isBar_iff.mpr z), ?_⟩
          rw [res_bar al hz c] at q
          exact Errs.later q s2
      · rintro σ H' ⟨b, rfl, s2, al⟩
        rw [List.length_map, List.take_length] at al
        rw [res_all al] at q
        rw [List.length_map] at hl
        refine ⟨_, rfl, a, ns, rfl, s2.seq hs, hl, fun H3 s3 => ?_⟩
        have s23 := s2.trans s3
        cases e2 : ft [] ns with
        | some z =>
          rw [e2] at q
          exact ⟨_, rfl, rfl, _, rfl, iteT ⟨_, rfl, err_made TI.oex TI.nf (Errs.later q s23)⟩⟩
        | none =>
          rw [e2] at q
          refine ⟨_, rfl, rfl, _, rfl, iteF ?_⟩
          refine ⟨_, rfl, a, ns, rfl, s23.seq hs, fun ms p pm _ hp => ⟨p, _, rfl, .inl ⟨SqL.of upd_same, fun t ht => ?_⟩⟩⟩
          exact q t ms _ pm ((s23.new hp).new ht) upd_same
theorem ok_wlT {f fN fB fT : Addr} {c : Cs} {fL fTI : Addr} {fd fdN fdB fdT fdL fdTI : FuncData} (F : Fun K "want_lot" "want_lot" sWantLot f fd) (T : Bi mg) (N : DefAt P w K mg base CX0 2 "is_numbers" ["value"] (spNumsT K) fN fdN) (B : DefAt P w K mg base (L2.CX P w) 3 "want_bar" ["value", "many"] (spWantBar c.n) fB fdB)
    (Tw : DefAt P w K mg base CX0 3 "first_twice" ["values"] (spTwT K) fT fdT) (L : ErrAt P w K mg base "BadLot" "part" c.l fL fdL) (TI : ErrAt P w K mg base "Twice" "value" c.t fTI fdTI) : FnOk P w K mg base (L2.CX P w) 4 f fd ["value", "many", "part"] (spWLT K c) := by
  refine F.okX scWL (fun vs H Q E h => ?_) (fun cdv A outer s H vs Q E hr h => ?_)
  · obtain ⟨a, ns, many, part, rfl, _⟩ := h
    rfl
  · have nd := scWL.nd
    have hr2 : Room 2 (A.deeper (PyProof.Rows.envOfC "want_lot" (defScope sWantLot) s.heap.objs.size f cdv)) := hr.mono (by decide)
    refine ⟨_, pss_cons (ps_if (pt_not (pt_val (pe_call N.ok hr2 rfl N.g N.kp N.b .nil pass0 (pa_cons (pv 0) pa_nil)))) (pss_one (ps_raise rfl (takes_of rfl rfl rfl rfl) (pmk_oex L.oex L.ic L.ti L.ok hr2 L.b .nil pass0 rfl L.g (pa_cons (pv 2) pa_nil)))) pss_nil)
      (pss_cons (ps_for (passes_of rfl) rfl (pi_tup (pv 0)) (pg_name (i := 3) nd rfl (Or.inl rfl)) (pss_one (ps_expr (pe_call B.ok hr rfl B.g B.kp B.b .nil (passes_call (takes_of rfl rfl rfl rfl) (fun _ _ _ _ h => h)) (pa_cons (pv 3) (pa_cons (pv 1) pa_nil))))))
      (pss_cons (ps_set (i := 4) nd rfl (Or.inl rfl) (pe_call Tw.ok hr rfl Tw.g Tw.kp Tw.b .nil pass0 (pa_cons (pv 0) pa_nil)))
      (pss_cons (ps_if (pt_cmpR op_notN (pv 4) pe_non (nomark _)) (pss_one (ps_raise rfl (takes_of rfl rfl rfl rfl) (pmk_oex TI.oex TI.ic TI.ti TI.ok hr2 TI.b .nil pass0 rfl TI.g (pa_cons (pv 4) pa_nil)))) pss_nil)
      (pss_one (ps_ret (pe_callTy call_tuple_of (by rfl) T.tuple (by decide +kernel) (pa_cons (pe_callB cr_sortedT (by rfl) T.sorted (by decide +kernel) (pa_cons (pv 0) pa_nil)) pa_nil))))))), ?_⟩
    obtain ⟨a, ns, many, part, rfl, hk, hs, hl, q⟩ := h
    refine ⟨_, rfl, a, _, (fun _ => "int"), rfl, hk, hs, (by rw [List.length_map]; exact hl), (fun x hx => ?_), fun H1 s1 => ⟨_, rfl, ?_⟩⟩
    · obtain ⟨z, _, rfl⟩ := List.mem_map.mp hx
      exact Knd.int
    · have e : ((ns.map V.int).all fun x => decide (("int" : String) = "int")) = true := List.all_eq_true.mpr fun _ _ => rfl
      rw [e]
      refine iteF ?_
      refine ⟨_, rfl, a, rfl, ⟨_, s1.tup hs⟩, for_tup (K := K) (a := a) (xs := ns.map V.int) (fun i σ H' => ∃ (b : Option V), σ = [some (.ref a), some (.int many), some (.str part), b, none] ∧ Same H H' ∧ ∀ x ∈ ns.take i, isBar many x = true)
        ⟨none, rfl, s1, fun x hx => nomatch hx⟩ (fun i σ H' _ ⟨_, _, s, _⟩ => s.tup hs) ?_ ?_⟩
      · rintro i x σ H' hi ⟨b, rfl, s2, al⟩
        obtain ⟨z, hz, rfl⟩ := int_at hi
        refine ⟨_, rfl, _, rfl, z, many, rfl, ?_⟩
        by_cases c : isBar many z = true
        · obtain ⟨c1, c2⟩ := isBar_iff.mp c
          refine .inl ⟨c1, c2, fun H3 s3 => ⟨_, rfl, s2.trans s3, fun y hy => ?_⟩⟩
          rw [← take_snoc hz] at hy
          rcases List.mem_append.mp hy with m | m
          · exact al y m
          · rw [List.mem_singleton.mp m]
            exact c
        · refine .inr ⟨fun z => c (isBar_iff.mpr z), ?_⟩
          rw [res_bar al hz c] at q
          exact Errs.later q s2
      · rintro σ H' ⟨b, rfl, s2, al⟩
        rw [List.length_map, List.take_length] at al
        rw [res_all al] at q
        refine ⟨_, rfl, a, ns, rfl, s2.tup hs, hl, fun H3 s3 => ?_⟩
        have s23 := s2.trans s3
        cases e2 : ft [] ns with
        | some z =>
          rw [e2] at q
          exact ⟨_, rfl, rfl, _, rfl, iteT ⟨_, rfl, err_made TI.oex TI.nf (Errs.later q s23)⟩⟩
        | none =>
          rw [e2] at q
          refine ⟨_, rfl, rfl, _, rfl, iteF ?_⟩
          refine ⟨_, rfl, a, ns, rfl, s23.tup hs, fun ms p pm _ hp => ⟨p, _, rfl, .inl ⟨SqL.of upd_same, fun t ht => ?_⟩⟩⟩
          exact q t ms _ pm ((s23.new hp).new ht) upd_same
end
end K
namespace K
open PySem L2 Rg
open Evl (pss_cut)
section
variable {P : Program} {w : World} {K : PySem.W.Frag} {mg : Str → Option Value} {base : Heap}
/-! ### one of some things -/
def spPick (K : PySem.W.Frag) : Sp := fun vs H Q _ => ∃ (p l : Addr) (e : Addr × List Int) (xs : List V) (n : Nat), vs = [.ref p, .ref l] ∧ SqL K H l xs ∧ l ≠ p ∧ 1 ≤ xs.length ∧ xs.length ≤ 1000 ∧ n < 1000000 ∧ PenAt K H p e n ∧
  ∀ (i : Nat) (v : V) (H' : Hp), xs[i]? = some v → But p H H' → PenAt K H' p e (n + 1) → Q v H'
abbrev nPick : List Str := ["_law_bench_here", "_law_some"]
theorem scPick : FnScope nPick ["_law_bench_here", "_law_some"] (defScope sLwPick) := ⟨rfl, rfl, rfl, by decide +kernel, rfl, by decide +kernel, by decide +kernel⟩
/-- the draw as a def called by its name -/
structure DrawAt (P : Program) (w : World) (K : PySem.W.Frag) (mg : Str → Option Value) (base : Heap) (f : Addr) (fd : FuncData) : Prop where
  ok : FnOk P w K mg base CX0 2 f fd ["_law_bench_here", "_law_many"] (spDraw K)
  g : mg "_law_draw" = some (.ref f)
  kp : PySem.W.keepIn K (.ref f) = true
  b : Binds K fd ["_law_bench_here", "_law_many"] []
theorem ok_pick {f fD : Addr} {fd fdD : FuncData} (F : Fun K "_law_pick" "_law_pick" sLwPick f fd) (T : Bi mg) (D : DrawAt P w K mg base fD fdD) : FnOk P w K mg base CX0 3 f fd ["_law_bench_here", "_law_some"] (spPick K) := by
  refine F.ok scPick (fun vs H Q E h => ?_) (fun cdv A outer s H vs Q E hr h => ?_)
  · obtain ⟨p, l, e, xs, n, rfl, _⟩ := h
    rfl
  · have nd := scPick.nd
    refine ⟨_, pss_one (ps_ret (pe_ix ix_list (pv 1) (pe_call D.ok hr rfl D.g D.kp D.b .nil pass0 (pa_cons (pv 0) (pa_cons (pe_callB call_len_seq (by rfl) T.len PySem.boot_len (pa_cons (pv 1) pa_nil)) pa_nil))) (fun _ _ => rfl))), ?_⟩
    obtain ⟨p, l, e, xs, n, rfl, hl, hlp, l1, l2, hn, pen, k⟩ := h
    refine ⟨_, rfl, _, rfl, _, rfl, l, xs, rfl, .inl hl, p, e, _, n, rfl, by omega, by omega, hn, pen, fun r H' r0 r1 b pen' => ?_⟩
    have hr : r.toNat < xs.length := by omega
    exact ⟨l, xs, r, _, rfl, rfl, b.seq hlp hl, at_of (j := r.toNat) (by omega) (List.getElem?_eq_getElem hr), k _ _ _ (List.getElem?_eq_getElem hr) b pen'⟩
end
end K
namespace Rg
open PySem PySem.Spec PyProof.Rows L2
/-! ### an error that is kept behind its clause -/
/-- an error object of the class at C, its dict at dd -/
def errO (e C : Addr) (dd : Option Addr) : HO := .ext fun hp => ∃ (ob : Obj) (vs : Array Value), hp.get? e = some ob ∧ ob.cls = .ref C ∧ ob.dict = dd ∧ ob.data = .fields vs
theorem errO_at {P : Program} {w : World} {H : Hp} {hp : Heap} {e C : Addr} {dd : Option Addr} (hok : HOk P w H hp) (he : H e = some (errO e C dd)) : ∃ (ob : Obj) (vs : Array Value), hp.get? e = some ob ∧ ob.cls = .ref C ∧ ob.dict = dd ∧ ob.data = .fields vs := (hok e _ he).1
theorem errO_ok {P : Program} {w : World} {H : Hp} {hp : Heap} {e C : Addr} {dd : Option Addr} {ob : Obj} {vs : Array Value} (he : hp.get? e = some ob) (h1 : ob.cls = .ref C) (h2 : ob.dict = dd) (h3 : ob.data = .fields vs) : ObjOk P w H hp e (errO e C dd) :=
  ⟨⟨ob, vs, he, h1, h2, h3⟩, ⟨ob, he⟩, fun _ _ ⟨ob', vs', a, b, c, d⟩ st => ⟨ob', vs', st _ a, b, c, d⟩⟩
/-- a thing that was not tracked is tracked from now on -/
theorem inv_know {X : Cx} {pns : List (Addr × Obj)} {σs : L2.St} {Hh : Hp} {sh : Shared} {e : Addr} {u : HO} (Iv : Inv X pns σs Hh sh) (ne : Hh e = none) (old : e ∉ X.ex → ∀ ob, X.s_0.heap.get? e = some ob → False) (nl : e ≠ X.env.locals)
    (nc : ∀ y c, X.env.cells.lookup y = some c → c ≠ e) (np : ∀ p ∈ X.pn ++ pns, p.1 ≠ e) (ob : ObjOk X.prog X.w (upd Hh e u) sh.heap e u) : Inv X pns σs (upd Hh e u) sh := by
  have oth : ∀ b, b ≠ e → upd Hh e u b = Hh b := fun b hb => upd_ne hb
  have keepS : ∀ {b : Addr} {o : HO}, Hh b = some o → upd Hh e u b = some o := fun {b o} q => by rw [oth b (ne_of_none q ne)]; exact q
  refine ⟨Iv.ok, Iv.os, Iv.bare, ⟨Iv.base.keep, Iv.base.slot, fun b o a n x => ?_, Iv.base.there, fun b xs q => keepS (Iv.base.tups b xs q), fun b o z q => keepS (Iv.base.frzs b o z q), fun b ps q => ?_⟩, Iv.loc, Iv.cell, ?_, fun y c q => ?_, fun p hp => ?_, fun b o q => ?_, Iv.len⟩
  · by_cases hb : b = e
    · subst hb
      exact (old x o a).elim
    · rw [oth b hb]
      exact Iv.base.free b o a n x
  · obtain ⟨more, q'⟩ := Iv.base.tbls b ps q
    exact ⟨more, keepS q'⟩
  · rw [oth _ (Ne.symm nl)]
    exact Iv.free
  · rw [oth _ (nc y c q)]
    exact Iv.freeC y c q
  · obtain ⟨a1, a2, a3⟩ := Iv.pin p hp
    exact ⟨a1, by rw [oth _ (np p hp)]; exact a2, a3⟩
  · by_cases hb : b = e
    · subst hb
      rw [upd_same] at q
      cases q
      exact ob
    · rw [oth b hb] at q
      exact (Iv.hok b o q).stay (fun _ _ _ z => z) (fun c z => keepS z) fun c xs z => keepS z
end Rg
namespace Rg
open PySem PySem.Spec PyProof.Rows L2
/-- what the clause asks: the error is one of the class cv; it is tracked while the suite runs and from then on -/
def wKeep (K : PySem.W.Frag) (cv : Value) (ix : Nat) (tsu : TS) (De : Ends) : WX := fun cls dd σs Hh =>
  PySem.W.exmOne K cls cv = some true ∧ ∃ C : Addr, cls = .ref C ∧ ∀ e, Hh e = none → tsu { nx := fun τ J => De.nx (τ.set ix none) J, rt := De.rt, bk := fun τ J => De.bk (τ.set ix none) J, ct := fun τ J => De.ct (τ.set ix none) J } (σs.set ix (some (.ref e))) (upd Hh e (errO e C dd))
section
variable {X : Cx} {pns : List (Addr × Obj)} {σs : L2.St} {Hh : Hp} {sh : Shared}
theorem inv_in (Iv : Inv X pns σs Hh sh) (e : Addr) : Inv (X.suite e (X.pn ++ pns)) [] σs Hh sh :=
  ⟨Iv.ok.suite _ _, Iv.os, Iv.bare, Iv.base, Iv.loc, Iv.cell, Iv.free, Iv.freeC, fun p hp => Iv.pin p (by simpa using hp), Iv.hok, Iv.len⟩
theorem inv_out {e : Addr} (Iv : Inv (X.suite e (X.pn ++ pns)) [] σs Hh sh) (ok : X.Ok) : Inv X pns σs Hh sh :=
  ⟨ok, Iv.os, Iv.bare, Iv.base, Iv.loc, Iv.cell, Iv.free, Iv.freeC, fun p hp => Iv.pin p (by simpa using hp), Iv.hok, Iv.len⟩
end
section
variable {X : Cx} {y n : Str} {cv : Value} {ix : Nat} {bd su : List Stmt} {st0 : Stmt} {np po po' : Pos} {tbd : WX → TS} {tsu : TS}
theorem ps_try_keep (hstk : X.stack = X.env :: X.outer) (hfr0 : X.env.frame = some X.env.locals) (hnd : X.N.Nodup) (hix : X.N[ix]? = some n) (hnl : X.env.kindOf n = some .local) (hcl : Names X y cv)
    (hbd : ∀ (W : WX) (pn : List (Addr × Obj)) (xe : Value → Shared → Prop), Takes (X.tr pn xe) W → PassesOwn (model X.prog X.w) X.A X.env xe → PSs (X.tr pn xe) bd (tbd W))
    (hsu : ∀ (e : Addr) (pn : List (Addr × Obj)), PSs (X.suite e pn) (st0 :: su) tsu) :
    PS X (.Try bd [.ExceptHandler (some (.Name y np)) (some n) (st0 :: su) po'] [] [] po) (fun De σs Hh => tbd (wKeep X.K cv ix tsu De) De σs Hh) := by
  refine ⟨fun pns sh σs Hh De Iv hh => ?_⟩
  have ok := Iv.ok
  have hfr : X.A.frames = some (X.env :: X.outer) := by rw [ok.frames, hstk]
  have hbody := (hbd (wKeep X.K cv ix tsu De) (X.pn ++ pns) (fun e s1 => wpAny (model X.prog X.w) X.A (noteFrame e X.env) (fun _ s2 => wpAny (model X.prog X.w) X.A (setFlight e none) (fun _ s3 =>
    wpAny (model X.prog X.w) X.A (handleBy e X.env [.ExceptHandler (some (.Name y np)) (some n) (st0 :: su) po']) (SP X pns De) X.xe s3) X.xe s2) X.xe s1) (fun u sx xx => ?_) PassesOwn.looking).run [] sh σs Hh De (Iv.toTry _) hh
  · refine wpAny_Try_except (wpAny_mono hbody (fun fl s1 q => ?_) fun _ _ q => q)
    cases fl with
    | next =>
      obtain ⟨τ, J, Jv, q⟩ := q
      exact wpAny_execs_nil ⟨τ, J, Jv.ofTry ok, q⟩
    | brk => exact let ⟨τ, J, Jv, q⟩ := q; ⟨τ, J, Jv.ofTry ok, q⟩
    | cont => exact let ⟨τ, J, Jv, q⟩ := q; ⟨τ, J, Jv.ofTry ok, q⟩
    | ret u => exact let ⟨v, τ, J, Jv, r, q⟩ := q; ⟨v, τ, J, Jv.ofTry ok, r, q⟩
  -- the error is at e
  obtain ⟨e, B, sI, _, τ, J, cls, dd, rfl, Jv0, nb, up, sky, ne, os, ag, hb, C, rfl, hyes⟩ := xx
  have Jv : Inv X pns τ J sI := Jv0.ofTry ok
  rw [hstk] at sky
  refine Sky.land Zc.steady hfr hfr0 sky fun h3 fl3 up3 => ?_
  have K3 : Inv X pns τ J { sx with heap := h3 } := Jv.landed nb fl3.1 (up.trans up3) os ag
  obtain ⟨o3, v3, g3, z3, d3⟩ := fl3.there
  have enf : e ∉ frs X.stack := fun hm => by
    rw [hstk] at hm
    obtain ⟨_, o', e', hnf⟩ := fl3.2.2.1.mem hm
    rw [g3] at e'
    cases e'
    exact hnf _ d3
  have enl : e ≠ X.env.locals := fun z => enf (by rw [hstk]; exact List.mem_filterMap.mpr ⟨X.env, List.mem_cons_self, by rw [hfr0, z]⟩)
  have enF : e ∉ X.fs := fun hm => enf (by
    rw [hstk]
    obtain ⟨ev, he, q⟩ := List.mem_filterMap.mp hm
    exact List.mem_filterMap.mpr ⟨ev, List.mem_cons_of_mem _ he, q⟩)
  have gone : ∀ ob, sI.heap.get? e = some ob → False := fun ob q => by
    have a := nb e ob q enf
    rw [fl3.2.1] at a
    cases a
  -- tracked
  have know : ∀ {h4 : Heap} {o4 : Obj} {v4 : Array Value}, Inv X pns τ J { sx with heap := h4 } → h4.get? e = some o4 → Zc (.ref C) dd o4 → o4.data = .fields v4 → Inv X pns τ (upd J e (errO e C dd)) { sx with heap := h4 } := fun {h4 o4 v4} K4 g4 z4 d4 => by
    refine inv_know K4 ne (fun hx ob q => ?_) enl (fun x c q z => ?_) (fun p hp z => ?_) (errO_ok g4 z4.1 z4.2 d4)
    · obtain ⟨o', q'⟩ := Jv.base.there e ob q hx
      exact gone o' q'
    · obtain ⟨v, o', q', _⟩ := Jv.cell x c q
      rw [z] at q'
      exact gone _ q'
    · obtain ⟨q', _⟩ := Jv.pin p hp
      rw [z] at q'
      exact gone _ q'
  have test : ∀ {Q E : Value → Shared → Prop}, Q cv { sx with heap := h3 } → wpAny (model X.prog X.w) (X.A.mark (some (.ref e))) (eval (.Name y np) X.env) Q E { sx with heap := h3 } := fun {Q E} q => by
    have S3 := inv_in K3 e
    obtain ⟨hg, hdb, hm | ⟨hm, hv, hn⟩⟩ := hcl
    · exact ld_glob S3 hg hm q hdb
    · exact ld_blt S3 hg hm hv q hn hdb
  refine wpAny_handleBy_cons (codeAny_handlers_test (test ((PySem.W.exm_one (M := model X.prog X.w) K3.kIn (fun _ _ _ _ k q => wpAny_typeOf_ref (k _ _ g3) (by rw [z3.1]; exact q)) hb).here (codeAny_handlers_suite_as (HandSPX.lands_againZ fl3 fun h4 fl4 up4 => ?_))))) (by intro q; cases q)
  obtain ⟨o4, v4, g4, z4, d4⟩ := fl4.there
  have K4 := know (Jv.landed nb fl4.1 ((up.trans up3).trans up4) os ag) g4 z4 d4
  refine store_ok (X := X.suite e (X.pn ++ pns)) (v := .ref e) (inv_in K4 e) hnd hix (.inl hnl) rfl (fun s5 S5 => ?_) (.inr hnl)
  refine wpAny_mono ((hsu e _).run [] s5 _ _ _ S5 (hyes e ne)) (fun fl s6 q => ?_) fun _ _ z => z.elim
  have fin : ∀ {ρ : L2.St} {L : Hp} {Q : Shared → Prop}, Inv (X.suite e (X.pn ++ pns)) [] ρ L s6 → (∀ s7, Inv X pns (ρ.set ix none) L s7 → Q s7) → wpAny (model X.prog X.w) X.A (do bindName X.env n .none; unbindBehindTheSuite X.env n po') (fun _ s7 => Q s7) X.xe s6 :=
    fun {ρ L Q} S6 hq => gone_ok (inv_out S6 ok) hnd hix hnl hq
  cases fl with
  | next => exact let ⟨ρ, L, S6, q⟩ := q; fin S6 fun s7 I7 => ⟨_, _, I7, q⟩
  | brk => exact let ⟨ρ, L, S6, q⟩ := q; fin S6 fun s7 I7 => ⟨_, _, I7, q⟩
  | cont => exact let ⟨ρ, L, S6, q⟩ := q; fin S6 fun s7 I7 => ⟨_, _, I7, q⟩
  | ret u => exact let ⟨v, ρ, L, S6, r, q⟩ := q; fin S6 fun s7 I7 => ⟨_, _, _, I7, r, q⟩
end
end Rg
namespace Rg
open PySem PySem.Spec PyProof.Rows L2
theorem call_or {X : Cx} {fv : Value} {r1 r2 : List V → Hp → VK → Prop} (h1 : CallR X fv r1) (h2 : CallR X fv r2) : CallR X fv (fun xs Hh Qq => r1 xs Hh Qq ∨ r2 xs Hh Qq) := fun pns s σs Hh xs us Qq Iv rr h => h.elim (h1 pns s σs Hh xs us Qq Iv rr) (h2 pns s σs Hh xs us Qq Iv rr)
/-- an error that is kept: its object, its dict -/
def ErrV (Hh : Hp) (x : V) (C : Addr) (fs : List (Str × V)) : Prop := ∃ (e dd : Addr), x = .ref e ∧ Hh e = some (errO e C (some dd)) ∧ Hh dd = some (.xd fs)
theorem err_inst {P : Program} {w : World} {Hh : Hp} {hp : Heap} {e C dd : Addr} {fs : List (Str × V)} (hok : HOk P w Hh hp) (he : Hh e = some (errO e C (some dd))) (hd : Hh dd = some (.xd fs)) :
    ∃ (ob od : Obj) (mA : Str → Option Value), PySem.W.InstAt hp e ob C (some od) ∧ (∀ f, PySem.W.lookIn f od = some (mA f)) ∧ ∀ f, RelO (fs.lookup f) (mA f) := by
  obtain ⟨ob, vs, g, c1, c2, c3⟩ := errO_at hok he
  obtain ⟨mA, hns, hr⟩ := (show ObjOk P w Hh hp dd (.xd fs) from hok dd _ hd)
  obtain ⟨od, ho, hl⟩ := lookIn_ns hns
  exact ⟨ob, od, mA, ⟨g, c1, by unfold PySem.W.notCls; rw [c3] <;> rfl, by rw [c2]; exact ho⟩, hl, hr⟩
/-- isinstance(e, c), e an error that is kept -/
def rIsE (K : PySem.W.Frag) : List V → Hp → VK → Prop := fun xs Hh Qq => ∃ (x c : V) (cv : Value) (C : Addr) (fs : List (Str × V)) (b : Bool), xs = [x, c] ∧ (∀ u, RelV c u → u = cv) ∧ ExcC K C ∧ ErrV Hh x C fs ∧ PySem.W.kitOne K (.ref C) cv = some b ∧ Qq (.bl b) Hh
theorem cr_isE {X : Cx} : CallR X (.builtin "isinstance") (rIsE X.K) := by
  intro pns s σs Hh xs us Qq Iv rr ⟨x, c, cv, C, fs, b, ex, hcv, G, ⟨e, dd, ez, he, hd⟩, kit, q⟩
  subst ex ez
  obtain ⟨u1, u2, rfl, r1, r2⟩ := vals2 rr
  obtain rfl : u1 = Value.ref e := r1
  obtain rfl := hcv _ r2
  obtain ⟨ob, od, mA, J, _, _⟩ := err_inst Iv.hok he hd
  have hcl : (PySem.W.clsIn X.K C).isSome = true := by
    obtain ⟨cd, hc, _⟩ := PySem.W.any_some G.hd
    rw [hc]
    rfl
  exact PySem.W.kia_one (PySem.W.kitx_exc hcl G.hg G.hk G.hs G.ha G.hn G.ht G.hm) Iv.kIn J kit (fun z => nomatch z) fun tk => ⟨.bl b, Hh, Iv.kept (t' := tk) fun _ _ z => z, rfl, q⟩
/-- e.f, e an error that is kept -/
def tFldE (K : PySem.W.Frag) (te : TE) (f : Str) : TE := fun σs Hh Qq => te σs Hh fun x J => ∃ (C : Addr) (fs : List (Str × V)) (v : V), ErrV J x C fs ∧ XfC K C ∧ PySem.W.findIn K (.ref C) f = some none ∧ fs.lookup f = some v ∧ Qq v J
theorem pe_fldE {X : Cx} {ex : Expr} {te : TE} {po : Pos} {n : Str} (he : PE X ex te) (hb : attributeBase ex n X.env (eval ex X.env) = eval ex X.env := by rfl) : PE X (.Attribute ex n po) (tFldE X.K te n) := by
  refine ⟨fun pns s σs Hh Qq Iv h => attr_of hb (thn (he.run pns s σs Hh _ Iv h) fun u s1 hh => ?_)⟩
  obtain ⟨x, J, I1, rx, C, fs, v, ⟨e, dd, ez, g1, g2⟩, T, hno, l, q⟩ := hh
  subst ez
  obtain rfl : u = Value.ref e := rx
  obtain ⟨ob, od, mA, K1, hl, hr⟩ := err_inst I1.hok g1 g2
  obtain ⟨z, hz, rz⟩ := RelO.some_of (v := v) (o := mA n) (by rw [← l]; exact hr n)
  exact HandSPX.exc_get I1.kIn K1 T.ga T.gg T.exC (PySem.W.findObj_own T.hdC hno rfl (by rw [hl, hz])) (handed_of rz) ⟨v, J, I1.tok _, rz, q⟩
end Rg
namespace Rg
open PySem PySem.Spec PyProof.Rows L2
/-- name = {k: v for ..}, a plain local name -/
theorem sw_dc {kx vx : Expr} {gs : List Comprehension} {sc : Scope} {po py : Pos} {y : Str} {ln : Nat} {ev : Env} (hk : ev.scope.kind = .function) (hy : ev.scope.names.lookup y = some .local) (hl : (py.line == po.line) = true)
    (ha : (sc.names.any fun (n, k) => n == y && (k == .local || k == .cell)) = false) : swapsWith (.DictComp kx vx gs sc po) (some (.Name y py)) ln ev = pure true := by
  have k1 : ev.kindOf y = some .local := hy
  have k2 : ev.blockKind = .function := by unfold Env.blockKind; rw [hk]; rfl
  unfold swapsWith
  simp only [k2, k1, ha, Expr.pos, hl]
  rfl
section
variable {X : Cx}
theorem ps_setDc {ix : Nat} {y : Str} {py : Pos} {kx vx tg itx : Expr} {ifs : List Expr} {sc : Scope} {own : List (Str × Nat)} {po spo : Pos} {wi : TI} {g : TG} {tt : TT} {tk tv : TE} (hc : X.calm = true) (hN : X.N.Nodup) (hy : X.N[ix]? = some y) (hyl : X.env.scope.names.lookup y = some .local)
    (hsw : swapsWith (.DictComp kx vx [⟨tg, itx, ifs, 0⟩] sc po) (some (.Name y py)) spo.line X.env = pure true) (hi : PI X tg itx wi) (ok : BlkOk X.N X.env.scope sc own)
    (hg : ∀ (s : Shared) (H : Hp) (C : Addr) (cl : List (Str × Addr)) (fp : List Addr), PG (X.blk s H sc (compEnvC sc cl C X.env) fp) tg g) (ht : ∀ (s : Shared) (H : Hp) (C : Addr) (cl : List (Str × Addr)) (fp : List Addr), PTs (X.blk s H sc (compEnvC sc cl C X.env) fp) ifs tt)
    (hk : ∀ (s : Shared) (H : Hp) (C : Addr) (cl : List (Str × Addr)) (fp : List Addr), PE (X.blk s H sc (compEnvC sc cl C X.env) fp) kx tk) (he : ∀ (s : Shared) (H : Hp) (C : Addr) (cl : List (Str × Addr)) (fp : List Addr), PE (X.blk s H sc (compEnvC sc cl C X.env) fp) vx tv)
    (hs : ∀ x, foldedSetIterable itx X.env x = pure x := by intro _; rfl) : PS X (.Assign [.Name y py] (.DictComp kx vx [⟨tg, itx, ifs, 0⟩] sc po) spo) (tAsg (tDc wi g tt tk tv (own.map (·.2))) (gName ix)) := by
  refine ⟨fun pns sh σs Hh De Iv h => ?_⟩
  rw [exec_Assign_Name_used _ _ _ _ hsw]
  refine wpAny_bind (wpAny_standAt (wpAny_bind ?_))
  show wpAny _ X.A (do let _ ← comprehension (.DictComp kx vx [⟨tg, itx, ifs, 0⟩] sc po) sc X.env (firstIterPos [⟨tg, itx, ifs, 0⟩] po) newDict false (eval itx X.env) (some (assign (.Name y py) X.env))) _ _ sh
  have h2 : tDc wi g tt tk tv (own.map (·.2)) σs Hh (fun x J => gName ix x σs J De.nx) := h
  refine wpAny_bind (thn (dc_core (Qf := fun _ s' => SP X pns De .next s') hc hN Iv hi ok hg ht hk he hs h2 fun D C s' m J I' q hn f => ?_) fun _ s' hq => wpAny_pure (wpAny_pure hq))
  show wpAny _ _ (assign (.Name y py) X.env (.ref D)) _ _ _
  refine wpAny_assign_Name (store_ok2 (v := V.ref D) I' hN hy (.inl hyl) rfl (fun s2 I2 ⟨a, sb, ha⟩ => ?_) (.inr hyl))
  obtain ⟨f0, f1, f2, f3, f4, f5⟩ := f
  have ne : C ≠ a := ha.elim (fun z => by rw [z]; exact f1) fun z e => f4 y a z e.symm
  exact ⟨m, hn.sameBut sb ne, fun h3 sb3 => ⟨_, J, I2.turned (t' := s2.toks) (fun b o hb e => (sb3.2 b hb).trans e) f0 f1 f3 f4 f5, q⟩⟩
end
end Rg
namespace Rg
open PySem PySem.Spec PyProof.Rows L2
/-! ### the tuples of a zip that are kept -/
theorem tup_at {h h' : Heap} {a : Addr} {its : Array Value} (x : h.IsTuple a its) (e : ∀ o, h.get? a = some o → h'.get? a = some o) : h'.IsTuple a its := let ⟨o, ho, r⟩ := x; ⟨o, e _ ho, r⟩
theorem draws_tup {prog : Program} {w : World} {A : Around} (clear : A.handled = none) (it l : Addr) (apart : l ≠ it) (its : Array Value) : Draws prog w A it [it, l] its.size (fun j v => its[j]? = some v) (fun j h => h.IsTupleIter it l j ∧ h.IsTuple l its) where
  live := fun _ _ stand => let ⟨o, ho, _⟩ := stand.1; ⟨o, ho⟩
  frame := fun _ _ _ stand kept => ⟨stand.1.at fun o e => kept it (by simp) o e, tup_at stand.2 fun o e => kept l (by simp) o e⟩
  item := fun j s Q E hj stand hQ => by
    refine RZ.nextOf_tuple_item stand.1 stand.2 (x := its[j]) (by simp [hj]) fun h' it' same => ?_
    exact hQ _ h' s.toks (by simp [hj]) ⟨it', stand.2.extBut same.extBut apart⟩ same
  done := fun s Q E stand hE => RZ.nextOf_tuple_end clear stand.1 stand.2 (by simp) hE
section
variable {prog : Program} {w : World} {A : Around} {E : Value → Shared → Prop} {s : Shared} {z TI TO T L i1 i2 : Addr} {fp1 fp2 : List Addr} {n1 n2 j : Nat} {P1 P2 : Nat → Value → Prop} {St1 St2 : Nat → Heap → Prop} {b : Bool} {oT : Obj}
theorem zh_next {Q : Value → Shared → Prop} (S : ZipSep2 z TI TO i1 i2 fp1 fp2) (D1 : Draws prog w A i1 fp1 n1 P1 St1) (D2 : Draws prog w A i2 fp2 n2 P2 St2) (hz : IsZipHeld s.heap z TI TO T b) (hT : s.heap.get? T = some oT) (hTI : IsTupOf2 s.heap TI (.ref i1) (.ref i2)) (t1 : St1 j s.heap) (t2 : St2 j s.heap) (l1 : j < n1) (l2 : j < n2)
    (hQ : ∀ u v h' tk, P1 j u → P2 j v → IsZipHeld h' z TI TO T true → St1 (j + 1) h' → St2 (j + 1) h' → IsTupOf2 h' s.heap.objs.size u v → h'.objs.size = s.heap.objs.size + 1 → (∀ c o, c ≠ z → c ≠ i1 → c ≠ i2 → s.heap.get? c = some o → h'.get? c = some o) → Q (.ref s.heap.objs.size) { s with heap := h', toks := tk }) :
    wpAny (model prog w) A (Builtin.«zip.__next__» ⟨[.ref z], []⟩) (fun fin s' => ∃ v, fin = .done (.ret v) ∧ Q v s') E s := by
  obtain ⟨hp, g, d, tk0, os⟩ := s
  show wpAny _ _ (field (.ref z) 2 >>= _) _ _ _
  refine wpAny_bind (wpAny_field hz rfl (x := .bool false) rfl ?_)
  show wpAny _ _ (field (.ref z) 3 >>= _) _ _ _
  refine wpAny_bind (wpAny_field hz rfl (x := .ref TI) rfl ?_)
  refine wpAny_bind (wpAny_seqItems hTI rfl ?_)
  show wpAny _ _ (Builtin.SmallTypes.ownedTupleIsFree (.ref z) >>= _) _ _ _
  refine wpAny_bind (wpAny_tupleHeld_zip (s := ⟨hp, g, d, tk0, os⟩) hz hT fun k1 z1 c1 => ?_)
  replace c1 : Heap.SameBut z hp k1 := c1
  simp only [Bool.false_eq_true, if_false]
  refine wpAny_bind ?_
  rw [← Array.forIn_toList]
  simp only [List.forIn_cons, List.forIn_nil]
  refine wpAny_bind (wpAny_bind (wpAny_holding ?_))
  show wpAny _ _ (Builtin.SmallTypes.nextOf (.ref i1) >>= _) _ _ ⟨k1, g, d, tk0, os⟩
  refine wpAny_bind (D1.item j _ _ _ l1 (D1.over t1 c1 S.zf1) fun u k2 tk1 pu t1' c2 => wpAny_pure ?_)
  replace c2 : Heap.SameBut i1 k1 k2 := c2
  refine wpAny_pure ?_
  refine wpAny_bind (wpAny_bind (wpAny_holding ?_))
  show wpAny _ _ (Builtin.SmallTypes.nextOf (.ref i2) >>= _) _ _ ⟨k2, g, d, tk1, os⟩
  refine wpAny_bind (D2.item j _ _ _ l2 (D2.over (D2.over t2 c1 S.zf2) c2 S.sep1_2) fun v k3 tk2 pv t2' c3 => wpAny_pure ?_)
  replace c3 : Heap.SameBut i2 k2 k3 := c3
  refine wpAny_pure (wpAny_pure ?_)
  show wpAny _ _ (newTuple [u, v] >>= _) _ _ ⟨k3, g, d, tk2, os⟩
  refine wpAny_bind (wpAny_newTuple ?_)
  have size3 : k3.objs.size = hp.objs.size := by rw [c3.1, c2.1, c1.1]
  have z3 : IsZipHeld k3 z TI TO T true := c3.extBut _ _ S.zi2 (c2.extBut _ _ S.zi1 z1)
  have stay : ∀ c o, c ≠ z → c ≠ i1 → c ≠ i2 → hp.get? c = some o → k3.get? c = some o := fun c o a1 a2 a3 e => c3.extBut _ _ a3 (c2.extBut _ _ a2 (c1.extBut _ _ a1 e))
  refine wpAny_pure ⟨_, rfl, ?_⟩
  show Q (.ref k3.objs.size) _
  have at3 : IsTupOf2 (k3.push { cls := .type "tuple", data := .seq #[u, v] }) k3.objs.size u v := Heap.get?_push_size _ rfl
  have size4 : (k3.push { cls := .type "tuple", data := .seq #[u, v] }).objs.size = k3.objs.size + 1 := Heap.size_push ..
  rw [size3] at at3 size4 ⊢
  exact hQ u v _ tk2 pu pv (Heap.get?_push_of_some _ z3) (D1.frame _ _ _ (D1.over t1' c3 S.sep2_1) fun c _ o e => Heap.get?_push_of_some _ e) (D2.frame _ _ _ t2' fun c _ o e => Heap.get?_push_of_some _ e) at3 size4 fun c o a1 a2 a3 e => Heap.get?_push_of_some _ (stay c o a1 a2 a3 e)
theorem zh_stop {Q : Fin → Shared → Prop} (S : ZipSep2 z TI TO i1 i2 fp1 fp2) (D1 : Draws prog w A i1 fp1 n1 P1 St1) (D2 : Draws prog w A i2 fp2 n2 P2 St2) (hz : IsZipHeld s.heap z TI TO T b) (hT : s.heap.get? T = some oT) (hTI : IsTupOf2 s.heap TI (.ref i1) (.ref i2)) (t1 : St1 j s.heap) (t2 : St2 j s.heap) (l1 : j ≤ n1) (l2 : j ≤ n2) (over : j = n1 ∨ j = n2)
    (hE : ∀ h' tk e, (∀ c o, c ≠ z → c ≠ i1 → c ≠ i2 → s.heap.get? c = some o → h'.get? c = some o) → (∃ o, h'.get? e = some o ∧ o.cls = .type "StopIteration") → E (.ref e) { s with heap := h', toks := tk }) :
    wpAny (model prog w) A (Builtin.«zip.__next__» ⟨[.ref z], []⟩) Q E s := by
  obtain ⟨hp, g, d, tk0, os⟩ := s
  show wpAny _ _ (field (.ref z) 2 >>= _) _ _ _
  refine wpAny_bind (wpAny_field hz rfl (x := .bool false) rfl ?_)
  show wpAny _ _ (field (.ref z) 3 >>= _) _ _ _
  refine wpAny_bind (wpAny_field hz rfl (x := .ref TI) rfl ?_)
  refine wpAny_bind (wpAny_seqItems hTI rfl ?_)
  show wpAny _ _ (Builtin.SmallTypes.ownedTupleIsFree (.ref z) >>= _) _ _ _
  refine wpAny_bind (wpAny_tupleHeld_zip (s := ⟨hp, g, d, tk0, os⟩) hz hT fun k1 z1 c1 => ?_)
  replace c1 : Heap.SameBut z hp k1 := c1
  simp only [Bool.false_eq_true, if_false]
  refine wpAny_bind ?_
  rw [← Array.forIn_toList]
  simp only [List.forIn_cons, List.forIn_nil]
  refine wpAny_bind (wpAny_bind (wpAny_holding ?_))
  show wpAny _ _ (Builtin.SmallTypes.nextOf (.ref i1) >>= _) _ _ ⟨k1, g, d, tk0, os⟩
  by_cases c : j < n1
  · have e2 : j = n2 := by omega
    refine wpAny_bind (D1.item j _ _ _ c (D1.over t1 c1 S.zf1) fun u k2 tk1 pu t1' c2 => wpAny_pure ?_)
    replace c2 : Heap.SameBut i1 k1 k2 := c2
    refine wpAny_pure ?_
    refine wpAny_bind (wpAny_bind (wpAny_holding ?_))
    show wpAny _ _ (Builtin.SmallTypes.nextOf (.ref i2) >>= _) _ _ ⟨k2, g, d, tk1, os⟩
    refine wpAny_bind (D2.done ⟨k2, g, d, tk1, os⟩ _ _ (by rw [← e2]; exact D2.over (D2.over t2 c1 S.zf2) c2 S.sep1_2) fun q e hq he => ?_)
    exact hE q tk1 e (fun c o a1 a2 a3 x => hq c o a3 (c2.extBut _ _ a2 (c1.extBut _ _ a1 x))) he
  · have e1 : j = n1 := by omega
    refine wpAny_bind (D1.done ⟨k1, g, d, tk0, os⟩ _ _ (by rw [← e1]; exact D1.over t1 c1 S.zf1) fun q e hq he => ?_)
    exact hE q tk0 e (fun c o a1 a2 a3 x => hq c o a2 (c1.extBut _ _ a1 x)) he
/-- a zip whose tuples a list keeps -/
def ZSt (z TI TO i1 i2 L : Addr) (St1 St2 : Nat → Heap → Prop) (j : Nat) (h : Heap) : Prop := IsTupOf2 h TI (.ref i1) (.ref i2) ∧ St1 j h ∧ St2 j h ∧ ((IsZip h z TI TO .none ∧ ∃ a b, IsTupOf2 h TO a b) ∨ ∃ T f oT, IsZipHeld h z TI TO T f ∧ h.get? T = some oT ∧ T ≠ z ∧ T ≠ i1 ∧ T ≠ i2 ∧ T ≠ L)
theorem zst_type (st : ZSt z TI TO i1 i2 L St1 St2 j s.heap) : s.TypeIs (.ref z) "zip" := by
  rcases st.2.2.2 with ⟨hz, _⟩ | ⟨_, _, _, hz, _⟩
  · exact ⟨_, hz, rfl⟩
  · exact ⟨_, hz, rfl⟩
theorem zst_keep (D1 : Draws prog w A i1 fp1 n1 P1 St1) (D2 : Draws prog w A i2 fp2 n2 P2 St2) {h h' : Heap} (st : ZSt z TI TO i1 i2 L St1 St2 j h) (nz : z ≠ L) (nTI : TI ≠ L) (nTO : TO ≠ L) (nf1 : L ∉ fp1) (nf2 : L ∉ fp2) (k : ∀ c o, c ≠ L → h.get? c = some o → h'.get? c = some o) : ZSt z TI TO i1 i2 L St1 St2 j h' := by
  obtain ⟨a1, a2, a3, a4⟩ := st
  refine ⟨k _ _ nTI a1, D1.frame _ _ _ a2 fun c hc o e => k c o (fun q => nf1 (q ▸ hc)) e, D2.frame _ _ _ a3 fun c hc o e => k c o (fun q => nf2 (q ▸ hc)) e, ?_⟩
  rcases a4 with ⟨hz, a, b, hTO⟩ | ⟨T, f, oT, hz, hT, r1, r2, r3, r4⟩
  · exact .inl ⟨k _ _ nz hz, a, b, k _ _ nTO hTO⟩
  · exact .inr ⟨T, f, oT, k _ _ nz hz, k _ _ r4 hT, r1, r2, r3, r4⟩
theorem zst_item {Q : Option Value → Shared → Prop} (S : ZipSep2 z TI TO i1 i2 fp1 fp2) (D1 : Draws prog w A.in1 i1 fp1 n1 P1 St1) (D2 : Draws prog w A.in1 i2 fp2 n2 P2 St2) (st : ZSt z TI TO i1 i2 L St1 St2 j s.heap) (hL : L < s.heap.objs.size) (l1 : j < n1) (l2 : j < n2)
    (hQ : ∀ u v h' tk, P1 j u → P2 j v → ZSt z TI TO i1 i2 L St1 St2 (j + 1) h' → IsTupOf2 h' s.heap.objs.size u v → (∀ c o, c ≠ z → c ≠ TO → c ≠ i1 → c ≠ i2 → s.heap.get? c = some o → h'.get? c = some o) → Q (some (.ref s.heap.objs.size)) { s with heap := h', toks := tk }) :
    wpAny (model prog w) A (pyNext (.ref z)) Q E s := by
  have ty := zst_type st
  obtain ⟨hTI, t1, t2, a4⟩ := st
  have lt : ∀ {c o}, s.heap.get? c = some o → s.heap.objs.size ≠ c := fun e => Nat.ne_of_gt (Heap.lt_size e)
  have m1 : s.heap.objs.size ≠ i1 := by obtain ⟨_, e⟩ := D1.live _ _ t1; exact lt e
  have m2 : s.heap.objs.size ≠ i2 := by obtain ⟨_, e⟩ := D2.live _ _ t2; exact lt e
  rcases a4 with ⟨hz, a, b, hTO⟩ | ⟨T, f, oT, hz, hT, r1, r2, r3, r4⟩
  · refine wpAny_pyNext_zipD2_item S D1 D2 hz hTI hTO t1 t2 l1 l2 fun u v h' tk pu pv b1 b2 d1 d2 b5 b6 hk => ?_
    exact hQ u v h' tk pu pv ⟨hk _ _ S.TIz S.TITO S.TIi1 S.TIi2 hTI, d1, d2, .inr ⟨_, false, _, b1, b5, lt hz, m1, m2, Nat.ne_of_gt hL⟩⟩ b5 hk
  · unfold pyNext
    refine wpAny_bind (wpAny_attempt (wpAny_callSpecial?_slot (name := Str.ofString "__next__") ty F.slot_zip_next
      (wpAny_call_entry F.slot_zip_next ty F.entry_zip_next (zh_next S D1 D2 hz hT hTI t1 t2 l1 l2 fun u v h' tk pu pv b1 d1 d2 b5 b6 hk => wpAny_pure ?_) (F.args_zip_next_1 _))))
    exact hQ u v h' tk pu pv ⟨hk _ _ S.TIz S.TIi1 S.TIi2 hTI, d1, d2, .inr ⟨T, true, oT, b1, hk _ _ r1 r2 r3 hT, r1, r2, r3, r4⟩⟩ b5 fun c o q1 _ q3 q4 e => hk c o q1 q3 q4 e
theorem zst_done {Q : Option Value → Shared → Prop} (S : ZipSep2 z TI TO i1 i2 fp1 fp2) (D1 : Draws prog w A.in1 i1 fp1 n1 P1 St1) (D2 : Draws prog w A.in1 i2 fp2 n2 P2 St2) (st : ZSt z TI TO i1 i2 L St1 St2 j s.heap) (l1 : j ≤ n1) (l2 : j ≤ n2) (over : j = n1 ∨ j = n2)
    (hQ : ∀ h' tk, (∀ c o, c ≠ z → c ≠ TO → c ≠ i1 → c ≠ i2 → s.heap.get? c = some o → h'.get? c = some o) → Q none { s with heap := h', toks := tk }) : wpAny (model prog w) A (pyNext (.ref z)) Q E s := by
  have ty := zst_type st
  obtain ⟨hTI, t1, t2, a4⟩ := st
  rcases a4 with ⟨hz, a, b, hTO⟩ | ⟨T, f, oT, hz, hT, r1, r2, r3, r4⟩
  · exact wpAny_pyNext_zipD2_end S D1 D2 hz hTI hTO t1 t2 l1 l2 over hQ
  · unfold pyNext
    refine wpAny_bind (wpAny_attempt (wpAny_callSpecial?_slot (name := Str.ofString "__next__") ty F.slot_zip_next
      (wpAny_call_entry F.slot_zip_next ty F.entry_zip_next (zh_stop S D1 D2 hz hT hTI t1 t2 l1 l2 over fun h' tk e hk he => ?_) (F.args_zip_next_1 _))))
    obtain ⟨o, ho, hc⟩ := he
    refine wpAny_bind (wpAny_isInstance (T := "StopIteration") (b := true) ⟨o, ho, hc⟩ isSubtype_stop ?_)
    exact wpAny_pure (hQ _ _ fun c o q1 _ q3 q4 e => hk c o q1 q3 q4 e)
theorem zst_self {Q : Value → Shared → Prop} (st : ZSt z TI TO i1 i2 L St1 St2 j s.heap) (h : Q (.ref z) s) : wpAny (model prog w) A (pyIter (.ref z)) Q E s := by
  have ty := zst_type st
  refine wpAny_pyIter_slot ty F.slot_zip_iter (wpAny_call_entry F.slot_zip_iter ty F.entry_zip_iter ?_ (F.args_zip_iter_1 _))
  show wpAny _ _ (ret (.ref z)) _ _ s
  exact wpAny_pure ⟨_, rfl, "zip", _, ty, F.slot_zip_next.lookup, h⟩
end
/-- the addresses of the pairs given out so far -/
structure ZGo (P1 P2 : Nat → Value → Prop) (lo : Addr) (h : Heap) (as : List Addr) : Prop where
  up : as.Pairwise (· < ·)
  hi : ∀ a ∈ as, lo < a
  each : ∀ (k : Nat) (a : Addr), as[k]? = some a → ∃ u v, P1 k u ∧ P2 k v ∧ IsTupOf2 h a u v
end Rg
namespace Rg
open PySem PySem.Spec PyProof.Rows L2
theorem nolen_zp : typeLookup (.type "zip") "__len__" = pure none := by rw [typeLookup_type, builtinLookup_eq_fast]; kernel_rfl
theorem nohint_zp : typeLookup (.type "zip") "__length_hint__" = pure none := by rw [typeLookup_type, builtinLookup_eq_fast]; kernel_rfl
/-- all cells of the zip stand below L -/
structure ZLow (z TI TO L : Addr) (fp1 fp2 : List Addr) : Prop where
  z : z < L
  TI : TI < L
  TO : TO < L
  f1 : ∀ c ∈ fp1, c < L
  f2 : ∀ c ∈ fp2, c < L
section
variable {prog : Program} {w : World} {A : Around} {s : Shared} {R : Result → Shared → Prop} {z TI TO L i1 i2 : Addr} {fp1 fp2 : List Addr} {n1 n2 : Nat} {P1 P2 : Nat → Value → Prop} {St1 St2 : Nat → Heap → Prop}
theorem zl_keep (W : ZLow z TI TO L fp1 fp2) (D1 : Draws prog w A i1 fp1 n1 P1 St1) (D2 : Draws prog w A i2 fp2 n2 P2 St2) {j : Nat} {h h' : Heap} (st : ZSt z TI TO i1 i2 L St1 St2 j h) (k : ∀ c o, c ≠ L → h.get? c = some o → h'.get? c = some o) : ZSt z TI TO i1 i2 L St1 St2 j h' :=
  zst_keep D1 D2 st (Nat.ne_of_lt W.z) (Nat.ne_of_lt W.TI) (Nat.ne_of_lt W.TO) (fun q => Nat.lt_irrefl _ (W.f1 _ q)) (fun q => Nat.lt_irrefl _ (W.f2 _ q)) k
theorem zl_loop (S : ZipSep2 z TI TO i1 i2 fp1 fp2) (D1 : Draws prog w A.in1.in1 i1 fp1 n1 P1 St1) (D2 : Draws prog w A.in1.in1 i2 fp2 n2 P2 St2) (W : ZLow z TI TO L fp1 fp2) (hn : min n1 n2 ≤ sizeLine) (res : Value) {h0 : Heap}
    (hR : ∀ h' tk acc c as, (∀ b o, b ≠ L → b ≠ z → b ≠ TO → b ≠ i1 → b ≠ i2 → h0.get? b = some o → h'.get? b = some o) → h'.get? L = some { cls := .type "list", dict := none, data := .seq acc c, slots := #[] } → as.length = min n1 n2 → ZGo P1 P2 L h' as → acc.toList = as.map Value.ref → R (.ok (.ret res)) { s with heap := h', toks := tk }) :
    ∀ (m j : Nat) (h : Heap) (tk c : Nat) (acc : Array Value) (as : List Addr), min n1 n2 - j = m → j ≤ min n1 n2 → ZSt z TI TO i1 i2 L St1 St2 j h → (∀ b o, b ≠ L → b ≠ z → b ≠ TO → b ≠ i1 → b ≠ i2 → h0.get? b = some o → h.get? b = some o) →
      h.get? L = some { cls := .type "list", dict := none, data := .seq acc c, slots := #[] } → acc.toList = as.map Value.ref → as.length = j → ZGo P1 P2 L h as → codeAny (model prog w) A (.builtin "list.extend.loop" ⟨[.ref L, .ref z, res], []⟩) R { s with heap := h, toks := tk } := by
  have lz : L ≠ z := Nat.ne_of_gt W.z
  have lTO : L ≠ TO := Nat.ne_of_gt W.TO
  have li1 : L ≠ i1 := Nat.ne_of_gt (W.f1 _ S.mem1)
  have li2 : L ≠ i2 := Nat.ne_of_gt (W.f2 _ S.mem2)
  have off : ∀ {a : Addr}, L < a → a ≠ z ∧ a ≠ TO ∧ a ≠ i1 ∧ a ≠ i2 := fun {a} q => ⟨Nat.ne_of_gt (Nat.lt_trans W.z q), Nat.ne_of_gt (Nat.lt_trans W.TO q), Nat.ne_of_gt (Nat.lt_trans (W.f1 _ S.mem1) q), Nat.ne_of_gt (Nat.lt_trans (W.f2 _ S.mem2) q)⟩
  intro m
  induction m with
  | zero =>
    intro j h tk c acc as hm hj st keep hL full len G
    have le1 := Nat.min_le_left n1 n2
    have le2 := Nat.min_le_right n1 n2
    refine codeAny_builtin PySem.F.entry_extend_loop ?_
    rw [Around.under_plainId PySem.F.plain_extend_loop _]
    show wpAny _ A.in1 (pyNext (.ref z) >>= _) _ _ _
    refine wpAny_bind (zst_done (s := { s with heap := h, toks := tk }) (A := A.in1) S D1 D2 st (by omega) (by omega) (by omega) fun h' tk' ex => ?_)
    refine wpAny_pure (hR h' tk' acc c as (fun b o q0 q1 q2 q3 q4 e => ex b o q1 q2 q3 q4 (keep b o q0 q1 q2 q3 q4 e)) (ex L _ lz lTO li1 li2 hL) (by omega) ⟨G.up, G.hi, fun k a hk => ?_⟩ full)
    obtain ⟨u, v, pu, pv, e⟩ := G.each k a hk
    obtain ⟨o1, o2, o3, o4⟩ := off (G.hi a (List.mem_of_getElem? hk))
    exact ⟨u, v, pu, pv, ex a _ o1 o2 o3 o4 e⟩
  | succ m ih =>
    intro j h tk c acc as hm hj st keep hL full len G
    have le1 := Nat.min_le_left n1 n2
    have le2 := Nat.min_le_right n1 n2
    have size : acc.size = j := by rw [← Array.length_toList, full, List.length_map, len]
    have hLs : L < h.objs.size := Heap.lt_size hL
    refine codeAny_builtin PySem.F.entry_extend_loop ?_
    rw [Around.under_plainId PySem.F.plain_extend_loop _]
    show wpAny _ A.in1 (pyNext (.ref z) >>= _) _ _ _
    refine wpAny_bind (zst_item (s := { s with heap := h, toks := tk }) (A := A.in1) S D1 D2 st hLs (by omega) (by omega) fun u v h' tk' pu pv st' new ex => ?_)
    dsimp only at new ex ⊢
    have hL' := ex L _ lz lTO li1 li2 hL
    have up : ∀ b o, b ≠ L → h'.get? b = some o → (h'.update L (Obj.mapSeq (·.push (Value.ref h.objs.size)))).get? b = some o := fun b o hb e => (Heap.get?_update_other _ _ (Ne.symm hb)).trans e
    show wpAny _ A.in1 (updateSeq L (·.push (Value.ref h.objs.size)) >>= _) _ _ _
    refine wpAny_bind ?_
    refine wpAny_updateSeq hL' rfl (wpAny_pure ⟨plainId_quiet PySem.F.plain_extend_loop _, ih (j + 1) _ tk' _ (acc.push (Value.ref h.objs.size)) (as ++ [h.objs.size]) (by omega) (by omega) (zl_keep W D1 D2 st' up)
      (fun b o q0 q1 q2 q3 q4 e => up b o q0 (ex b o q1 q2 q3 q4 (keep b o q0 q1 q2 q3 q4 e))) (Heap.get?_update_self _ hL' rfl) (by rw [Array.toList_push, full, List.map_append]; rfl) (by rw [List.length_append, len]; rfl) ⟨?_, ?_, ?_⟩⟩) (by rw [size]; omega) (by show (acc.push (Value.ref h.objs.size)).size ≤ sizeLine + 1; rw [Array.size_push, size]; omega)
    · refine List.pairwise_append.mpr ⟨G.up, List.pairwise_singleton _ _, fun a ha b hb => ?_⟩
      rw [List.mem_singleton.mp hb]
      obtain ⟨k, hk⟩ := List.mem_iff_getElem?.mp ha
      obtain ⟨_, _, _, _, e⟩ := G.each k a hk
      exact Heap.lt_size e
    · intro a ha
      rcases List.mem_append.mp ha with ha | ha
      · exact G.hi a ha
      · rw [List.mem_singleton.mp ha]; exact hLs
    · intro k a hk
      rcases Nat.lt_trichotomy k as.length with q | q | q
      · rw [List.getElem?_append_left q] at hk
        obtain ⟨u', v', pu', pv', e⟩ := G.each k a hk
        have ha := G.hi a (List.mem_of_getElem? hk)
        obtain ⟨o1, o2, o3, o4⟩ := off ha
        exact ⟨u', v', pu', pv', up a _ (Nat.ne_of_gt ha) (ex a _ o1 o2 o3 o4 e)⟩
      · subst q
        have ha : h.objs.size = a := by simpa using hk
        subst ha
        rw [len]
        exact ⟨u, v, pu, pv, up _ _ (Nat.ne_of_gt hLs) new⟩
      · rw [List.getElem?_eq_none (by rw [List.length_append, List.length_singleton]; omega)] at hk
        cases hk
theorem zl_extend (S : ZipSep2 z TI TO i1 i2 fp1 fp2) (D1 : Draws prog w A.in1.in1 i1 fp1 n1 P1 St1) (D2 : Draws prog w A.in1.in1 i2 fp2 n2 P2 St2) (W : ZLow z TI TO L fp1 fp2) (hn : min n1 n2 ≤ sizeLine) (res : Value) (c0 : Nat) (st : ZSt z TI TO i1 i2 L St1 St2 0 s.heap) (hL : s.heap.get? L = some { cls := .type "list", data := .seq #[] c0 })
    (hR : ∀ h' tk acc c as, (∀ b o, b ≠ L → b ≠ z → b ≠ TO → b ≠ i1 → b ≠ i2 → s.heap.get? b = some o → h'.get? b = some o) → h'.get? L = some { cls := .type "list", dict := none, data := .seq acc c, slots := #[] } → as.length = min n1 n2 → ZGo P1 P2 L h' as → acc.toList = as.map Value.ref → R (.ok (.ret res)) { s with heap := h', toks := tk }) :
    wpAny (model prog w) A.in1 (Builtin.List.listExtendWith (.ref L) (.ref z) res)
      (fun fin s' => match fin with | .done f => R (.ok f) s' | .again c' => c'.quiet = true ∧ codeAny (model prog w) A c' R s') (fun e s' => R (.error e) s') s := by
  have ty := zst_type st
  have ne : L ≠ z := Nat.ne_of_gt W.z
  unfold Builtin.List.listExtendWith
  refine wpAny_bind (wpAny_typeOf (T := "zip") ty ?_)
  have q1 : Builtin.List.listSameRef (.ref L) (.ref z) = false := by simp [Builtin.List.listSameRef, ne]
  have q2 : (Value.type "zip" == Value.type "list") = false := by decide
  have q3 : (Value.type "zip" == Value.type "tuple") = false := by decide
  simp only [q1, q2, q3, Bool.or_false, Bool.false_eq_true, if_false]
  refine wpAny_bind (zst_self st ?_)
  refine wpAny_bind (wpAny_holding ?_)
  unfold Builtin.List.listLengthHint
  refine wpAny_bind (wpAny_specialOf ty nolen_zp ?_)
  show wpAny _ A.in1 (specialOf (Value.ref z) (Str.ofString "__length_hint__") >>= _) _ _ _
  refine wpAny_bind (wpAny_specialOf ty nohint_zp ?_)
  refine wpAny_pure ?_
  show wpAny _ A.in1 (rule "list.extend.makes-room" >>= fun _ => Builtin.List.listTouch (.ref L) >>= fun _ => again (.builtin "list.extend.loop" ⟨[.ref L, .ref z, res], []⟩)) _ _ _
  refine wpAny_bind (wpAny_rule ?_)
  refine wpAny_bind ?_
  show wpAny _ A.in1 (updateSeq L (·.push .none) >>= fun _ => updateSeq L (·.pop)) _ _ _
  refine wpAny_bind (wpAny_updateSeq hL rfl ?_)
  have hL2 := Heap.get?_update_self (Obj.mapSeq (·.push Value.none)) hL rfl
  refine wpAny_updateSeq (hz := by seq_fits) hL2 rfl ?_
  have hL3 := Heap.get?_update_self (Obj.mapSeq (·.pop)) hL2 rfl
  have oth : ∀ b o, b ≠ L → s.heap.get? b = some o → ((s.heap.update L (Obj.mapSeq (·.push Value.none))).update L (Obj.mapSeq (·.pop))).get? b = some o := fun b o hb e => (Heap.get?_update_other _ _ (Ne.symm hb)).trans ((Heap.get?_update_other _ _ (Ne.symm hb)).trans e)
  refine wpAny_pure ⟨plainId_quiet PySem.F.plain_extend_loop _, zl_loop (s := s) (h0 := s.heap) S D1 D2 W hn res hR _ 0 _ s.toks _ #[] [] rfl (Nat.zero_le _) (zl_keep W D1 D2 st oth) (fun b o q0 _ _ _ _ e => oth b o q0 e) hL3 rfl rfl ⟨List.Pairwise.nil, (fun _ q => nomatch q), fun k a q => by simp at q⟩⟩
theorem zl_call {E : Value → Shared → Prop} {Q : Value → Shared → Prop} (S : ZipSep2 z TI TO i1 i2 fp1 fp2) (D1 : Draws prog w A.in1.in1.in1 i1 fp1 n1 P1 St1) (D2 : Draws prog w A.in1.in1.in1 i2 fp2 n2 P2 St2) (W : ZLow z TI TO s.heap.objs.size fp1 fp2) (hn : min n1 n2 ≤ sizeLine) (st : ZSt z TI TO i1 i2 s.heap.objs.size St1 St2 0 s.heap)
    (hQ : ∀ h' tk acc c as, (∀ b o, b ≠ z → b ≠ TO → b ≠ i1 → b ≠ i2 → s.heap.get? b = some o → h'.get? b = some o) → h'.get? s.heap.objs.size = some { cls := .type "list", dict := none, data := .seq acc c, slots := #[] } → as.length = min n1 n2 → ZGo P1 P2 s.heap.objs.size h' as → acc.toList = as.map Value.ref → Q (.ref s.heap.objs.size) { s with heap := h', toks := tk }) :
    wpAny (model prog w) A (call (.type "list") [.ref z]) Q E s := by
  refine callType_codes (Q₁ := fun obj t => obj = .ref s.heap.objs.size ∧ t = { s with heap := s.heap.push { cls := .type "list", data := .seq #[] } }) PySem.F.called_list (PySem.F.typeCall_list_1 _) PySem.F.entry_list_init
    (code_list_new _ ⟨rfl, rfl⟩) fun obj t ht => ?_
  obtain ⟨rfl, rfl⟩ := ht
  have hL : (s.heap.push { cls := .type "list", data := .seq #[] }).get? s.heap.objs.size = some { cls := .type "list", data := .seq #[] } := Heap.get?_push_size _ rfl
  refine ⟨⟨_, hL, rfl⟩, PySem.F.args_list_init_2 _ _, ?_⟩
  show wpAny _ _ (do let old ← Builtin.List.listItems (.ref s.heap.objs.size); Builtin.List.listUpdate (.ref s.heap.objs.size) (fun _ => #[]); letGo old.toList.reverse; Builtin.List.listExtendWith (.ref s.heap.objs.size) (.ref z) .none) _ _ _
  refine wpAny_bind ?_
  unfold Builtin.List.listItems
  refine wpAny_bind (wpAny_seqItems hL rfl (wpAny_pure ?_))
  show wpAny _ _ (updateSeq s.heap.objs.size (fun _ => #[]) >>= fun _ => letGo (#[] : Array Value).toList.reverse >>= fun _ => Builtin.List.listExtendWith (.ref s.heap.objs.size) (.ref z) .none) _ _ _
  refine wpAny_bind (wpAny_updateSeq hL rfl ?_)
  have hL2 := Heap.get?_update_self (Obj.mapSeq (fun _ => (#[] : Array Value))) hL rfl
  have oth : ∀ b o, b ≠ s.heap.objs.size → s.heap.get? b = some o → ((s.heap.push { cls := .type "list", data := .seq #[] }).update s.heap.objs.size (Obj.mapSeq (fun _ => (#[] : Array Value)))).get? b = some o :=
    fun b o hb e => (Heap.get?_update_other _ _ (Ne.symm hb)).trans (Heap.get?_push_of_some _ e)
  refine wpAny_bind (wpAny_letGo ?_)
  refine zl_extend (A := A.in1) S D1 D2 W hn .none _ (zl_keep W D1 D2 st oth) hL2 fun h' tk acc c as hk hL' hl G hacc => ?_
  exact ⟨rfl, hQ h' tk acc c as (fun b o q1 q2 q3 q4 e => hk b o (Nat.ne_of_lt (Heap.lt_size e)) q1 q2 q3 q4 (oth b o (Nat.ne_of_lt (Heap.lt_size e)) e)) hL' hl G hacc⟩
end
end Rg
namespace Rg
open PySem PySem.Spec PyProof.Rows L2
/-! ### x in a tuple of data -/
section
variable {X : Cx}
def rInDT (K : PySem.W.Frag) : R2 := fun x y Hh Qq => ∃ dx dxs, Dp K Hh x dx ∧ Dp K Hh y (.tuple dxs) ∧ SeqAt.shaped dx = true ∧ SeqAt.shaped (.tuple dxs) = true ∧ Qq (.bl (dxs.any fun z => PyData.eqv z dx)) Hh
theorem op_inDT (hu : X.A.units + 65 < cLine) : OpR X (compareOp .In) (rInDT X.K) := by
  intro pns s σs Hh x y v u Qq Iv rlx rly h
  obtain ⟨dx, dxs, hdx, hdy, sx, sy, qq⟩ := h
  obtain ⟨as, rd1⟩ := Dp.reads Iv dx x v hdx rlx
  obtain ⟨bs, rd2⟩ := Dp.reads Iv (.tuple dxs) y u hdy rly
  exact SeqAt.in_tuple_reads rd2 rd1 (SeqAt.canLay_of_shaped sy) (SeqAt.canLay_of_shaped sx) (room_in_shaped sx hu) ⟨.bl _, Hh, Iv, rfl, qq⟩
end
end Rg
namespace Rg
open PySem PySem.Spec PyProof.Rows L2
/-! ### list(zip(x, y)), by the hand layer -/
/-- pairs tracked at their addresses -/
def putZ : Hp → List Addr → List (V × V) → Hp
  | H, a :: as, q :: qs => putZ (upd H a (.tup [q.1, q.2])) as qs
  | H, _, _ => H
theorem putZ_off {b : Addr} : ∀ (as : List Addr) (qs : List (V × V)) (H : Hp), b ∉ as → putZ H as qs b = H b
  | [], _, _, _ => rfl
  | _ :: _, [], _, _ => rfl
  | a :: as, q :: qs, H, h => by
    show putZ (upd H a (.tup [q.1, q.2])) as qs b = H b
    rw [putZ_off as qs _ (fun m => h (List.mem_cons_of_mem _ m)), upd_ne (fun m => h (by rw [m]; exact List.mem_cons_self))]
/-- where pairs stand -/
def PairsAt (H : Hp) : List Addr → List (V × V) → Prop := Paired fun (t : Addr) (q : V × V) => H t = some (.tup [q.1, q.2])
theorem putZ_at : ∀ (as : List Addr) (qs : List (V × V)) (H : Hp), as.length = qs.length → as.Nodup → PairsAt (putZ H as qs) as qs
  | [], [], _, _, _ => .nil
  | [], _ :: _, _, h, _ => by cases h
  | _ :: _, [], _, h, _ => by cases h
  | a :: as, q :: qs, H, h, hn => by
    have hn' := List.nodup_cons.mp hn
    refine .cons ?_ (putZ_at as qs (upd H a (.tup [q.1, q.2])) (Nat.succ.inj h) hn'.2)
    show putZ (upd H a (.tup [q.1, q.2])) as qs a = some (.tup [q.1, q.2])
    rw [putZ_off as qs _ hn'.1, upd_same]
theorem pairs_get {H : Hp} : ∀ {as : List Addr} {qs : List (V × V)}, PairsAt H as qs → ∀ {i : Nat} {a : Addr}, as[i]? = some a → ∃ q, qs[i]? = some q ∧ H a = some (.tup [q.1, q.2])
  | _, _, .nil, i, x, h => by cases h
  | _, _, .cons r t, 0, x, h => by
    cases h
    exact ⟨_, rfl, r⟩
  | _, _, .cons r t, i + 1, x, h => pairs_get t h
theorem pairs_mem {H : Hp} {as : List Addr} {qs : List (V × V)} (h : PairsAt H as qs) {a : Addr} (m : a ∈ as) : ∃ (i : Nat) (q : V × V), as[i]? = some a ∧ qs[i]? = some q ∧ H a = some (.tup [q.1, q.2]) := by
  obtain ⟨i, hi⟩ := List.mem_iff_getElem?.mp m
  obtain ⟨q, e1, e2⟩ := pairs_get h hi
  exact ⟨i, q, hi, e1, e2⟩
theorem refs_vals : ∀ as : List Addr, Vals (as.map V.ref) (as.map Value.ref)
  | [] => .nil
  | _ :: as => .cons rfl (refs_vals as)
theorem zip_get {α β : Type} : ∀ {xs : List α} {ys : List β} {i : Nat} {q : α × β}, (xs.zip ys)[i]? = some q → xs[i]? = some q.1 ∧ ys[i]? = some q.2
  | [], _, i, q, h => by simp at h
  | _ :: _, [], i, q, h => by simp at h
  | x :: xs, y :: ys, 0, q, h => by
    have e : (x, y) = q := by simpa using h
    subst e
    exact ⟨rfl, rfl⟩
  | x :: xs, y :: ys, i + 1, q, h => by
    have h' : (xs.zip ys)[i]? = some q := by simpa using h
    simpa using zip_get h'
theorem zip_laid {X : Cx} {pins : List (Addr × Obj)} {σ : L2.St} {H : Hp} {s : Shared} {h' : Heap} {tk : Nat} {xs ys : List V} {is js : List Value} {acc : Array Value} {c : Nat} {as : List Addr} {L : Addr} (I : Inv X pins σ H s) (hx : Vals xs is) (hy : Vals ys js) (hz : xs.length ≤ sizeLine) (above : s.heap.objs.size ≤ L)
    (keep : ∀ b o, s.heap.get? b = some o → h'.get? b = some o) (hL : h'.get? L = some { cls := .type "list", dict := none, data := .seq acc c, slots := #[] }) (len : as.length = min is.toArray.size js.toArray.size) (G : ZGo (fun i v => is.toArray[i]? = some v) (fun i v => js.toArray[i]? = some v) L h' as) (full : acc.toList = as.map Value.ref) :
    ∃ H' : Hp, Same H H' ∧ H L = none ∧ (∀ t ∈ as, H t = none) ∧ H' L = some (.lst (as.map V.ref)) ∧ PairsAt H' as (xs.zip ys) ∧ Inv X pins σ H' { s with heap := h', toks := tk } := by
  have l1 := hx.length
  have l2 := hy.length
  have lz : as.length = (xs.zip ys).length := by rw [List.length_zip, len]; simp only [List.size_toArray]; omega
  have nL : L ∉ as := fun m => Nat.lt_irrefl _ (G.hi _ m)
  have nd : as.Nodup := List.Pairwise.imp (fun {a b} (h : a < b) => Nat.ne_of_lt h) G.up
  have fresh : ∀ t ∈ as, H t = none := fun t m => I.hok.fresh (Nat.le_trans above (Nat.le_of_lt (G.hi t m)))
  have freshL : H L = none := I.hok.fresh above
  have at_ := putZ_at as (xs.zip ys) (upd H L (.lst (as.map V.ref))) lz nd
  have off : ∀ b, b ∉ as → b ≠ L → putZ (upd H L (.lst (as.map V.ref))) as (xs.zip ys) b = H b := fun b m n => by rw [putZ_off as _ _ m, upd_ne n]
  have low : ∀ b o, s.heap.get? b = some o → b ∉ as ∧ b ≠ L := fun b o e => ⟨fun m => absurd (Heap.lt_size e) (Nat.not_lt.mpr (Nat.le_trans above (Nat.le_of_lt (G.hi b m)))), Nat.ne_of_lt (Nat.lt_of_lt_of_le (Heap.lt_size e) above)⟩
  have kp : ∀ b u, H b = some u → (putZ (upd H L (.lst (as.map V.ref))) as (xs.zip ys)) b = some u := fun b u e => by
    rw [off b (fun m => by rw [fresh b m] at e; cases e) (fun m => by rw [m, freshL] at e; cases e)]
    exact e
  have eL : putZ (upd H L (.lst (as.map V.ref))) as (xs.zip ys) L = some (.lst (as.map V.ref)) := by rw [putZ_off as _ _ nL, upd_same]
  refine ⟨putZ (upd H L (.lst (as.map V.ref))) as (xs.zip ys), kp, freshL, fresh, eL, at_, ?_⟩
  refine I.call' (ch := []) rfl ⟨fun b o q _ _ _ => keep b o q, fun b o q _ _ _ => ⟨o.slots, keep b o q⟩, fun b o q n _ => ?_, fun b o q _ => ⟨o, keep b o q⟩, fun b us q => kp b _ q, fun b o u q => kp b _ q, fun b ps q => ⟨#[], by rw [kp b _ q]; simp⟩⟩ (fun b u q => ?_) I.bare fun b m => by simp at m
  · obtain ⟨m1, m2⟩ := low b o q
    rw [off b m1 m2]
    exact n
  · by_cases m : b ∈ as
    · obtain ⟨i, p, e1, e2, e3⟩ := pairs_mem at_ m
      rw [e3] at q
      cases q
      obtain ⟨x, y⟩ := p
      obtain ⟨f1, f2⟩ := zip_get e2
      obtain ⟨u, v, pu, pv, hT⟩ := G.each i b e1
      obtain ⟨u', hu, ru⟩ := hx.get f1
      obtain ⟨v', hv, rv⟩ := hy.get f2
      have eu : u' = u := by rw [List.getElem?_toArray, hu] at pu; exact Option.some.inj pu
      have ev : v' = v := by rw [List.getElem?_toArray, hv] at pv; exact Option.some.inj pv
      subst eu ev
      exact ⟨by show 2 ≤ sizeLine; decide, [u', v'], .cons ru (.cons rv .nil), ⟨_, hT, rfl, _, rfl⟩⟩
    · by_cases m2 : b = L
      · rw [m2] at q ⊢
        rw [eL] at q
        cases q
        refine ⟨by rw [List.length_map, lz, List.length_zip]; omega, acc.toList, c, by rw [full]; exact refs_vals as, ?_⟩
        rw [Array.toArray_toList]
        exact hL
      · rw [off b m m2] at q
        exact (I.hok b u q).stay (fun d v _ y => keep d v y) (fun d y => kp d _ y) fun d us y => kp d _ y
section
variable {X : Cx}
/-- two lists, or two tuples -/
def Seq2 (K : PySem.W.Frag) (H : Hp) (a b : Addr) (xs ys : List V) : Prop := (SqL K H a xs ∧ SqL K H b ys) ∨ (SqT K H a xs ∧ SqT K H b ys)
def tLZip (K : PySem.W.Frag) (ta : TA) : TE := fun σ H Q => ta σ H fun vs H1 => ∃ (a b : Addr) (xs ys : List V), vs = [.ref a, .ref b] ∧ Seq2 K H1 a b xs ys ∧
  ∀ (p : Addr) (ts : List Addr) (H' : Hp), Same H1 H' → H1 p = none → (∀ t ∈ ts, H1 t = none) → H' p = some (.lst (ts.map V.ref)) → PairsAt H' ts (xs.zip ys) → Q (.ref p) H'
theorem pe_listZip {e e2 : Expr} {ta : TA} {p p2 pos2 pos : Pos} (calm : X.calm = true) (gl : Gl X "list") (ml : X.mg "list" = none) (gz : Gl X "zip") (mz : X.mg "zip" = none) (ha : PA X [e, e2] ta)
    (st : starEach [.Call (.Name "zip" p2) [e, e2] [] pos2] X.env = (false, eval (.Call (.Name "zip" p2) [e, e2] [] pos2) X.env) :: starEach [] X.env := by rfl)
    (st2 : starEach [e, e2] X.env = (false, eval e X.env) :: starEach [e2] X.env := by rfl) (pl2 : (backTo pos2 (starEach [e2] X.env)).any (·.1) = false := by rfl) :
    PE X (.Call (.Name "list" p) [.Call (.Name "zip" p2) [e, e2] [] pos2] [] pos) (tLZip X.K ta) := by
  refine ⟨fun pins s σ H Q I h => ?_⟩
  refine wpAny_Call_Name_kw (ld_blt I gl ml (by decide +kernel : bootBuiltins "list" = some (.type "list")) ?_)
  refine PyProof.Rows.callWith_type1 ?_ st rfl
  rw [st]
  show wpAny _ _ (spliced ((false, eval (.Call (.Name "zip" p2) [e, e2] [] pos2) X.env) :: backTo pos (starEach [] X.env))) _ _ s
  refine Calls.spliced_cons ?_
  refine wpAny_Call_Name_kw (ld_blt I gz mz PyProof.Rows.boot_zip ?_)
  refine PyProof.Rows.callWith_type1 (thn (ha.run pos2 pins s σ H _ I h) fun us s1 ⟨vs, H1, I1, r1, q1⟩ => ?_) st2 pl2
  obtain ⟨a, b, xs, ys, ex, sq, q⟩ := q1
  subst ex
  cases r1 with
  | cons r rr =>
    cases rr with
    | cons r' rr =>
      cases rr
      cases r
      cases r'
      have clear := I1.ok.hd calm
      have fin : ∀ {is js : List Value} {St1 St2 : Nat → Heap → Prop} {h' : Heap}, Vals xs is → Vals ys js → xs.length ≤ sizeLine → ys.length ≤ sizeLine → a < s1.heap.objs.size → b < s1.heap.objs.size →
          Draws X.prog X.w X.A.in1.in1.in1 s1.heap.objs.size [s1.heap.objs.size, a] is.toArray.size (fun i v => is.toArray[i]? = some v) St1 → Draws X.prog X.w X.A.in1.in1.in1 (s1.heap.objs.size + 1) [s1.heap.objs.size + 1, b] js.toArray.size (fun i v => js.toArray[i]? = some v) St2 →
          IsZip h' (s1.heap.objs.size + 4) (s1.heap.objs.size + 2) (s1.heap.objs.size + 3) .none → IsPair h' (s1.heap.objs.size + 2) (.ref s1.heap.objs.size) (.ref (s1.heap.objs.size + 1)) → IsPair h' (s1.heap.objs.size + 3) .none .none → St1 0 h' → St2 0 h' → h'.objs.size = s1.heap.objs.size + 5 →
          (∀ c o, s1.heap.get? c = some o → h'.get? c = some o) → wpAny (model X.prog X.w) X.A (spliced (backTo pos (starEach [] X.env))) (fun vs s₁ => wpAny (model X.prog X.w) X.A (call (.type "list") (.ref (s1.heap.objs.size + 4) :: vs)) (EP X pins σ Q) X.xe s₁) X.xe { s1 with heap := h' } := by
        intro is js St1 St2 h' rx ry zx zy la lb D1 D2 hz hTI hTO t1 t2 size keep
        refine Calls.spliced_nil ?_
        have S := zip_sep2 (N := s1.heap.objs.size) (fp1 := [a]) (fp2 := [b]) (fun c m => by rw [List.mem_singleton.mp m]; exact la) (fun c m => by rw [List.mem_singleton.mp m]; exact lb)
        have lx := rx.length
        have W : ZLow (s1.heap.objs.size + 4) (s1.heap.objs.size + 2) (s1.heap.objs.size + 3) h'.objs.size [s1.heap.objs.size, a] [s1.heap.objs.size + 1, b] := by
          rw [size]
          refine ⟨show (s1.heap.objs.size + 4 : Nat) < s1.heap.objs.size + 5 by omega, show (s1.heap.objs.size + 2 : Nat) < s1.heap.objs.size + 5 by omega, show (s1.heap.objs.size + 3 : Nat) < s1.heap.objs.size + 5 by omega, fun c m => ?_, fun c m => ?_⟩
          · rcases List.mem_cons.mp m with e | m
            · rw [e]; exact show (s1.heap.objs.size : Nat) < s1.heap.objs.size + 5 by omega
            · rw [List.mem_singleton.mp m]; exact Nat.lt_of_lt_of_le la (Nat.le_add_right _ _)
          · rcases List.mem_cons.mp m with e | m
            · rw [e]; exact show (s1.heap.objs.size + 1 : Nat) < s1.heap.objs.size + 5 by omega
            · rw [List.mem_singleton.mp m]; exact Nat.lt_of_lt_of_le lb (Nat.le_add_right _ _)
        refine zl_call (s := { s1 with heap := h' }) S D1 D2 W (Nat.le_trans (Nat.min_le_left _ _) (by simp only [List.size_toArray]; omega)) ⟨hTI, t1, t2, .inl ⟨hz, _, _, hTO⟩⟩ fun h2 tk acc c as hk hL len G full => ?_
        have keep2 : ∀ b o, s1.heap.get? b = some o → h2.get? b = some o := fun d o x => by
          have l := Heap.lt_size x
          exact hk d o (Nat.ne_of_lt (Nat.lt_of_lt_of_le l (Nat.le_add_right _ _))) (Nat.ne_of_lt (Nat.lt_of_lt_of_le l (Nat.le_add_right _ _))) (Nat.ne_of_lt l) (Nat.ne_of_lt (Nat.lt_of_lt_of_le l (Nat.le_add_right _ _))) (keep d o x)
        obtain ⟨H', k1, k2, k3, k4, k5, J⟩ := zip_laid (tk := tk) I1 rx ry zx (by show s1.heap.objs.size ≤ h'.objs.size; rw [size]; exact Nat.le_add_right _ _) keep2 hL len G full
        exact ⟨.ref _, H', J, rfl, q _ as H' k1 k2 k3 k4 k5⟩
      rcases sq with ⟨hx, hy⟩ | ⟨hx, hy⟩
      · obtain ⟨is, rx, p1, zx⟩ := I1.list hx
        obtain ⟨js, ry, p2, zy⟩ := I1.list hy
        have d1 : Draws X.prog X.w X.A.in1.in1.in1 s1.heap.objs.size [s1.heap.objs.size, a] is.toArray.size (fun i v => is.toArray[i]? = some v) (fun j h => h.IsListIter s1.heap.objs.size a j ∧ h.IsList a is.toArray) := Draws.list (A := X.A.in1.in1.in1) clear _ a (Nat.ne_of_lt p1.lt) _
        have d2 : Draws X.prog X.w X.A.in1.in1.in1 (s1.heap.objs.size + 1) [s1.heap.objs.size + 1, b] js.toArray.size (fun i v => js.toArray[i]? = some v) (fun j h => h.IsListIter (s1.heap.objs.size + 1) b j ∧ h.IsList b js.toArray) := Draws.list (A := X.A.in1.in1.in1) clear _ b (Nat.ne_of_lt (Nat.lt_succ_of_lt p2.lt)) _
        refine call_zip_2 p1.isList p2.isList fun h' hz hTI hTO h1 h2 size keep => fin rx ry zx zy p1.lt p2.lt d1 d2 hz hTI hTO ⟨h1, p1.isList.at fun o e => keep _ o e⟩ ⟨h2, p2.isList.at fun o e => keep _ o e⟩ size keep
      · obtain ⟨is, rx, p1, zx⟩ := I1.tuple hx
        obtain ⟨js, ry, p2, zy⟩ := I1.tuple hy
        have la : a < s1.heap.objs.size := by obtain ⟨o1, ho1, _⟩ := id p1; exact Heap.lt_size ho1
        have lb : b < s1.heap.objs.size := by obtain ⟨o1, ho1, _⟩ := id p2; exact Heap.lt_size ho1
        have g1 : s1.heap.IsTuple a is.toArray := p1
        have g2 : s1.heap.IsTuple b js.toArray := p2
        have d1 : Draws X.prog X.w X.A.in1.in1.in1 s1.heap.objs.size [s1.heap.objs.size, a] is.toArray.size (fun i v => is.toArray[i]? = some v) (fun j h => h.IsTupleIter s1.heap.objs.size a j ∧ h.IsTuple a is.toArray) := draws_tup (A := X.A.in1.in1.in1) clear _ a (Nat.ne_of_lt la) _
        have d2 : Draws X.prog X.w X.A.in1.in1.in1 (s1.heap.objs.size + 1) [s1.heap.objs.size + 1, b] js.toArray.size (fun i v => js.toArray[i]? = some v) (fun j h => h.IsTupleIter (s1.heap.objs.size + 1) b j ∧ h.IsTuple b js.toArray) := draws_tup (A := X.A.in1.in1.in1) clear _ b (Nat.ne_of_lt (Nat.lt_succ_of_lt lb)) _
        refine RZ.call_zipT g1 g2 fun h' hz hTI hTO h1 h2 size keep => fin rx ry zx zy la lb d1 d2 hz hTI hTO ⟨h1, tup_at g1 fun o e => keep _ o e⟩ ⟨h2, tup_at g2 fun o e => keep _ o e⟩ size keep
/-! ### for .. in (x if c else y) -/
def iIf (tA : TT) (wa wb : TI) : TI := fun σ H R => tA σ H fun d H1 => if d = true then wa σ H1 R else wb σ H1 R
theorem pi_ifExp {c a b tg : Expr} {pos : Pos} {tA : TT} {wa wb : TI} (hc : PT X c tA) (ha : PI X tg a wa) (hb : PI X tg b wb) : PI X tg (.IfExp c a b pos) (iIf tA wa wb) := by
  refine ⟨fun pins s σ H R I h => ?_⟩
  refine wpAny_IfExp (thn (hc.run pins s σ H _ I h) fun d s1 ⟨H1, I1, q1⟩ => ?_)
  cases d with
  | true => exact ha.run pins s1 σ H1 R I1 q1
  | false => exact hb.run pins s1 σ H1 R I1 q1
/-! ### x not in a tuple of data -/
def rNotInDT (K : PySem.W.Frag) : R2 := fun x y Hh Qq => ∃ dx dxs, Dp K Hh x dx ∧ Dp K Hh y (.tuple dxs) ∧ SeqAt.shaped dx = true ∧ SeqAt.shaped (.tuple dxs) = true ∧ Qq (.bl (!dxs.any fun z => PyData.eqv z dx)) Hh
theorem op_notInDT (hu : X.A.units + 65 < cLine) : OpR X (compareOp .NotIn) (rNotInDT X.K) := by
  intro pns s σs Hh x y v u Qq Iv rlx rly h
  obtain ⟨dx, dxs, hdx, hdy, sx, sy, qq⟩ := h
  obtain ⟨as, rd1⟩ := Dp.reads Iv dx x v hdx rlx
  obtain ⟨bs, rd2⟩ := Dp.reads Iv (.tuple dxs) y u hdy rly
  exact SeqAt.notIn_tuple_reads rd2 rd1 (SeqAt.canLay_of_shaped sy) (SeqAt.canLay_of_shaped sx) (room_in_shaped sx hu) ⟨.bl _, Hh, Iv, rfl, qq⟩
end
end Rg
namespace Rg
open PySem PySem.Spec PyProof.Rows L2 LamX NdefX
/-! ### a lambda with parameters and no captured names, as a value -/
/-- the object at f is this lambda -/
def LamO (f : Addr) (q : Str) (params : Arguments) (body : Expr) (scope : Scope) (c : Addr) : HO := .ext fun h => ∃ (pmz ctvz : Value), h.get? f = some (PySem.W.kla_obj "<lambda>" q params body scope [] pmz c ctvz)
section
variable {X : Cx} {pins : List (Addr × Obj)} {σ : L2.St} {H : Hp} {s : Shared} {q : Str} {params : Arguments} {body : Expr} {scope : Scope}
theorem lamO_ne {f c : Addr} (ps : Array Value) : LamO f q params body scope c ≠ .tbl ps := fun z => by
  unfold LamO at z
  cases z
theorem lamO_at {P : Program} {w : World} {h : Heap} {f c : Addr} (hok : HOk P w H h) (e : H f = some (LamO f q params body scope c)) : ∃ (pmz ctvz : Value), h.get? f = some (PySem.W.kla_obj "<lambda>" q params body scope [] pmz c ctvz) := by
  obtain ⟨z, _, _⟩ := hok f _ e
  exact z
theorem inv_lam {c : Addr} {t' : Nat} {pmz ctvz : Value} (Iz : Inv X pins σ H s) :
    Inv X pins σ (upd H s.heap.objs.size (LamO s.heap.objs.size q params body scope c)) { s with heap := s.heap.push (PySem.W.kla_obj "<lambda>" q params body scope [] pmz c ctvz), toks := t' } := by
  refine Iz.laid (a := s.heap.objs.size) (fun b u e => Heap.get?_push_of_some _ e) (Nat.le_refl _) ?_
  have e : (s.heap.push (PySem.W.kla_obj "<lambda>" q params body scope [] pmz c ctvz)).get? s.heap.objs.size = some (PySem.W.kla_obj "<lambda>" q params body scope [] pmz c ctvz) := Heap.get?_push_size _ rfl
  exact ⟨⟨pmz, ctvz, e⟩, ⟨_, e⟩, fun h1 h2 ⟨p, t, z⟩ st => ⟨p, t, st _ z⟩⟩
theorem lam_makeV {T : List (Addr × Str)} {c P : Addr} {pos : Pos} {E : Value → Shared → Prop} {Q : Value → Shared → Prop} (Iz : Inv X pins σ H s) (TB : TabB X.base X.mg c P) (hcode : X.env.code = .ref c)
    (hm : (P, X.env.qual ++ "<lambda>") ∈ T) (hu : ∀ p ∈ T, p.1 = P → p.2 = X.env.qual ++ "<lambda>") (hTz : Tabs T H) (hdef : defaultsOf params X.env = ([], [])) (hfree : ∀ y ∈ scope.names, y.2 ≠ .free) (hclo : cloFrom X.env.cells scope.names [] = [])
    (h : ∀ (f c' : Addr) (H1 : Hp) (s' : Shared), Inv X pins σ H1 s' → ExtN H H1 → Tabs T H1 → H f = none → H1 f = some (LamO f (X.env.qual ++ "<lambda>") params body scope c') → H1 c' = some (CodeO c' (X.env.qual ++ "<lambda>")) → Q (.ref f) s') :
    wpAny (model X.prog X.w) X.A (eval (.Lambda params body scope pos) X.env) Q E s := by -- made
  obtain ⟨ps, hPz, ht, ha⟩ := hTz _ hm
  refine (PySem.W.kla_eval hdef ?_)
  have bPz : s.heap.BuiltinsAt X.mg P := TB.bm.keeps Iz.bk
  have hPz' : s.heap.get? P = some { cls := .none, data := .fields ps } := Iz.hok P _ hPz
  have hfr : ∀ y ∈ scope.names, y.2 = .free → ∃ c, X.env.cells.lookup y.1 = some c := fun y hy e => absurd e (hfree y hy)
  cases hc : (codeAmong pos ps.toList) with
  | none =>
    refine PySem.W.kla_makeFunction (mg := X.mg) (c := c) (P := P) (ps := ps) (closure_ok hfr) Iz.ok.glob (Iz.mod.glob.keeps Iz.bk) hcode (TB.code.keeps Iz.bk) hPz' ht hc TB.gP bPz fun c' ctvz h' tkz hxz hgez hltz hrecz htbz => ?_
    obtain ⟨c2, oc, vs, t, e2, hocz, hd, hvz⟩ := hrecz
    cases e2
    rw [hclo]
    have nCz : H c' = none := Iz.hok.fresh hgez
    have I1z := inv_table (t' := tkz) (more := #[rawInt pos.line, rawInt pos.col, .ref c']) (h' := h') Iz hPz (fun b o hb e => hxz b o hb e) htbz hgez ⟨oc, vs, t, hocz, hd, hvz⟩
    have hEz : ExtN H (upd (upd H P (.tbl (ps ++ #[rawInt pos.line, rawInt pos.col, .ref c']))) c' (CodeO c' (X.env.qual ++ "<lambda>"))) := fun b o e n => by
      rw [upd_ne (ne_of_none e nCz), upd_ne (fun z => n ps (Option.some.inj (e.symm.trans (by rw [z]; exact hPz))))]
      exact e
    have eLz : (ps ++ #[rawInt pos.line, rawInt pos.col, .ref c']).toList = ps.toList ++ [rawInt pos.line, rawInt pos.col, .ref c'] := by simp
    have T1z : Tabs T (upd (upd H P (.tbl (ps ++ #[rawInt pos.line, rawInt pos.col, .ref c']))) c' (CodeO c' (X.env.qual ++ "<lambda>"))) := fun p hp => by
      by_cases hb : p.1 = P
      · rw [hu p hp hb, hb]
        refine ⟨_, by rw [upd_ne (ne_of_none hPz nCz), upd_same], by rw [eLz]; exact PySem.TriplesOk_snoc _ _ _ _ ht, fun p' cvz hcvz => ?_⟩
        rw [eLz] at hcvz
        rcases among_app _ ht hcvz with z | z
        · obtain ⟨c0z, e1, e2⟩ := ha p' cvz z
          exact ⟨c0z, e1, hEz _ _ e2 codeO_ne⟩
        · exact ⟨c', z, upd_same⟩
      · obtain ⟨psz', a1z, a2z, a3z⟩ := hTz p hp
        refine ⟨psz', by rw [upd_ne (ne_of_none a1z nCz), upd_ne hb]; exact a1z, a2z, fun p' cvz hcvz => ?_⟩
        obtain ⟨c0z, e1, e2⟩ := a3z p' cvz hcvz
        exact ⟨c0z, e1, hEz _ _ e2 codeO_ne⟩
    have nFz := I1z.hok.fresh (Nat.le_refl _)
    have I2z := inv_lam (q := X.env.qual ++ "<lambda>") (params := params) (body := body) (scope := scope) (c := c') (t' := tkz) (pmz := (X.mg "__name__").getD .none) (ctvz := ctvz) I1z
    refine h h'.objs.size c' _ _ I2z (fun b o e n => ?_) (T1z.ext fun b o e => ?_) (Iz.hok.fresh (Nat.le_trans hgez (Nat.le_of_lt hltz))) upd_same ?_
    · have e1 := hEz b o e n
      exact (upd_ne (ne_of_none e1 nFz)).trans e1
    · exact (upd_ne (ne_of_none e nFz)).trans e
    · exact (upd_ne (Nat.ne_of_lt hltz)).trans upd_same
  | some cvz =>
    obtain ⟨c', e, hcoz⟩ := ha pos cvz hc
    subst e
    refine PySem.W.kla_makeFunctionHit (mg := X.mg) (c := c) (P := P) (ps := ps) (closure_ok hfr) Iz.ok.glob (Iz.mod.glob.keeps Iz.bk) hcode (TB.code.keeps Iz.bk) hPz' ht hc bPz fun ctvz h' tkz hxz hsz => ?_
    rw [hclo]
    have I1z : Inv X pins σ H { s with heap := h', toks := tkz } := Iz.kept hxz
    have nFz : H h'.objs.size = none := I1z.hok.fresh (Nat.le_refl _)
    have I2z := inv_lam (q := X.env.qual ++ "<lambda>") (params := params) (body := body) (scope := scope) (c := c') (t' := tkz) (pmz := (X.mg "__name__").getD .none) (ctvz := ctvz) I1z
    refine h h'.objs.size c' _ _ I2z (fun b o e n => ?_) (hTz.ext fun b o e => ?_) nFz upd_same ?_
    · exact (upd_ne (ne_of_none e nFz)).trans e
    · exact (upd_ne (ne_of_none e nFz)).trans e
    · exact (upd_ne (ne_of_none hcoz nFz)).trans hcoz
end
def tLamV (T : List (Addr × Str)) (q : Str) (params : Arguments) (body : Expr) (scope : Scope) : TE := fun _ H Q => Tabs T H ∧ ∀ (f c' : Addr) (H1 : Hp), ExtN H H1 → Tabs T H1 → H f = none → H1 f = some (LamO f q params body scope c') → H1 c' = some (CodeO c' q) → Q (.ref f) H1
theorem pe_lamval {X : Cx} {T : List (Addr × Str)} {c P : Addr} {params : Arguments} {body : Expr} {scope : Scope} {lpos : Pos} (TB : TabB X.base X.mg c P) (hcode : X.env.code = .ref c) (hm : (P, X.env.qual ++ "<lambda>") ∈ T) (hu : ∀ p ∈ T, p.1 = P → p.2 = X.env.qual ++ "<lambda>")
    (hdef : defaultsOf params X.env = ([], [])) (hfree : ∀ y ∈ scope.names, y.2 ≠ .free) (hclo : cloFrom X.env.cells scope.names [] = []) : PE X (.Lambda params body scope lpos) (tLamV T (X.env.qual ++ "<lambda>") params body scope) :=
  ⟨fun pins s σ H Q Iz h => lam_makeV Iz TB hcode hm hu h.1 hdef hfree hclo fun f c' H1 s' I1z e t n l c => ⟨.ref f, H1, I1z, rfl, h.2 f c' H1 e t n l c⟩⟩
/-! ### calling it -/
structure LOk (P : Program) (w : World) (K : PySem.W.Frag) (mg : Str → Option Value) (base : Heap) (CX : CXT) (k : Nat) (f c' : Addr) (q : Str) (params : Arguments) (body : Expr) (scope : Scope) (ps : List Str) (sp : Sp) : Prop where
  run : ∀ (A : Around) (outer : List Env) (s : Shared) (H : Hp) (us : List Value) (vs : List V) (Q : VK) (E : XK), Room k A → Env0 P w K mg base A outer s H → H f = some (LamO f q params body scope c') → H c' = some (CodeO c' q) →
    Vals vs us → sp vs H Q E → codeAny (model P w) A (.call (.ref f) ⟨us, []⟩) (CR CX outer P w H s Q E) s
abbrev lamF (q : Str) (params : Arguments) (scope : Scope) (c' : Addr) : NF := ⟨"<lambda>", q, params, [], scope, [], c'⟩
section
variable {CX : CXT} {P : Program} {w : World} {K : PySem.W.Frag} {mg : Str → Option Value} {base : Heap} {N ps : List Str} {f c' : Addr} {k : Nat} {sp : Sp} {q : Str} {params : Arguments} {body : Expr} {scope : Scope}
theorem lok_of (S : NScope N ps [] scope) (hb : ∀ (pmz ctvz : Value) (us : List Value), us.length = ps.length → bindArgs (PySem.W.kla_fn "<lambda>" q params body scope [] pmz (.ref c') ctvz) ⟨us, []⟩ = pure (ps.zip us)) (len : ∀ vs H Q E, sp vs H Q E → vs.length = ps.length)
    (hbodyz : ∀ (A : Around) (outer : List Env) (s : Shared) (H : Hp) (vs : List V) (Q : VK) (E : XK), Room k (A.deeper (envF (lamF q params scope c') f s.heap.objs.size)) → sp vs H Q E →
      ∃ t, PE (ncx CX P w K mg base N (lamF q params scope c') f A outer s H E) body t ∧ t (startF N vs []) H Q) :
    LOk P w K mg base CX (k + 1) f c' q params body scope ps sp := by
  refine ⟨fun A outer s H us vs Q E hr e0 hf hc r hspz => ?_⟩
  have hl := len _ _ _ _ hspz
  have limz : s.heap.NoLimit := e0.mod.nolimit.keeps fun b o e => (e0.bs b o e).1
  obtain ⟨pmz, ctvz, hoz⟩ := lamO_at e0.hok hf
  refine PySem.W.kla_callFunE hr.depth hoz rfl S.co S.gen rfl (codeO_at e0.hok hc) ?_
  rw [hb pmz ctvz us (by rw [← r.length]; exact hl)]
  refine wpAny_pure (wpAny_newFunctionEnv S.nocell (fun ⟨n, _⟩ hy => S.par n (List.of_mem_zip hy).1) (fun h₁z hnsz hsbz => ⟨limz.fresh _ hsbz, ?_⟩) S.kind)
  show codeAny _ _ (.expr body (envF (lamF q params scope c') f s.heap.objs.size)) _ _
  have kpz : ∀ b o, s.heap.get? b = some o → h₁z.get? b = some o := fun b o e => hsbz.extBut b o (Nat.ne_of_lt (Heap.lt_size e)) (Heap.get?_push_of_some _ e)
  obtain ⟨t, ht, hqz⟩ := hbodyz A outer s H vs Q E (hr.deeper _) hspz
  have C : CellsAt (lamF q params scope c').cl [] [] s.heap H := by
    refine ⟨rfl, fun y c e => ?_, fun x y c e => ?_, fun i y e => ?_⟩
    · exact nomatch (show ([] : List (Str × Addr)).lookup y = some c from e)
    · exact nomatch (show ([] : List (Str × Addr)).lookup x = some c from e)
    · cases i <;> cases e
  have J : Inv (ncx CX P w K mg base N (lamF q params scope c') f A outer s H E) [] (startF N vs []) H { s with heap := h₁z, toks := s.toks + (ps.zip us).length } := inv_startN S hr.hd e0 hl r C hnsz kpz
  refine PySem.W.kla_codeExpr (wpAny_mono (ht.run [] _ _ H Q J hqz) (fun v s' hqz => ?_) fun e s' hqz => hqz)
  obtain ⟨w', H', J', rv, q⟩ := hqz
  exact ⟨_, _, J'.os, J'.bare, J'.base, J'.hok, rv, q⟩
end
/-- x(..), x holds a def or the lambda -/
def tCallY (i : Nat) (fW : Addr) (q : Str) (params : Arguments) (body : Expr) (scope : Scope) (spW spL : Sp) (E : XK) (t : TA) : TE := fun σ H Q => ∃ f, σ[i]? = some (some (.ref f)) ∧
  ((f = fW ∧ t σ H fun vs H1 => spW vs H1 Q E) ∨ ∃ c', H f = some (LamO f q params body scope c') ∧ t σ H fun vs H1 => H1 f = some (LamO f q params body scope c') ∧ H1 c' = some (CodeO c' q) ∧ spL vs H1 Q E)
section
variable {X : Cx} {CX : CXT} {k i : Nat} {fW : Addr} {fdW : FuncData} {psW psL : List Str} {spW spL : Sp} {q : Str} {params : Arguments} {body : Expr} {scope : Scope} {E : XK} {x : Str} {p pos : Pos} {e : Expr} {es : List Expr} {t : TA}
theorem pe_callY (FW : FnOk X.prog X.w X.K X.mg X.base CX k fW fdW psW spW) (hkW : PySem.W.keepIn X.K (.ref fW) = true) (hbW : Binds X.K fdW psW []) (FL : ∀ f c', LOk X.prog X.w X.K X.mg X.base CX k f c' q params body scope psL spL) (hr : Room k X.A) (hNz : X.N[i]? = some x) (hvz : Vis X.env.scope x) (hxz : Passes CX X E) (ha : PA X (e :: es) t)
    (hdbz : (x == ("__debug__" : Str)) = false := by decide) (hcdz : (x == ("__classdict__" : Str)) = false := by decide)
    (he : starEach (e :: es) X.env = (false, eval e X.env) :: starEach es X.env := by rfl) (hpl : (backTo pos (starEach es X.env)).any (·.1) = false := by rfl) : PE X (.Call (.Name x p) (e :: es) [] pos) (tCallY i fW q params body scope spW spL E t) := by
  refine ⟨fun pins s σ H Q Iz h => ?_⟩
  obtain ⟨f, hs, ⟨rfl, ht⟩ | ⟨c', hf, ht⟩⟩ := h
  · refine (pe_callL (i := i) (f := f) (sp := spW) (dvs := []) (E := E) FW hr hNz hvz hkW hbW .nil hxz ha hdbz hcdz he hpl).run pins s σ H Q Iz ⟨hs, ?_⟩
    have e0 : (fun (vs : List V) (H1 : Hp) => spW (vs ++ []) H1 Q E) = fun vs H1 => spW vs H1 Q E := by
      funext vs H1
      rw [List.append_nil]
    show t σ H (fun vs H1 => spW (vs ++ []) H1 Q E)
    rw [e0]
    exact ht
  · refine wpAny_Call_Name_kw (thn ((pe_var (pos := p) hNz hvz hdbz hcdz).run pins s σ H (fun v H1 => v = .ref f ∧ H1 = H) Iz ⟨.ref f, hs, rfl, rfl⟩) fun u s1 ⟨v, H1, I1z, r1z, q1⟩ => ?_)
    obtain ⟨ev, eH⟩ := q1
    subst ev
    rw [eH] at I1z
    obtain rfl : u = Value.ref f := r1z
    have fa : ∀ {s2 : Shared} {H2 : Hp}, Inv X pins σ H2 s2 → H2 f = some (LamO f q params body scope c') → PySem.W.FnAt f s2.heap := fun I2z e => by
      obtain ⟨pmz, ctvz, hoz⟩ := lamO_at I2z.hok e
      exact ⟨_, _, _, _, hoz⟩
    refine PySem.W.callWith_F (first := []) (fa I1z hf) (thn (ha.run pos pins s1 σ H _ I1z ht) fun us s2 ⟨vs, H2, I2z, r, h1, h2, q⟩ => ⟨fa I2z h1, ?_⟩) he hpl
    show wpAny _ _ (call (Value.ref f) us) _ _ _
    refine wpAny_call (codeAny_mono ((FL f c').run X.A X.stack s2 H2 us vs Q E hr I2z.env0 h1 h2 r q) fun r s' hqz => ?_)
    cases r with
    | error e => exact hxz pins σ H2 s2 e s' I2z hqz
    | ok fl =>
      cases fl with
      | ret u => exact I2z.after hqz
      | next => exact False.elim hqz
      | brk => exact False.elim hqz
      | cont => exact False.elim hqz
end
end Rg
/-! a list comprehension whose element may raise -/
namespace Rg
open PySem PySem.Spec PyProof.Rows L2
open PySem.Sem (wp)
section
variable {M : Model} {A : Around} {env : Env} {s : Shared} {E : Value → Shared → Prop}
/-- behind the block; an exception goes on from the block's own env -/
def postX (M : Model) (A : Around) (E : Value → Shared → Prop) (Qq : Value → Shared → Prop) (acc : Value) (C : Addr) (ce : Env) (r : Result) (t : Shared) : Prop :=
  match r with
  | .ok _ => ∃ mm, t.heap.Ns C mm ∧ ∀ hh, Heap.SameBut C t.heap hh → Qq acc { t with heap := hh }
  | .error x => ∃ mm, t.heap.Ns C mm ∧ ∀ hh, Heap.SameBut C t.heap hh → wpAny M A (passOn "comprehension.variables-let-go" x ce : Sem Value) (fun _ _ => False) E { t with heap := hh }
theorem comp_freeX {e : Expr} {scope : Scope} {pos : Pos} {newAcc first : Sem Value} {g : Comprehension} {gs : List Comprehension} {cl : List (Str × Addr)} {Qq : Value → Shared → Prop}
    (hcl : clausesOf e = g :: gs) (hs : ∀ x, foldedSetIterable g.iter env x = pure x) (hclos : closureFor scope env = pure cl) (hkind : scope.kind = .function) (hnames : ∀ x ∈ scope.names, x.2 = .local → scope.names.lookup x.1 = some .local)
    (h : wpAny M A first (fun x s1 => wpAny M A (pyIter x) (fun it s2 => wpAny M A newAcc (fun acc s3 => wpAny M A (newFunctionEnv scope env.globals cl [] env.qual none .none (some env)) (fun cenv s4 =>
        codeAny M A (.compStart e 0 it acc { cenv with scope := relabel scope env }) (postX M A E Qq acc cenv.locals { cenv with scope := relabel scope env }) s4) E s3) E s2) E s1) E s) :
    wpAny M A (comprehension e scope env pos newAcc false first none) Qq E s := by
  unfold comprehension
  rw [hclos, hcl]
  refine wpAny_bind (wpAny_mono h (fun x s1 q1 => wpAny_bind (wpAny_standAt (wpAny_bind (wpAny_of_eq (hs x) (wpAny_bind (wpAny_holding (wpAny_mono q1 (fun it s2 q2 =>
    wpAny_standIf (wpAny_bind (wpAny_mono q2 (fun acc s3 q3 => wpAny_bind (wpAny_pure (wpAny_bind (wpAny_mono q3 (fun cenv s4 q4 => ?_) fun _ _ z => z)))) fun _ _ z => z)))
      fun _ _ z => z))))))) fun _ _ z => z)
  dsimp only
  have hv : ∀ x ∈ (scope.names.filter fun x => (x.2 == .local || x.2 == .cell) && x.1 != (".0" : Str)).reverse, x.2 = .local → Env.kindOf { cenv with scope := relabel scope env } x.1 = some .local := fun x hx hl =>
    lookup_relabel_local (hnames x (List.mem_filter.mp (List.mem_reverse.mp hx)).1 hl)
  refine wpAny_holding (wpAny_bind (wpAny_attempt (wpAny_holding (wpAny_run (codeAny_mono q4 fun r t hr => ?_)))))
  cases r with
  | ok f =>
    obtain ⟨mm, hn, hr⟩ := hr
    exact wpAny_bind (wpAny_holding (wpAny_comp_letGo (cenv := { cenv with scope := relabel scope env }) hkind _ t mm hv hn fun hh m2 _ sb => wpAny_pure (hr hh sb)))
  | error x =>
    obtain ⟨mm, hn, hr⟩ := hr
    exact wpAny_bind (wpAny_holding (wpAny_comp_letGo (cenv := { cenv with scope := relabel scope env }) hkind _ t mm hv hn fun hh m2 _ sb => wpAny_mono (hr hh sb) (fun _ _ f => f.elim) fun _ _ y => y))
end
theorem frames_at {base base2 h h2 : Heap} : ∀ {l : List Env}, h.FunFrames base l → (∀ L ∈ frs l, base2.get? L = none ∧ ∀ o, h.get? L = some o → ∃ sl, h2.get? L = some { o with slots := sl }) → h2.FunFrames base2 l
  | [], _, _ => trivial
  | env :: l, hh, hn => by
    obtain ⟨hk, ⟨L, o, hf, _, ho, hd⟩, hr⟩ := hh
    obtain ⟨n, k⟩ := hn L (List.mem_filterMap.mpr ⟨env, List.mem_cons_self, hf⟩)
    obtain ⟨sl, q⟩ := k o ho
    exact ⟨hk, ⟨L, _, hf, n, q, hd⟩, frames_at hr fun b hb => by
      obtain ⟨e2, he2, q2⟩ := List.mem_filterMap.mp hb
      exact hn b (List.mem_filterMap.mpr ⟨e2, List.mem_cons_of_mem _ he2, q2⟩)⟩
section
variable {X : Cx}
theorem lc_raise {pins pins9 : List (Addr × Obj)} {σ σ9 : L2.St} {H3 H9 : Hp} {s3 s9 t : Shared} {scope : Scope} {ce : Env} {fp : List Addr} {Ex : XK} {Qq : Value → Shared → Prop} {acc u : Value}
    (hst : X.stack = X.env :: X.outer) (hf : X.env.frame = some X.env.locals) (tk : Takes X fun cls d _ H => Ex cls d H) (I3 : Inv X pins σ H3 s3) (f3 : ∀ b ∈ fp, FpOk X pins H3 b ∧ b < s3.heap.objs.size)
    (I9 : Inv (X.blk s3 H3 scope ce fp) pins9 σ9 H9 s9) (cL : ce.locals = s3.heap.objs.size) (cF : ce.frame = X.env.frame) (c : L2.CX X.prog X.w X.stack H9 s9 Ex u t) :
    notedBy (model X.prog X.w) X.A ce (fun e t2 => postX (model X.prog X.w) X.A X.xe Qq acc s3.heap.objs.size ce (.error e) t2) u t := by
  obtain ⟨a, B, H2, cls, d, rfl, fl, hok, ub, na, os, ag, hE⟩ := c
  have hfr : X.A.frames = some (X.env :: X.outer) := by rw [I3.ok.frames, hst]
  have nCfr : s3.heap.objs.size ∉ frs X.stack := fun z => by
    rcases List.mem_cons.mp (I3.stkSub _ z) with e | e
    · have h1 := I3.lt
      rw [← e] at h1
      exact Nat.lt_irrefl _ h1
    · exact I3.nofs (Nat.le_refl _) e
  obtain ⟨mm, hn, _⟩ := I9.loc
  have hn : s9.heap.Ns ce.locals mm := hn
  rw [cL] at hn
  have fC : H9 s3.heap.objs.size = none := by
    have z : H9 ce.locals = none := I9.free
    rw [cL] at z
    exact z
  obtain ⟨oC, es, ep, hoC, rC⟩ := hn
  have hBC : B.get? s3.heap.objs.size = some oC := ub.keep _ oC hoC fC nCfr
  generalize hCC : s3.heap.objs.size = C at hoC fC nCfr hBC cL ⊢
  have ne : ∀ b, B.get? b = none → b ≠ C := fun b e z => by rw [z, hBC] at e; cases e
  have u9 : Un (frs X.stack) fp H3 H9 s3.heap s9.heap := I9.base
  have lo : ∀ b o, s3.heap.get? b = some o → b ≠ C := fun b o e z => by
    have := Heap.lt_size e
    rw [z, ← hCC] at this
    exact Nat.lt_irrefl _ this
  have en : noteFrame (.ref a) ce = noteFrame (.ref a) X.env := by
    unfold PySem.noteFrame PySem.frameOf
    rw [cF]
  show wpAny _ _ (noteFrame (.ref a) ce) _ _ t
  rw [en]
  have fl0 := fl
  rw [hst] at fl
  refine HandSPX.looks_onZ Zc.steady hfr hf fl fun h1 held up1 => ?_
  obtain ⟨hk, hen, hl, oe, vs, T, oT, ts, he, hz, hd, hv1, hnT, hTe, hT, hdT, ht3⟩ := held
  refine ⟨mm, ⟨oC, es, ep, hk _ _ hBC, rC⟩, fun h2 sb => ?_⟩
  obtain ⟨B2, b1, b2⟩ := restrict h2 fun b => (B.get? b).isSome
  have bB : ∀ b o, B2.get? b = some o → h2.get? b = some o ∧ (B.get? b).isSome = true := fun b o e => by
    cases q : (B.get? b).isSome with
    | false => rw [b2 b q] at e; cases e
    | true =>
      rw [b1 b q] at e
      exact ⟨e, rfl⟩
  have B2of : ∀ b o, b ≠ C → B.get? b = some o → B2.get? b = some o := fun b o nb e => by
    rw [b1 b (by simp [e]), sb.2 b nb]
    exact hk b o e
  have B2no : ∀ b, B.get? b = none → B2.get? b = none := fun b e => b2 b (by simp [e])
  have frN : ∀ L ∈ frs (X.env :: X.outer), B.get? L = none := fun L hL => (hl.mem hL).1
  have held2 : HandSPX.HeldZ B2 (X.env :: X.outer) a (Zc cls d) X.env.locals h2 :=
    ⟨fun b o e => (bB b o e).1, B2no a hen, frames_at hl (fun L hL => ⟨B2no L (frN L hL), fun o ho => ⟨o.slots, by rw [sb.2 L (ne L (frN L hL))]; exact ho⟩⟩), oe, vs, T, oT, ts,
      by rw [sb.2 a (ne a hen)]; exact he, hz, hd, hv1, B2no T hnT, hTe, by rw [sb.2 T (ne T hnT)]; exact hT, hdT, ht3⟩
  have hea2 : h2.get? a = some oe := by rw [sb.2 a (ne a hen)]; exact he
  unfold PySem.passOn
  refine wpAny_bind (wpAny_field hea2 hd hv1 ?_)
  rw [if_neg (by simp : ¬ ((Value.ref T == Value.none) = true))]
  have goOn : wpAny (model X.prog X.w) X.A (setFlight (.ref a) ce.frame) (fun _ s7 => wpAny (model X.prog X.w) X.A (throw (.ref a) : Sem Value) (fun _ _ => False) X.xe s7) X.xe { t with heap := h2 } := by
    rw [cF, hf]
    refine HandSPX.setFlight_onZ held2 fun h4 held4 up4 => wpAny_throw (tk _ _ ?_)
    obtain ⟨G, g1, g2⟩ := restrict h4 fun b => (B2.get? b).isSome || decide (b ∈ frs X.stack)
    have gB : ∀ b o, B2.get? b = some o → G.get? b = some o := fun b o e => by
      rw [g1 b (by simp [e])]
      exact held4.1 b o e
    have gF : ∀ b, b ∈ frs X.stack → G.get? b = h4.get? b := fun b hb => g1 b (by simp [hb])
    have og : ∀ b o, G.get? b = some o → h4.get? b = some o ∧ ((B2.get? b).isSome = true ∨ b ∈ frs X.stack) := fun b o e => by
      cases q : ((B2.get? b).isSome || decide (b ∈ frs X.stack)) with
      | false => cases ((g2 b q).symm.trans e)
      | true =>
        rw [g1 b q] at e
        exact And.intro e (by simpa [Bool.or_eq_true] using q)
    have frame : ∀ b ∈ frs X.stack, ∀ o, s9.heap.get? b = some o → ∃ sl, G.get? b = some { o with slots := sl } := fun b hb o e => by
      obtain ⟨sl, e1⟩ := ub.slot b o e hb
      obtain ⟨nB, o', e', nf⟩ := fl0.2.2.1.mem hb
      rw [e1] at e'
      cases e'
      obtain ⟨sl2, e2⟩ := up1 b _ e1 nf
      have e3 : h2.get? b = h1.get? b := sb.2 b (ne b nB)
      rw [e2] at e3
      obtain ⟨sl4, e4⟩ := up4 b _ e3 nf
      exact ⟨sl4, by rw [gF b hb]; exact e4⟩
    have un : Un (frs X.stack) fp H3 H2 s3.heap G := by
      refine ⟨fun b o e n hb hx => ?_, fun b o e n hb hx => ?_, fun b o e n hx => ?_, fun b o e hx => ?_, fun b xs e => ub.tups b xs (u9.tups b xs e), fun b o x e => ub.frzs b o x (u9.frzs b o x e), fun b ps e => ?_⟩
      · exact gB b o (B2of b o (lo b o e) (ub.keep b o (u9.keep b o e n hb hx) (u9.free b o e n hx) hb))
      · obtain ⟨sl, e1⟩ := u9.slot b o e n hb hx
        obtain ⟨sl2, e2⟩ := frame b hb _ e1
        exact ⟨sl2, e2⟩
      · obtain ⟨o', e1⟩ := u9.there b o e hx
        exact ub.free b o' e1 (u9.free b o e n hx)
      · obtain ⟨o', e1⟩ := u9.there b o e hx
        by_cases hb : b ∈ frs X.stack
        · obtain ⟨sl, e2⟩ := frame b hb _ e1
          exact ⟨_, e2⟩
        · obtain ⟨o2, e2⟩ := ub.there b o' e1 hb
          exact ⟨o2, gB b o2 (B2of b o2 (lo b o e) e2)⟩
      · obtain ⟨m1, e1⟩ := u9.tbls b ps e
        obtain ⟨mz, ez⟩ := ub.tbls b _ e1
        exact ⟨m1 ++ mz, by rw [ez, Array.append_assoc]⟩
    have fC2 : H2 C = none := ub.free C oC hoC fC
    have hokG : HOk X.prog X.w H2 G := fun b o q => (hok b o q).stay (fun c v hc r => gB c v (B2of c v (fun z => by
      rcases hc with hc | hc
      · rw [← hc, z, fC2] at q
        cases q
      · rw [z, fC2] at hc
        cases hc) r)) (fun _ r => r) fun _ _ r => r
    have J : Inv X pins σ H2 { s3 with heap := G, gens := t.gens, drawn := t.drawn, toks := t.toks } :=
      I3.call (ch := fp) un hokG ag fun b hb => ⟨(f3 b hb).1.2.2.2.1, (f3 b hb).1.2.1, (f3 b hb).1.2.2.2.2.1, (f3 b hb).1.2.2.2.2.2⟩
    have os3 : t.os = s3.os := os.trans I9.os
    refine ⟨a, B2, _, pins, σ, H2, cls, d, rfl, J, fun b o e hb => ?_, Heap.UpToSlots.of_keeps fun b o e => (og b o e).1, .inr (.inr (by rw [hst]; exact held4)), na, os3, ag, hE⟩
    obtain ⟨e', hh⟩ := og b o e
    rcases hh with hh | hh
    · obtain ⟨o', q⟩ := Option.isSome_iff_exists.mp hh
      have z := held4.1 b o' q
      rw [e'] at z
      cases z
      exact q
    · exact absurd hh hb
  first
    | exact (wpAny_bind (wpAny_pure (wpAny_bind goOn)))
    | exact wpAny_bind goOn
/-- [elt for target in iter if ..], elt may raise what Ex tells -/
theorem pe_lcX {Ex : XK} {elt tg iter : Expr} {ifs : List Expr} {scope : Scope} {own : List (Str × Nat)} {pos : Pos} {wi : TI} {g : TG} {tt : TT} {te : TE} (hst : X.stack = X.env :: X.outer) (hf : X.env.frame = some X.env.locals) (tk : Takes X fun cls d _ H => Ex cls d H)
    (hc : X.calm = true) (hN : X.N.Nodup) (hi : PI X tg iter wi) (ok : BlkOk X.N X.env.scope scope own) (hg : ∀ (s : Shared) (H : Hp) (C : Addr) (cl : List (Str × Addr)) (fp : List Addr), PG (X.blk s H scope (compEnvC scope cl C X.env) fp) tg g)
    (ht : ∀ (s : Shared) (H : Hp) (C : Addr) (cl : List (Str × Addr)) (fp : List Addr), PTs (X.blk s H scope (compEnvC scope cl C X.env) fp) ifs tt)
    (he : ∀ (s : Shared) (H : Hp) (C : Addr) (cl : List (Str × Addr)) (fp : List Addr) (E : Value → Shared → Prop), (∀ (pins : List (Addr × Obj)) (σ : L2.St) (H1 : Hp) (s1 : Shared) (u : Value) (s2 : Shared), Inv (X.blk s H scope (compEnvC scope cl C X.env) fp) pins σ H1 s1 → L2.CX X.prog X.w X.stack H1 s1 Ex u s2 → E u s2) →
      PE ((X.blk s H scope (compEnvC scope cl C X.env) fp).wish E) elt te) (hs : ∀ x, foldedSetIterable iter X.env x = pure x := by intro _; rfl) :
    PE X (.ListComp elt [⟨tg, iter, ifs, 0⟩] scope pos) (tLc wi g tt te (own.map (·.2))) := by -- as a value
  refine .mk (fun pins s σ H Q I h => ?_)
  rw [eval_ListComp]
  have hfq : ∀ y ∈ scope.names, y.2 = .free → ∃ c, X.env.cells.lookup y.1 = some c := fun y hy e => by
    exact (ok.free y hy e).elim (fun k => I.ok.has _ (.inl k)) fun k => I.ok.has _ (.inr k)
  refine comp_freeX rfl hs (closure_ok hfq) ok.kind (fun y hy e => by rw [ok.uniq y hy, e])
    (thn (hi.run pins s σ H _ I h) fun xw sa hxx => thn hxx fun itw sB hh2 => ?_)
  obtain ⟨it, fpp, tnn, Jt, Hb, e, Ib, Tt, stb, fb, q⟩ := hh2
  subst e
  refine wpAny_newObj_type (newEnv_comp (?_)) (by show 0 ≤ sizeLine; decide)
  generalize hDa : sB.heap.objs.size = D
  have hDnn : Hb D = none := Ib.hok.fresh (Nat.le_of_eq hDa)
  obtain ⟨Wm, ⟨m00, wa⟩, trn⟩ := q D hDnn
  generalize hs3a : ({ sB with heap := sB.heap.push { cls := .type "list", data := .seq ([] : List Value).toArray } } : Shared) = sc
  have Ic : Inv X pins σ (upd Hb D (.lst [])) sc := by
    rw [← hs3a]
    refine Ib.laid (t' := sB.toks) (fun b o e => Heap.get?_push_of_some _ e) (Nat.le_of_eq hDa) ⟨Nat.zero_le _, [], 0, .nil, ?_⟩
    rw [← hDa]
    exact (Heap.get?_push_size _ rfl)
  have hh3 : sc.heap = sB.heap.push { cls := .type "list", data := .seq ([] : List Value).toArray } := by rw [← hs3a]
  have szz : ∀ b ∈ fpp, b < sB.heap.objs.size := fun b hb => by
    obtain ⟨o, e, _⟩ := Tt.obj _ _ stb b hb
    exact Heap.lt_size e
  have fc : ∀ b ∈ fpp, FpOk X pins (upd Hb D (.lst [])) b ∧ b < sc.heap.objs.size := fun b hb => by
    have hlt := szz b hb
    refine ⟨⟨?_, (fb b hb).2⟩, by rw [hh3, Heap.size_push]; exact Nat.lt_succ_of_lt hlt⟩
    rw [upd_ne (by rw [← hDa]; exact Nat.ne_of_lt hlt)]
    exact (fb b hb).1
  have stc : tnn 0 sc.heap := Tt.keep _ _ _ stb fun b _ o e => by rw [hh3]; exact Heap.get?_push_of_some _ e
  have Id := block_start Ic ok hN fc
  have pgg := hg sc (upd Hb D (.lst [])) sc.heap.objs.size (cellsFrom (sc.heap.objs.size + 1) scope.names (cloFrom X.env.cells scope.names [])) fpp
  have ptt := ht sc (upd Hb D (.lst [])) sc.heap.objs.size (cellsFrom (sc.heap.objs.size + 1) scope.names (cloFrom X.env.cells scope.names [])) fpp
  have pee := he sc (upd Hb D (.lst [])) sc.heap.objs.size (cellsFrom (sc.heap.objs.size + 1) scope.names (cloFrom X.env.cells scope.names [])) fpp
  show codeAny _ _ (.compStart (.ListComp elt [⟨tg, iter, ifs, 0⟩] scope pos) 0 (.ref it) (.ref D) (compEnvC scope (cellsFrom (sc.heap.objs.size + 1) scope.names (cloFrom X.env.cells scope.names [])) sc.heap.objs.size X.env)) (postX (model X.prog X.w) X.A X.xe (EP X pins σ Q) (.ref D) sc.heap.objs.size (compEnvC scope (cellsFrom (sc.heap.objs.size + 1) scope.names (cloFrom X.env.cells scope.names [])) sc.heap.objs.size X.env)) { sc with heap := pushCells (sc.heap.push { cls := .type "dict", data := .dict #[] }) scope.names }
  have nfq : ∀ b ∈ fpp, (upd Hb D (.lst [])) b = none := fun b hb => (fc b hb).1.1
  generalize hcee : compEnvC scope (cellsFrom (sc.heap.objs.size + 1) scope.names (cloFrom X.env.cells scope.names [])) sc.heap.objs.size X.env = cen at Id pgg ptt pee ⊢
  have cLl : cen.locals = sc.heap.objs.size := by subst hcee; rfl
  have cFf : cen.frame = X.env.frame := by subst hcee; rfl
  generalize hHc : upd Hb D (.lst []) = Hc at Ic Id pgg ptt pee wa nfq fc
  generalize hs4a : ({ sc with heap := pushCells (sc.heap.push { cls := .type "dict", data := .dict #[] }) scope.names } : Shared) = sd at Id ⊢
  have std : tnn 0 sd.heap := Tt.keep _ _ _ stc fun b _ o e => by rw [← hs4a]; exact pushCells_keeps _ _ _ _ (Heap.get?_push_of_some _ e)
  have stt : ∀ {σ' : L2.St} {H' : Hp} {s' : Shared}, Inv (X.blk sc Hc scope cen fpp) [] σ' H' s' → (∀ b ∈ fpp, H' b = none) → ∀ b ∈ fpp, FpOk (X.blk sc Hc scope cen fpp) [] H' b := fun {σ' H' s'} I' hn b hb =>
    ⟨hn b hb, (I'.ok.exf b hb).1, (I'.ok.exfs b hb), .inl hb, fun x c e => (I'.ok.exf b hb).2 x c e, fun p hp => absurd (show p ∈ ([] : List (Addr × Obj)) ++ [] from hp) (by simp)⟩
  have lpp : codeAny (model X.prog X.w) X.A (.compLoop (.ListComp elt [⟨tg, iter, ifs, 0⟩] scope pos) 0 (.ref it) (.ref D) cen) (postX (model X.prog X.w) X.A X.xe (EP X pins σ Q) (.ref D) sc.heap.objs.size cen) sd := by
    refine compLoop_any (fun n s' => ∃ i H', Inv (X.blk sc Hc scope cen fpp) [] (wipe σ (own.map (·.2))) H' s' ∧ tnn i s'.heap ∧ (∀ b ∈ fpp, H' b = none) ∧ Wm i n H') ?_ m00 ⟨0, Hc, Id, std, nfq, wa⟩
    rintro n se ⟨i, He, Ie, ste, n5a, w5a⟩
    rcases trn i n He w5a with ⟨stpp, qq⟩ | ⟨goo, Nxx, hNxx, stp⟩
    · have tdd := Tt.done (X.blk sc Hc scope cen fpp) rfl rfl rfl hc i [] se _ He (fun _ _ => False) Ie (stt Ie n5a) ste stpp
      refine thnF tdd fun r sf ⟨hr, Ig⟩ => ?_
      subst hr
      have Ih : Inv X pins σ He sf := Ic.call' (ch := fpp) Ig.os Ig.base Ig.hok Ig.bare fun b hb => ⟨(fc b hb).1.2.2.2.1, (fc b hb).1.2.1, (fc b hb).1.2.2.2.2.1, (fc b hb).1.2.2.2.2.2⟩
      have nC : He sc.heap.objs.size = none := by
        have z : He cen.locals = none := Ig.free
        rw [cLl] at z
        exact z
      obtain ⟨m, hn, _⟩ := Ig.loc
      have hn : sf.heap.Ns cen.locals m := hn
      rw [cLl] at hn
      refine ⟨m, hn, fun hz sb => ?_⟩
      obtain ⟨z0, z1, z2, z3, z4, z5⟩ := Ic.fpOk (Nat.le_refl _) nC
      exact ⟨.ref D, He, Ih.turned (t' := sf.toks) (fun b o hb e => (sb.2 b hb).trans e) z0 z1 z3 z4 z5, rfl, qq⟩
    · have tii := Tt.item (X.blk sc Hc scope cen fpp) rfl rfl rfl hc i [] se _ He (fun _ _ => False) Ie (stt Ie n5a) ste goo
      refine thnF tii fun r sf ⟨u, hr, h6⟩ => ?_
      subst hr
      refine thnF h6 fun _ sg ⟨x, Hg, Ih, r7a, y7a, stg, n7a⟩ => ?_
      have Ihp := Ih.pinned (stt Ih n7a) (Tt.obj _ _ stg)
      refine thnF (pgg.run _ sg _ Hg x u _ Ihp r7a (stp x Hg y7a)) fun _ sh ⟨σh, Hh, Ij, hwx, q8a⟩ => ?_
      refine thnF (ptt.run _ sh σh Hh _ Ij q8a) fun b si ⟨Hi, Ik, q9a⟩ => ?_
      have fnn : ∀ {s' : Shared} {H' : Hp}, Inv (X.blk sc Hc scope cen fpp) ([] ++ pinsAt fpp sg.heap) σh H' s' → Nxx H' → ∃ m, m < n ∧ ∃ i H', Inv (X.blk sc Hc scope cen fpp) [] (wipe σ (own.map (·.2))) H' s' ∧ tnn i s'.heap ∧ (∀ b ∈ fpp, H' b = none) ∧ Wm i m H' := fun {s' H'} I' nxx => by
        obtain ⟨m', hm, w'⟩ := hNxx H' nxx
        have pinq : ∀ b ∈ fpp, ∀ o, sg.heap.get? b = some o → s'.heap.get? b = some o ∧ H' b = none := fun b hb o e =>
          let z := (I'.pin (b, o) (List.mem_append_right _ (List.mem_append_right _ (mem_pinsAt hb e))))
          ⟨z.1, z.2.1⟩
        have hll : (wipe σ (own.map (·.2))).length = σh.length := by rw [← hwx, wipe_length]
        refine ⟨m', hm, i + 1, H', (I'.unpinned (pins := [])).weak hll (fun j v e => ?_), Tt.keep _ _ _ stg fun b hb o e => (pinq b hb o e).1, fun b hb => ?_, w'⟩
        · rw [← hwx] at e
          exact (wipe_some e).1
        · obtain ⟨o, e, _⟩ := Tt.obj _ _ stg b hb
          exact (pinq b hb o e).2
      cases b with
      | false =>
        simp only [Bool.false_eq_true, if_false] at q9a ⊢
        exact fnn Ik q9a
      | true =>
        simp only [if_true] at q9a ⊢
        refine wpAny_mono ((pee (fun u t => ∃ pz σz Hz tz, Inv (X.blk sc Hc scope cen fpp) pz σz Hz tz ∧ L2.CX X.prog X.w X.stack Hz tz Ex u t) fun pz σz Hz tz u t J c => ⟨pz, σz, Hz, tz, J, c⟩).run _ si σh Hi _ (Ik.wish _) q9a) (fun z sj hq => ?_) fun u t ⟨pz, σz, Hz, tz, Jz, cz⟩ => lc_raise hst hf tk Ic fc Jz cLl cFf cz
        obtain ⟨yvv, Hj, Il', r10a, accx, hDz, hzz, nxx⟩ := hq
        have Il := Il'.unwish
        exact app_ok (X := X.blk sc Hc scope cen fpp) Il hDz hzz r10a fun sk Im => fnn Im nxx
  exact codeAny_compStart_list lpp (Tt.self X.A 0 _ _ _ std lpp)
end
end Rg
namespace Rg
open PySem PySem.Spec PyProof.Rows L2 LamX NdefX
/-! ### a lambda that holds cells of its maker's frame, kept as a value and called later in that frame -/
/-- the object at f is this lambda over the cells cl -/
def LamC (f : Addr) (q : Str) (ar : Arguments) (bo : Expr) (sco : Scope) (cl : List (Str × Addr)) (c : Addr) : HO := .ext fun h => ∃ (pmz ctvz : Value), h.get? f = some (PySem.W.kla_obj "<lambda>" q ar bo sco cl pmz c ctvz)
section
variable {X : Cx} {pins : List (Addr × Obj)} {σ : L2.St} {H : Hp} {s : Shared} {q : Str} {ar : Arguments} {bo : Expr} {sco : Scope} {cl : List (Str × Addr)}
theorem lamC_ne {f c : Addr} (ps : Array Value) : LamC f q ar bo sco cl c ≠ .tbl ps := fun z => by
  unfold LamC at z
  cases z
theorem lamC_at {P : Program} {w : World} {h : Heap} {f c : Addr} (hok : HOk P w H h) (e : H f = some (LamC f q ar bo sco cl c)) : ∃ (pmz ctvz : Value), h.get? f = some (PySem.W.kla_obj "<lambda>" q ar bo sco cl pmz c ctvz) := by
  obtain ⟨z, _, _⟩ := hok f _ e
  exact z
theorem inv_lamC {c : Addr} {t' : Nat} {pmz ctvz : Value} (Iz : Inv X pins σ H s) :
    Inv X pins σ (upd H s.heap.objs.size (LamC s.heap.objs.size q ar bo sco cl c)) { s with heap := s.heap.push (PySem.W.kla_obj "<lambda>" q ar bo sco cl pmz c ctvz), toks := t' } := by
  refine Iz.laid (a := s.heap.objs.size) (fun b u e => Heap.get?_push_of_some _ e) (Nat.le_refl _) ?_
  have e : (s.heap.push (PySem.W.kla_obj "<lambda>" q ar bo sco cl pmz c ctvz)).get? s.heap.objs.size = some (PySem.W.kla_obj "<lambda>" q ar bo sco cl pmz c ctvz) := Heap.get?_push_size _ rfl
  exact ⟨⟨pmz, ctvz, e⟩, ⟨_, e⟩, fun h1 h2 ⟨p, t, z⟩ st => ⟨p, t, st _ z⟩⟩
theorem lam_makeC {T : List (Addr × Str)} {c P : Addr} {pos : Pos} {E : Value → Shared → Prop} {Q : Value → Shared → Prop} (Iz : Inv X pins σ H s) (TB : TabB X.base X.mg c P) (hcode : X.env.code = .ref c)
    (hm : (P, X.env.qual ++ "<lambda>") ∈ T) (hu : ∀ p ∈ T, p.1 = P → p.2 = X.env.qual ++ "<lambda>") (hTz : Tabs T H) (hdef : defaultsOf ar X.env = ([], [])) (hfr : ∀ y ∈ sco.names, y.2 = .free → ∃ c, X.env.cells.lookup y.1 = some c)
    (h : ∀ (f c' : Addr) (H1 : Hp) (s' : Shared), Inv X pins σ H1 s' → ExtN H H1 → Tabs T H1 → H f = none → H1 f = some (LamC f (X.env.qual ++ "<lambda>") ar bo sco (cloFrom X.env.cells sco.names []) c') → H1 c' = some (CodeO c' (X.env.qual ++ "<lambda>")) → Q (.ref f) s') :
    wpAny (model X.prog X.w) X.A (eval (.Lambda ar bo sco pos) X.env) Q E s := by -- made
  obtain ⟨ps, hPz, ht, ha⟩ := hTz _ hm
  refine (PySem.W.kla_eval hdef ?_)
  have bPz : s.heap.BuiltinsAt X.mg P := TB.bm.keeps Iz.bk
  have hPz' : s.heap.get? P = some { cls := .none, data := .fields ps } := Iz.hok P _ hPz
  cases hc : (codeAmong pos ps.toList) with
  | none =>
    refine PySem.W.kla_makeFunction (mg := X.mg) (c := c) (P := P) (ps := ps) (closure_ok hfr) Iz.ok.glob (Iz.mod.glob.keeps Iz.bk) hcode (TB.code.keeps Iz.bk) hPz' ht hc TB.gP bPz fun c' ctvz h' tkz hxz hgez hltz hrecz htbz => ?_
    obtain ⟨c2, oc, vs, t, e2, hocz, hd, hvz⟩ := hrecz
    cases e2
    have nCz : H c' = none := Iz.hok.fresh hgez
    have I1z := inv_table (t' := tkz) (more := #[rawInt pos.line, rawInt pos.col, .ref c']) (h' := h') Iz hPz (fun b o hb e => hxz b o hb e) htbz hgez ⟨oc, vs, t, hocz, hd, hvz⟩
    have hEz : ExtN H (upd (upd H P (.tbl (ps ++ #[rawInt pos.line, rawInt pos.col, .ref c']))) c' (CodeO c' (X.env.qual ++ "<lambda>"))) := fun b o e n => by
      rw [upd_ne (ne_of_none e nCz), upd_ne (fun z => n ps (Option.some.inj (e.symm.trans (by rw [z]; exact hPz))))]
      exact e
    have eLz : (ps ++ #[rawInt pos.line, rawInt pos.col, .ref c']).toList = ps.toList ++ [rawInt pos.line, rawInt pos.col, .ref c'] := by simp
    have T1z : Tabs T (upd (upd H P (.tbl (ps ++ #[rawInt pos.line, rawInt pos.col, .ref c']))) c' (CodeO c' (X.env.qual ++ "<lambda>"))) := fun p hp => by
      by_cases hb : p.1 = P
      · rw [hu p hp hb, hb]
        refine ⟨_, by rw [upd_ne (ne_of_none hPz nCz), upd_same], by rw [eLz]; exact PySem.TriplesOk_snoc _ _ _ _ ht, fun p' cvz hcvz => ?_⟩
        rw [eLz] at hcvz
        rcases among_app _ ht hcvz with z | z
        · obtain ⟨c0z, e1, e2⟩ := ha p' cvz z
          exact ⟨c0z, e1, hEz _ _ e2 codeO_ne⟩
        · exact ⟨c', z, upd_same⟩
      · obtain ⟨psz', a1z, a2z, a3z⟩ := hTz p hp
        refine ⟨psz', by rw [upd_ne (ne_of_none a1z nCz), upd_ne hb]; exact a1z, a2z, fun p' cvz hcvz => ?_⟩
        obtain ⟨c0z, e1, e2⟩ := a3z p' cvz hcvz
        exact ⟨c0z, e1, hEz _ _ e2 codeO_ne⟩
    have nFz := I1z.hok.fresh (Nat.le_refl _)
    have I2z := inv_lamC (q := X.env.qual ++ "<lambda>") (ar := ar) (bo := bo) (sco := sco) (cl := cloFrom X.env.cells sco.names []) (c := c') (t' := tkz) (pmz := (X.mg "__name__").getD .none) (ctvz := ctvz) I1z
    refine h h'.objs.size c' _ _ I2z (fun b o e n => ?_) (T1z.ext fun b o e => ?_) (Iz.hok.fresh (Nat.le_trans hgez (Nat.le_of_lt hltz))) upd_same ?_
    · have e1 := hEz b o e n
      exact (upd_ne (ne_of_none e1 nFz)).trans e1
    · exact (upd_ne (ne_of_none e nFz)).trans e
    · exact (upd_ne (Nat.ne_of_lt hltz)).trans upd_same
  | some cvz =>
    obtain ⟨c', e, hcoz⟩ := ha pos cvz hc
    subst e
    refine PySem.W.kla_makeFunctionHit (mg := X.mg) (c := c) (P := P) (ps := ps) (closure_ok hfr) Iz.ok.glob (Iz.mod.glob.keeps Iz.bk) hcode (TB.code.keeps Iz.bk) hPz' ht hc bPz fun ctvz h' tkz hxz hsz => ?_
    have I1z : Inv X pins σ H { s with heap := h', toks := tkz } := Iz.kept hxz
    have nFz : H h'.objs.size = none := I1z.hok.fresh (Nat.le_refl _)
    have I2z := inv_lamC (q := X.env.qual ++ "<lambda>") (ar := ar) (bo := bo) (sco := sco) (cl := cloFrom X.env.cells sco.names []) (c := c') (t' := tkz) (pmz := (X.mg "__name__").getD .none) (ctvz := ctvz) I1z
    refine h h'.objs.size c' _ _ I2z (fun b o e n => ?_) (hTz.ext fun b o e => ?_) nFz upd_same ?_
    · exact (upd_ne (ne_of_none e nFz)).trans e
    · exact (upd_ne (ne_of_none e nFz)).trans e
    · exact (upd_ne (ne_of_none hcoz nFz)).trans hcoz
end
def tLamC (T : List (Addr × Str)) (q : Str) (ar : Arguments) (bo : Expr) (sco : Scope) (cl : List (Str × Addr)) : TE := fun _ H Q => Tabs T H ∧ ∀ (f c' : Addr) (H1 : Hp), ExtN H H1 → Tabs T H1 → H f = none → H1 f = some (LamC f q ar bo sco cl c') → H1 c' = some (CodeO c' q) → Q (.ref f) H1
theorem pe_lamcap {X : Cx} {T : List (Addr × Str)} {c P : Addr} {ar : Arguments} {bo : Expr} {sco : Scope} {lpos : Pos} (TB : TabB X.base X.mg c P) (hcode : X.env.code = .ref c) (hm : (P, X.env.qual ++ "<lambda>") ∈ T) (hu : ∀ p ∈ T, p.1 = P → p.2 = X.env.qual ++ "<lambda>")
    (hdef : defaultsOf ar X.env = ([], [])) (L : LamS X.env.scope sco) : PE X (.Lambda ar bo sco lpos) (tLamC T (X.env.qual ++ "<lambda>") ar bo sco (cloFrom X.env.cells sco.names [])) :=
  ⟨fun pins s σ H Q Iz h => lam_makeC Iz TB hcode hm hu h.1 hdef (L.has Iz.ok) fun f c' H1 s' I1z e t n l c => ⟨.ref f, H1, I1z, rfl, h.2 f c' H1 e t n l c⟩⟩
/-! ### it is called in a def that got it -/
/-- a lambda of no parameters with its reading -/
structure LamT where
  ar : Arguments
  bo : Expr
  sco : Scope
  t : XK → TE
structure LamR (X : Cx) (k : Nat) (l : LamT) : Prop where
  L : LamS X.env.scope l.sco
  bind : ∀ (q : Str) (cl : List (Str × Addr)) (pm cv ctv : Value), bindArgs (PySem.W.kla_fn "<lambda>" q l.ar l.bo l.sco cl pm cv ctv) ⟨[], []⟩ = pure []
  body : ∀ (A : Around) (outer : List Env) (s : Shared) (H : Hp) (E : XK) (f c' : Addr), Room k (A.deeper (lamEnv X l.sco s.heap.objs.size f c')) → PE (lamCx X A outer s H E l.sco f c') l.bo (l.t E)
section
variable {X : Cx} {pins : List (Addr × Obj)} {σ : L2.St} {H HZ : Hp} {s s1 : Shared}
theorem pe_actC {Cg : CXT} {Eg : XK} {Ng : List Str} {qg : Str} {sg : Scope} {g f c' : Addr} {cdg : Value} {l : LamT} {k i : Nat} {a : Str} {pn : List (Addr × Obj)} {xe : Value → Shared → Prop} {Wz : WX} {Ez : XK} {p1 p2 : Pos}
    (Iz : Inv X pins σ H s) (R : LamR X k l) (tk : Takes ((cxOf Cg X.prog X.w X.K X.mg X.base Ng qg sg g cdg X.A X.stack s H Eg).tr pn xe) Wz) (hWz : ∀ cls d σ' H', Ez cls d H' → Wz cls d σ' H') (hrz : Room (k + 1) (X.A.deeper (envOfC qg sg s.heap.objs.size g cdg)))
    (hNz : Ng[i]? = some a) (hvz : Vis sg a) (hd : (a == ("__debug__" : Str)) = false := by decide) (hcd : (a == ("__classdict__" : Str)) = false := by decide) :
    PE ((cxOf Cg X.prog X.w X.K X.mg X.base Ng qg sg g cdg X.A X.stack s H Eg).tr pn xe) (.Call (.Name a p1) [] [] p2)
      (fun σZ HZ Q => σZ[i]? = some (some (.ref f)) ∧ HZ c' = some (CodeO c' (X.env.qual ++ "<lambda>")) ∧ HZ f = some (LamC f (X.env.qual ++ "<lambda>") l.ar l.bo l.sco (cloFrom X.env.cells l.sco.names []) c') ∧ l.t Ez σ HZ Q) := by
  refine ⟨fun pinsY sY σY HY Qy IY h => ?_⟩
  obtain ⟨hs, hcz, hfz, htz⟩ := h
  refine wpAny_Call_Name_kw (thn ((pe_var (pos := p1) (i := i) hNz hvz hd hcd).run pinsY sY σY HY (fun v H1 => v = .ref f ∧ H1 = HY) IY ⟨.ref f, hs, rfl, rfl⟩) fun u s1 ⟨v, H1, I1z, r1z, qz⟩ => ?_)
  obtain ⟨ev, eH⟩ := qz
  subst ev
  rw [eH] at I1z
  obtain rfl : u = Value.ref f := r1z
  obtain ⟨pmz, ctvz, hoz⟩ := lamC_at I1z.hok hfz
  refine PySem.W.callWith_F0 ⟨_, _, _, _, hoz⟩ ?_
  have unz : Un (frs X.stack) [] H HY s.heap s1.heap := I1z.base
  obtain ⟨⟨oc, vs, t, hoc, hdc, hvc⟩, _, _⟩ := I1z.hok c' _ hcz
  have rcz : codeAny (model X.prog X.w) (X.A.deeper (envOfC qg sg s.heap.objs.size g cdg)) (.call (.ref f) ⟨[], []⟩) (CR (L2.CX X.prog X.w) (envOfC qg sg s.heap.objs.size g cdg :: X.stack) X.prog X.w HY s1 Qy Ez) s1 := by
    refine PySem.W.kla_callFunE hrz.depth hoz rfl R.L.co R.L.gen rfl ⟨c', oc, vs, t, rfl, hoc, hdc, hvc⟩ ?_
    rw [R.bind]
    refine wpAny_pure (wpAny_newFunctionEnv (fun y hy => (R.L.own y hy).2) (fun y hy => absurd hy (by simp)) (fun h₁z hnsz hsbz => ⟨I1z.nolimit.fresh _ hsbz, ?_⟩) R.L.kind)
    show codeAny _ _ (.expr l.bo (lamEnv X l.sco s1.heap.objs.size f c')) _ _
    have kpz : ∀ b o, s1.heap.get? b = some o → h₁z.get? b = some o := fun b o e => hsbz.extBut b o (Nat.ne_of_lt (Heap.lt_size e)) (Heap.get?_push_of_some _ e)
    have Jz : Inv (lamCx X (X.A.deeper (envOfC qg sg s.heap.objs.size g cdg)) (envOfC qg sg s.heap.objs.size g cdg :: X.stack) s1 HY Ez l.sco f c') [] σ HY { s1 with heap := h₁z, toks := s1.toks + ([] : List (Str × Value)).length } :=
      lam_start2 Iz R.L I1z.env0 hrz.hd unz hnsz kpz
    refine PySem.W.kla_codeExpr (wpAny_mono ((R.body _ _ s1 HY Ez f c' (hrz.deeper _)).run [] _ _ HY Qy Jz htz) (fun v s' hqz => ?_) fun e s' hqz => hqz)
    obtain ⟨w', H', J', rv, q⟩ := hqz
    exact ⟨_, _, J'.os, J'.bare, J'.base, J'.hok, rv, q⟩
  have hxz : Passes (L2.CX X.prog X.w) ((cxOf Cg X.prog X.w X.K X.mg X.base Ng qg sg g cdg X.A X.stack s H Eg).tr pn xe) Ez := passes_call tk hWz
  refine wpAny_call (codeAny_mono rcz fun r s' hqz => ?_)
  cases r with
  | error e => exact hxz pinsY σY HY s1 e s' I1z hqz
  | ok fl =>
    cases fl with
    | ret u => exact I1z.after hqz
    | next => exact False.elim hqz
    | brk => exact False.elim hqz
    | cont => exact False.elim hqz
/-- x(y), y holds one of the lambdas l j -/
def tLamL (TT : (XK → Hp → VK → Prop) → Hp → VK → Prop) (i n : Nat) (q : Str) (cells : List (Str × Addr)) (l : Nat → LamT) : TE := fun σ H Q => ∃ (j : Nat) (f c' : Addr), j < n ∧ σ[i]? = some (some (.ref f)) ∧ H f = some (LamC f q (l j).ar (l j).bo (l j).sco (cloFrom cells (l j).sco.names []) c') ∧ H c' = some (CodeO c' q) ∧
  TT (fun E H' Q' => H' f = some (LamC f q (l j).ar (l j).bo (l j).sco (cloFrom cells (l j).sco.names []) c') ∧ (l j).t E σ H' Q') H Q
theorem pe_lamlate {TT : (XK → Hp → VK → Prop) → Hp → VK → Prop} {x a y : Str} {g : Addr} {k i n : Nat} {pg : Arguments} {bg : List Stmt} {sg : Scope} {dV kV doc pm cdv ct oc : Value} {an od : Option Addr} {osl : Array (Option Value)} {Ng : List Str} {l : Nat → LamT} {p py pos : Pos}
    (hg : Gl X x) (hmz : X.mg x = some (.ref g)) (hkz : PySem.W.keepIn X.K (.ref g) = true)
    (lkz : X.K.lookup g = some ⟨oc, od, .func (PySem.W.fnOf x x pg bg sg dV kV doc pm an cdv ct), osl⟩) (hcz : PySem.W.codeIn X.K cdv x = true) (hbz : L2.Binds X.K (PySem.W.fnOf x x pg bg sg dV kV doc pm an cdv ct) [a] []) (Sg : FnScope Ng [a] sg) (hNg : Ng[0]? = some a) (hva : Vis sg a)
    (hG : GivesTo X Ng x sg g cdv bg a (X.env.qual ++ "<lambda>") TT) (hrz : Room (k + 2) X.A) (R : ∀ j, j < n → LamR X k (l j)) (hNy : X.N[i]? = some y) (hvy : Vis X.env.scope y)
    (hdb : (x == ("__debug__" : Str)) = false := by decide) (hd : (a == ("__debug__" : Str)) = false := by decide) (hcd : (a == ("__classdict__" : Str)) = false := by decide) (hdy : (y == ("__debug__" : Str)) = false := by decide) (hcy : (y == ("__classdict__" : Str)) = false := by decide) :
    PE X (.Call (.Name x p) [.Name y py] [] pos) (tLamL TT i n (X.env.qual ++ "<lambda>") X.env.cells l) := by
  refine ⟨fun pins s σ H Q Iz h => ?_⟩
  obtain ⟨j, f, c', hj, hs, hf, hco, hT⟩ := h
  refine wpAny_Call_Name_kw (ld_glob Iz hg hmz ?_ hdb)
  refine PySem.W.callWith_K (h₀ := X.base) Iz.ok.mod.kin hkz ?_ (by rfl) (by rfl)
  show wpAny _ _ (spliced ((false, eval (.Name y py) X.env) :: backTo pos (starEach [] X.env))) _ _ s
  refine Calls.spliced_cons (thn ((pe_var (pos := py) (i := i) hNy hvy hdy hcy).run pins s σ H (fun v H1 => v = .ref f ∧ H1 = H) Iz ⟨.ref f, hs, rfl, rfl⟩) fun u s1 ⟨v, H1, I1z, r1z, qz⟩ => ?_)
  obtain ⟨ev, eH⟩ := qz
  subst ev
  rw [eH] at I1z
  obtain rfl : u = Value.ref f := r1z
  refine Calls.spliced_nil ⟨I1z.kIn, ?_⟩
  have rcz : codeAny (model X.prog X.w) X.A (.call (.ref g) ⟨[.ref f], []⟩) (CR C8.CX0 X.stack X.prog X.w H s1 Q C8.E0) s1 := by
    refine run_ofS (N := Ng) (ps := [a]) (us := [.ref f]) (vs := [.ref f]) lkz hcz Sg hrz I1z.env0 (hbz s1 [.ref f] I1z.kIn rfl) (.cons rfl .nil) rfl fun hr' => ?_
    obtain ⟨t', ht', hq'⟩ := hG f c' s1 H Q (fun E H' Q' => H' f = some (LamC f (X.env.qual ++ "<lambda>") (l j).ar (l j).bo (l j).sco (cloFrom X.env.cells (l j).sco.names []) c') ∧ (l j).t E σ H' Q')
      (fun W pn xe E p1 p2 tk hW => pe_actC (i := 0) I1z (R j hj) tk hW hr' hNg hva hd hcd) hco hT
    exact ⟨t', ht'.nox, hq'⟩
  refine wpAny_call (codeAny_mono rcz fun r s2 hqz => ?_)
  cases r with
  | error e => exact (show False from hqz).elim
  | ok fl =>
    cases fl with
    | ret u => exact I1z.after hqz
    | next => exact False.elim hqz
    | brk => exact False.elim hqz
    | cont => exact False.elim hqz
end
end Rg
namespace Rg
open PySem PySem.Spec PyProof.Rows L2 LamX NdefX
section
variable {X : Cx}
/-- [elt for target in iter if ..], whose tests may look at how things stood in the frame when the list was begun -/
theorem pe_lcF {Ex : XK} {elt tg iter : Expr} {ifs : List Expr} {scope : Scope} {own : List (Str × Nat)} {pos : Pos} {wi : TI} {g : TG} {tt : TT} {te : TE} (hst : X.stack = X.env :: X.outer) (hf : X.env.frame = some X.env.locals) (tk : Takes X fun cls d _ H => Ex cls d H)
    (hc : X.calm = true) (hN : X.N.Nodup) (hi : PI X tg iter wi) (ok : BlkOk X.N X.env.scope scope own) (hg : ∀ (s : Shared) (H : Hp) (C : Addr) (cl : List (Str × Addr)) (fp : List Addr), PG (X.blk s H scope (compEnvC scope cl C X.env) fp) tg g)
    (ht : ∀ (pins0 : List (Addr × Obj)) (σ0 : L2.St) (s : Shared) (H : Hp) (C : Addr) (cl : List (Str × Addr)) (fp : List Addr), Inv X pins0 σ0 H s → (∀ b ∈ fp, FpOk X pins0 H b ∧ b < s.heap.objs.size) →
      PTs (X.blk s H scope (compEnvC scope cl C X.env) fp) ifs (fun σ1 H1 Q1 => wipe σ1 (own.map (·.2)) = wipe σ0 (own.map (·.2)) ∧ tt σ1 H1 Q1))
    (he : ∀ (s : Shared) (H : Hp) (C : Addr) (cl : List (Str × Addr)) (fp : List Addr) (E : Value → Shared → Prop), (∀ (pins : List (Addr × Obj)) (σ : L2.St) (H1 : Hp) (s1 : Shared) (u : Value) (s2 : Shared), Inv (X.blk s H scope (compEnvC scope cl C X.env) fp) pins σ H1 s1 → L2.CX X.prog X.w X.stack H1 s1 Ex u s2 → E u s2) →
      PE ((X.blk s H scope (compEnvC scope cl C X.env) fp).wish E) elt te) (hs : ∀ x, foldedSetIterable iter X.env x = pure x := by intro _; rfl) :
    PE X (.ListComp elt [⟨tg, iter, ifs, 0⟩] scope pos) (tLc wi g tt te (own.map (·.2))) := by -- as a value
  refine .mk (fun pins s σ H Q I h => ?_)
  rw [eval_ListComp]
  have hfq : ∀ y ∈ scope.names, y.2 = .free → ∃ c, X.env.cells.lookup y.1 = some c := fun y hy e => by
    exact (ok.free y hy e).elim (fun k => I.ok.has _ (.inl k)) fun k => I.ok.has _ (.inr k)
  refine comp_freeX rfl hs (closure_ok hfq) ok.kind (fun y hy e => by rw [ok.uniq y hy, e])
    (thn (hi.run pins s σ H _ I h) fun xw sa hxx => thn hxx fun itw sB hh2 => ?_)
  obtain ⟨it, fpp, tnn, Jt, Hb, e, Ib, Tt, stb, fb, q⟩ := hh2
  subst e
  refine wpAny_newObj_type (newEnv_comp (?_)) (by show 0 ≤ sizeLine; decide)
  generalize hDa : sB.heap.objs.size = D
  have hDnn : Hb D = none := Ib.hok.fresh (Nat.le_of_eq hDa)
  obtain ⟨Wm, ⟨m00, wa⟩, trn⟩ := q D hDnn
  generalize hs3a : ({ sB with heap := sB.heap.push { cls := .type "list", data := .seq ([] : List Value).toArray } } : Shared) = sc
  have Ic : Inv X pins σ (upd Hb D (.lst [])) sc := by
    rw [← hs3a]
    refine Ib.laid (t' := sB.toks) (fun b o e => Heap.get?_push_of_some _ e) (Nat.le_of_eq hDa) ⟨Nat.zero_le _, [], 0, .nil, ?_⟩
    rw [← hDa]
    exact (Heap.get?_push_size _ rfl)
  have hh3 : sc.heap = sB.heap.push { cls := .type "list", data := .seq ([] : List Value).toArray } := by rw [← hs3a]
  have szz : ∀ b ∈ fpp, b < sB.heap.objs.size := fun b hb => by
    obtain ⟨o, e, _⟩ := Tt.obj _ _ stb b hb
    exact Heap.lt_size e
  have fc : ∀ b ∈ fpp, FpOk X pins (upd Hb D (.lst [])) b ∧ b < sc.heap.objs.size := fun b hb => by
    have hlt := szz b hb
    refine ⟨⟨?_, (fb b hb).2⟩, by rw [hh3, Heap.size_push]; exact Nat.lt_succ_of_lt hlt⟩
    rw [upd_ne (by rw [← hDa]; exact Nat.ne_of_lt hlt)]
    exact (fb b hb).1
  have stc : tnn 0 sc.heap := Tt.keep _ _ _ stb fun b _ o e => by rw [hh3]; exact Heap.get?_push_of_some _ e
  have Id := block_start Ic ok hN fc
  have pgg := hg sc (upd Hb D (.lst [])) sc.heap.objs.size (cellsFrom (sc.heap.objs.size + 1) scope.names (cloFrom X.env.cells scope.names [])) fpp
  have ptt := ht pins σ sc (upd Hb D (.lst [])) sc.heap.objs.size (cellsFrom (sc.heap.objs.size + 1) scope.names (cloFrom X.env.cells scope.names [])) fpp Ic fc
  have pee := he sc (upd Hb D (.lst [])) sc.heap.objs.size (cellsFrom (sc.heap.objs.size + 1) scope.names (cloFrom X.env.cells scope.names [])) fpp
  show codeAny _ _ (.compStart (.ListComp elt [⟨tg, iter, ifs, 0⟩] scope pos) 0 (.ref it) (.ref D) (compEnvC scope (cellsFrom (sc.heap.objs.size + 1) scope.names (cloFrom X.env.cells scope.names [])) sc.heap.objs.size X.env)) (postX (model X.prog X.w) X.A X.xe (EP X pins σ Q) (.ref D) sc.heap.objs.size (compEnvC scope (cellsFrom (sc.heap.objs.size + 1) scope.names (cloFrom X.env.cells scope.names [])) sc.heap.objs.size X.env)) { sc with heap := pushCells (sc.heap.push { cls := .type "dict", data := .dict #[] }) scope.names }
  have nfq : ∀ b ∈ fpp, (upd Hb D (.lst [])) b = none := fun b hb => (fc b hb).1.1
  generalize hcee : compEnvC scope (cellsFrom (sc.heap.objs.size + 1) scope.names (cloFrom X.env.cells scope.names [])) sc.heap.objs.size X.env = cen at Id pgg ptt pee ⊢
  have cLl : cen.locals = sc.heap.objs.size := by subst hcee; rfl
  have cFf : cen.frame = X.env.frame := by subst hcee; rfl
  generalize hHc : upd Hb D (.lst []) = Hc at Ic Id pgg ptt pee wa nfq fc
  generalize hs4a : ({ sc with heap := pushCells (sc.heap.push { cls := .type "dict", data := .dict #[] }) scope.names } : Shared) = sd at Id ⊢
  have std : tnn 0 sd.heap := Tt.keep _ _ _ stc fun b _ o e => by rw [← hs4a]; exact pushCells_keeps _ _ _ _ (Heap.get?_push_of_some _ e)
  have stt : ∀ {σ' : L2.St} {H' : Hp} {s' : Shared}, Inv (X.blk sc Hc scope cen fpp) [] σ' H' s' → (∀ b ∈ fpp, H' b = none) → ∀ b ∈ fpp, FpOk (X.blk sc Hc scope cen fpp) [] H' b := fun {σ' H' s'} I' hn b hb =>
    ⟨hn b hb, (I'.ok.exf b hb).1, (I'.ok.exfs b hb), .inl hb, fun x c e => (I'.ok.exf b hb).2 x c e, fun p hp => absurd (show p ∈ ([] : List (Addr × Obj)) ++ [] from hp) (by simp)⟩
  have lpp : codeAny (model X.prog X.w) X.A (.compLoop (.ListComp elt [⟨tg, iter, ifs, 0⟩] scope pos) 0 (.ref it) (.ref D) cen) (postX (model X.prog X.w) X.A X.xe (EP X pins σ Q) (.ref D) sc.heap.objs.size cen) sd := by
    refine compLoop_any (fun n s' => ∃ i H', Inv (X.blk sc Hc scope cen fpp) [] (wipe σ (own.map (·.2))) H' s' ∧ tnn i s'.heap ∧ (∀ b ∈ fpp, H' b = none) ∧ Wm i n H') ?_ m00 ⟨0, Hc, Id, std, nfq, wa⟩
    rintro n se ⟨i, He, Ie, ste, n5a, w5a⟩
    rcases trn i n He w5a with ⟨stpp, qq⟩ | ⟨goo, Nxx, hNxx, stp⟩
    · have tdd := Tt.done (X.blk sc Hc scope cen fpp) rfl rfl rfl hc i [] se _ He (fun _ _ => False) Ie (stt Ie n5a) ste stpp
      refine thnF tdd fun r sf ⟨hr, Ig⟩ => ?_
      subst hr
      have Ih : Inv X pins σ He sf := Ic.call' (ch := fpp) Ig.os Ig.base Ig.hok Ig.bare fun b hb => ⟨(fc b hb).1.2.2.2.1, (fc b hb).1.2.1, (fc b hb).1.2.2.2.2.1, (fc b hb).1.2.2.2.2.2⟩
      have nC : He sc.heap.objs.size = none := by
        have z : He cen.locals = none := Ig.free
        rw [cLl] at z
        exact z
      obtain ⟨m, hn, _⟩ := Ig.loc
      have hn : sf.heap.Ns cen.locals m := hn
      rw [cLl] at hn
      refine ⟨m, hn, fun hz sb => ?_⟩
      obtain ⟨z0, z1, z2, z3, z4, z5⟩ := Ic.fpOk (Nat.le_refl _) nC
      exact ⟨.ref D, He, Ih.turned (t' := sf.toks) (fun b o hb e => (sb.2 b hb).trans e) z0 z1 z3 z4 z5, rfl, qq⟩
    · have tii := Tt.item (X.blk sc Hc scope cen fpp) rfl rfl rfl hc i [] se _ He (fun _ _ => False) Ie (stt Ie n5a) ste goo
      refine thnF tii fun r sf ⟨u, hr, h6⟩ => ?_
      subst hr
      refine thnF h6 fun _ sg ⟨x, Hg, Ih, r7a, y7a, stg, n7a⟩ => ?_
      have Ihp := Ih.pinned (stt Ih n7a) (Tt.obj _ _ stg)
      refine thnF (pgg.run _ sg _ Hg x u _ Ihp r7a (stp x Hg y7a)) fun _ sh ⟨σh, Hh, Ij, hwx, q8a⟩ => ?_
      refine thnF (ptt.run _ sh σh Hh _ Ij ⟨hwx, q8a⟩) fun b si ⟨Hi, Ik, q9a⟩ => ?_
      have fnn : ∀ {s' : Shared} {H' : Hp}, Inv (X.blk sc Hc scope cen fpp) ([] ++ pinsAt fpp sg.heap) σh H' s' → Nxx H' → ∃ m, m < n ∧ ∃ i H', Inv (X.blk sc Hc scope cen fpp) [] (wipe σ (own.map (·.2))) H' s' ∧ tnn i s'.heap ∧ (∀ b ∈ fpp, H' b = none) ∧ Wm i m H' := fun {s' H'} I' nxx => by
        obtain ⟨m', hm, w'⟩ := hNxx H' nxx
        have pinq : ∀ b ∈ fpp, ∀ o, sg.heap.get? b = some o → s'.heap.get? b = some o ∧ H' b = none := fun b hb o e =>
          let z := (I'.pin (b, o) (List.mem_append_right _ (List.mem_append_right _ (mem_pinsAt hb e))))
          ⟨z.1, z.2.1⟩
        have hll : (wipe σ (own.map (·.2))).length = σh.length := by rw [← hwx, wipe_length]
        refine ⟨m', hm, i + 1, H', (I'.unpinned (pins := [])).weak hll (fun j v e => ?_), Tt.keep _ _ _ stg fun b hb o e => (pinq b hb o e).1, fun b hb => ?_, w'⟩
        · rw [← hwx] at e
          exact (wipe_some e).1
        · obtain ⟨o, e, _⟩ := Tt.obj _ _ stg b hb
          exact (pinq b hb o e).2
      cases b with
      | false =>
        simp only [Bool.false_eq_true, if_false] at q9a ⊢
        exact fnn Ik q9a
      | true =>
        simp only [if_true] at q9a ⊢
        refine wpAny_mono ((pee (fun u t => ∃ pz σz Hz tz, Inv (X.blk sc Hc scope cen fpp) pz σz Hz tz ∧ L2.CX X.prog X.w X.stack Hz tz Ex u t) fun pz σz Hz tz u t J c => ⟨pz, σz, Hz, tz, J, c⟩).run _ si σh Hi _ (Ik.wish _) q9a) (fun z sj hq => ?_) fun u t ⟨pz, σz, Hz, tz, Jz, cz⟩ => lc_raise hst hf tk Ic fc Jz cLl cFf cz
        obtain ⟨yvv, Hj, Il', r10a, accx, hDz, hzz, nxx⟩ := hq
        have Il := Il'.unwish
        exact app_ok (X := X.blk sc Hc scope cen fpp) Il hDz hzz r10a fun sk Im => fnn Im nxx
  exact codeAny_compStart_list lpp (Tt.self X.A 0 _ _ _ std lpp)
/-- x(y) in a comprehension's test, y holds one of the lambdas l j of the frame around it -/
def tLamB (vs : List Nat) (TT : (XK → Hp → VK → Prop) → Hp → VK → Prop) (i n : Nat) (q : Str) (cells : List (Str × Addr)) (l : Nat → LamT) : TE := fun σ H Q => ∃ (j : Nat) (f c' : Addr), j < n ∧ σ[i]? = some (some (.ref f)) ∧ H f = some (LamC f q (l j).ar (l j).bo (l j).sco (cloFrom cells (l j).sco.names []) c') ∧ H c' = some (CodeO c' q) ∧
  TT (fun E H' Q' => H' f = some (LamC f q (l j).ar (l j).bo (l j).sco (cloFrom cells (l j).sco.names []) c') ∧ (l j).t E (wipe σ vs) H' Q') H Q
theorem pe_lamB {TT : (XK → Hp → VK → Prop) → Hp → VK → Prop} {x a y : Str} {g : Addr} {k i n : Nat} {pg : Arguments} {bg : List Stmt} {sg : Scope} {dV kV doc pm cdv ct oc : Value} {an od : Option Addr} {osl : Array (Option Value)} {Ng : List Str} {l : Nat → LamT} {p py pos : Pos}
    {pins0 : List (Addr × Obj)} {σ0 : L2.St} {s0 : Shared} {H0 : Hp} {scope : Scope} {C : Addr} {cl : List (Str × Addr)} {fp : List Addr} {vs : List Nat} (I0 : Inv X pins0 σ0 H0 s0) (f0 : ∀ b ∈ fp, FpOk X pins0 H0 b ∧ b < s0.heap.objs.size)
    (hg : Gl (X.blk s0 H0 scope (compEnvC scope cl C X.env) fp) x) (hmz : X.mg x = some (.ref g)) (hkz : PySem.W.keepIn X.K (.ref g) = true)
    (lkz : X.K.lookup g = some ⟨oc, od, .func (PySem.W.fnOf x x pg bg sg dV kV doc pm an cdv ct), osl⟩) (hcz : PySem.W.codeIn X.K cdv x = true) (hbz : L2.Binds X.K (PySem.W.fnOf x x pg bg sg dV kV doc pm an cdv ct) [a] []) (Sg : FnScope Ng [a] sg) (hNg : Ng[0]? = some a) (hva : Vis sg a)
    (hG : GivesTo X Ng x sg g cdv bg a (X.env.qual ++ "<lambda>") TT) (hrz : Room (k + 2) X.A) (R : ∀ j, j < n → LamR X k (l j)) (hNy : X.N[i]? = some y) (hvy : Vis (X.blk s0 H0 scope (compEnvC scope cl C X.env) fp).env.scope y)
    (hdb : (x == ("__debug__" : Str)) = false := by decide) (hd : (a == ("__debug__" : Str)) = false := by decide) (hcd : (a == ("__classdict__" : Str)) = false := by decide) (hdy : (y == ("__debug__" : Str)) = false := by decide) (hcy : (y == ("__classdict__" : Str)) = false := by decide) :
    PE (X.blk s0 H0 scope (compEnvC scope cl C X.env) fp) (.Call (.Name x p) [.Name y py] [] pos) (fun σ1 H1 Q1 => wipe σ1 vs = wipe σ0 vs ∧ tLamB vs TT i n (X.env.qual ++ "<lambda>") X.env.cells l σ1 H1 Q1) := by
  refine ⟨fun pins s σ H Q Iz h => ?_⟩
  obtain ⟨hw, j, f, c', hj, hs, hf, hco, hT⟩ := h
  refine wpAny_Call_Name_kw (ld_glob Iz hg hmz ?_ hdb)
  refine PySem.W.callWith_K (h₀ := X.base) Iz.ok.mod.kin hkz ?_ (by rfl) (by rfl)
  show wpAny _ _ (spliced ((false, eval (.Name y py) (compEnvC scope cl C X.env)) :: backTo pos (starEach [] (compEnvC scope cl C X.env)))) _ _ s
  refine Calls.spliced_cons (thn ((pe_var (X := X.blk s0 H0 scope (compEnvC scope cl C X.env) fp) (pos := py) (i := i) hNy hvy hdy hcy).run pins s σ H (fun v H1 => v = .ref f ∧ H1 = H) Iz ⟨.ref f, hs, rfl, rfl⟩) fun u s1 ⟨v, H1, I1z, r1z, qz⟩ => ?_)
  obtain ⟨ev, eH⟩ := qz
  subst ev
  rw [eH] at I1z
  obtain rfl : u = Value.ref f := r1z
  refine Calls.spliced_nil ⟨I1z.kIn, ?_⟩
  have Iw : Inv X pins0 σ0 H s1 := I0.call' (ch := fp) I1z.os I1z.base I1z.hok I1z.bare fun b hb => ⟨(f0 b hb).1.2.2.2.1, (f0 b hb).1.2.1, (f0 b hb).1.2.2.2.2.1, (f0 b hb).1.2.2.2.2.2⟩
  have Iv : Inv X pins0 (wipe σ vs) H s1 := by
    rw [hw]
    exact Iw.weak (by rw [wipe_length]) fun j v e => (wipe_some e).1
  have rcz : codeAny (model X.prog X.w) X.A (.call (.ref g) ⟨[.ref f], []⟩) (CR C8.CX0 X.stack X.prog X.w H s1 Q C8.E0) s1 := by
    refine run_ofS (N := Ng) (ps := [a]) (us := [.ref f]) (vs := [.ref f]) lkz hcz Sg hrz Iv.env0 (hbz s1 [.ref f] Iv.kIn rfl) (.cons rfl .nil) rfl fun hr' => ?_
    obtain ⟨t', ht', hq'⟩ := hG f c' s1 H Q (fun E H' Q' => H' f = some (LamC f (X.env.qual ++ "<lambda>") (l j).ar (l j).bo (l j).sco (cloFrom X.env.cells (l j).sco.names []) c') ∧ (l j).t E (wipe σ vs) H' Q')
      (fun W pn xe E p1 p2 tk hW => pe_actC (i := 0) Iv (R j hj) tk hW hr' hNg hva hd hcd) hco hT
    exact ⟨t', ht'.nox, hq'⟩
  refine wpAny_call (codeAny_mono rcz fun r s2 hqz => ?_)
  cases r with
  | error e => exact (show False from hqz).elim
  | ok fl =>
    cases fl with
    | ret u => exact I1z.after hqz
    | next => exact False.elim hqz
    | brk => exact False.elim hqz
    | cont => exact False.elim hqz
end
end Rg
namespace K
open PySem L2 Rg
open Evl (pss_cut)
/-- each from 1 to m -/
def Bd (m : Int) (ls : List Int) : Prop := ∀ x ∈ ls, 1 ≤ x ∧ x ≤ m
theorem Bd.snoc {m x : Int} {ls : List Int} (h : Bd m ls) (h1 : 1 ≤ x) (h2 : x ≤ m) : Bd m (ls ++ [x]) := fun y hy => by
  rcases List.mem_append.mp hy with z | z
  · exact h y z
  · rw [List.mem_singleton.mp z]
    exact ⟨h1, h2⟩
theorem Bd.le {m k : Int} {ls : List Int} (h : Bd m ls) (hk : m ≤ k) : Bd k ls := fun x hx => ⟨(h x hx).1, by have := (h x hx).2; omega⟩
theorem Bd.set {m x : Int} {ls : List Int} {i : Nat} (h : Bd m ls) (h1 : 1 ≤ x) (h2 : x ≤ m) : Bd m (ls.set i x) := fun y hy => by
  rcases List.mem_or_eq_of_mem_set hy with z | z
  · exact h y z
  · rw [z]; exact ⟨h1, h2⟩
theorem Bd.sum {m : Int} : ∀ {ls : List Int}, Bd m ls → (ls.length : Int) ≤ ls.sum ∧ ls.sum ≤ m * ls.length
  | [], _ => by simp
  | x :: ls, h => by
    have ih := Bd.sum (m := m) (ls := ls) fun y hy => h y (List.mem_cons_of_mem _ hy)
    have hx := h x (List.mem_cons_self ..)
    rw [List.sum_cons, List.length_cons]
    have e : m * ((ls.length + 1 : Nat) : Int) = m * ls.length + m := by push_cast; rw [Int.mul_add, Int.mul_one]
    rw [e]
    push_cast
    omega
theorem ixN_at {n : Nat} {r : Int} (h0 : 0 ≤ r) (h1 : r < n) : ixN n r = some r.toNat := by
  unfold ixN
  rw [if_pos h0, if_pos h1]
theorem int_get {ls : List Int} {i : Nat} (h : i < ls.length) : (ls.map V.int)[i]? = some (V.int ls[i]) := by
  rw [List.getElem?_map, List.getElem?_eq_getElem h]; rfl
theorem set_map (ls : List Int) (i : Nat) (x : Int) : (ls.map V.int).set i (V.int x) = (ls.set i x).map V.int := by
  rw [List.map_set]
theorem erase_sum : ∀ {ls : List Int} {i : Nat} (h : i < ls.length), (ls.eraseIdx i).sum = ls.sum - ls[i]
  | x :: ls, 0, h => by simp [List.sum_cons]; omega
  | x :: ls, i + 1, h => by
    have h' : i < ls.length := by simpa using h
    have ih := erase_sum h'
    rw [List.eraseIdx_cons_succ, List.sum_cons, List.sum_cons, ih, List.getElem_cons_succ]
    omega
theorem abs_sum {m : Int} (hm : 0 ≤ m) : ∀ {ls : List Int}, (∀ x ∈ ls, -m ≤ x ∧ x ≤ m) → -(m * ls.length) ≤ ls.sum ∧ ls.sum ≤ m * ls.length
  | [], _ => by simp
  | x :: ls, h => by
    have ih := abs_sum hm (ls := ls) fun y hy => h y (List.mem_cons_of_mem _ hy)
    have hx := h x (List.mem_cons_self ..)
    have e : m * ((ls.length + 1 : Nat) : Int) = m * ls.length + m := by push_cast; rw [Int.mul_add, Int.mul_one]
    rw [List.sum_cons, List.length_cons, e]
    omega
section
variable {P : Program} {w : World} {K : PySem.W.Frag} {mg : Str → Option Value} {base : Heap}
def spLengths (K : PySem.W.Frag) : Sp := fun vs H Q _ => ∃ (p : Addr) (e : Addr × List Int) (m n : Nat), vs = [.ref p, .int (m : Nat)] ∧ 3 ≤ m ∧ m ≤ 8 ∧ n < 800000 ∧ PenAt K H p e n ∧
  ∀ (l : Addr) (ls : List Int) (H' : Hp), ls.length = m → Bd 1000000 ls → H l = none → But p H H' → H' l = some (.lst (ls.map V.int)) → PenAt K H' p e (n + 12) → Q (.ref l) H'
abbrev nLengths : List Str := ["_law_bench_here", "_law_many", "_law_way", "_law_most", "_law_found", "_law_at", "_law_bar"]
theorem scLengths : FnScope nLengths ["_law_bench_here", "_law_many"] (defScope sLwLengths) := ⟨rfl, rfl, rfl, by decide +kernel, rfl, by decide +kernel, by decide +kernel⟩
theorem put_bd {ls : List Int} {m i : Nat} {most r : Int} (h : ls.length = m) (h3 : 3 ≤ m) (h8 : m ≤ 8) (bd : Bd most ls) (mm : most * m ≤ 1000000) (hi : i < ls.length) (r0 : 0 ≤ r) (r3 : r < 3) : ls.sum - ls[i] + r - 1 ≤ 1000000 := by
  have e := Bd.sum (m := most) (ls := ls.eraseIdx i) fun y hy => bd y (List.mem_of_mem_eraseIdx hy)
  rw [erase_sum hi, List.length_eraseIdx_of_lt hi, h] at e
  have b := bd _ (List.getElem_mem hi)
  have c : most * ((m - 1 : Nat) : Int) = most * m - most := by
    rw [show ((m - 1 : Nat) : Int) = (m : Int) - 1 by omega, Int.mul_sub, Int.mul_one]
  omega
theorem ok_lengths {f fD : Addr} {fd fdD : FuncData} (F : Fun K "_law_lengths" "_law_lengths" sLwLengths f fd) (T : Bi mg) (D : DrawAt P w K mg base fD fdD) : FnOk P w K mg base CX0 3 f fd ["_law_bench_here", "_law_many"] (spLengths K) := by
  refine F.ok scLengths (fun vs H Q E h => ?_) (fun cdv A outer s H vs Q E hr h => ?_)
  · obtain ⟨p, e, m, n, rfl, _⟩ := h
    rfl
  · have nd := scLengths.nd
    refine ⟨_, pss_cons (ps_set (i := 2) nd rfl (Or.inl rfl) (pe_call D.ok hr rfl D.g D.kp D.b .nil pass0 (pa_cons (pv 0) (pa_cons pe_int pa_nil))))
      (pss_cut (ps_set (i := 3) nd rfl (Or.inr rfl) (pe_ifExp (pt_cmpR op_lt (pv 2) pe_int (nomark _)) pe_int (pe_ifExp (pt_cmpR op_lt (pv 2) pe_int (nomark _)) pe_int (pe_op op_fdiv (pe_op op_pow pe_int pe_int) (pv 1)))))
      (pss_cons (ps_setLc (i := 4) (own := [("_law_bar", 6)]) (g := gName 6) rfl nd rfl rfl (sw_true rfl rfl rfl (by decide +kernel)) (pi_range1 (by rfl) T.range (pa_cons (pv 1) pa_nil)) (blkOk_by (N := nLengths) (sc := defScope sLwLengths) (by decide +kernel))
        (fun _ _ _ _ _ => pg_name (i := 6) nd rfl (Or.inl rfl)) (fun _ _ _ _ _ => pts_nil) (fun _ _ _ _ _ => pe_op op_add pe_int (pe_call D.ok hr rfl D.g D.kp D.b .nil pass0 (pa_cons (pv 0) (pa_cons (pv 3) pa_nil)))))
      (pss_cut (ps_if (pt_cmpR op_eq (pe_call D.ok hr rfl D.g D.kp D.b .nil pass0 (pa_cons (pv 0) (pa_cons pe_int pa_nil))) pe_int (nomark _))
        (pss_cons (ps_set (i := 5) nd rfl (Or.inl rfl) (pe_call D.ok hr rfl D.g D.kp D.b .nil pass0 (pa_cons (pv 0) (pa_cons (pv 1) pa_nil))))
        (pss_cons (ps_asg (pe_op op_sub (pe_op op_add (pe_op op_sub (pe_callB (cr_sum rfl) (by rfl) T.sum (by decide +kernel) (pa_cons (pv 4) pa_nil)) (pe_ix ix_list (pv 4) (pv 5) (fun _ _ => rfl))) (pe_call D.ok hr rfl D.g D.kp D.b .nil pass0 (pa_cons (pv 0) (pa_cons pe_int pa_nil)))) pe_int) (pg_sub (pv 4) (pv 5) set_list))
        (pss_one (ps_asg (pe_callB (call_max2 rfl) (by rfl) T.max (by decide +kernel) (pa_cons pe_int (pa_cons (pe_ix ix_list (pv 4) (pv 5) (fun _ _ => rfl)) pa_nil))) (pg_sub (pv 4) (pv 5) set_list))))) pss_nil)
      (pss_one (ps_ret (pv 4)))))), ?_⟩
    obtain ⟨p, e, m, n, rfl, m3, m8, hn, pen, k⟩ := h
    refine ⟨_, rfl, p, e, 8, n, rfl, by decide, by decide, by omega, pen, fun r1 H1 r1a r1b b1 pen1 => ?_⟩
    refine ⟨fun σ' H' => ∃ most : Int, 1 ≤ most ∧ most * m ≤ 1000000 ∧ σ' = [some (.ref p), some (.int (m : Nat)), some (.int r1), some (.int most), none, none, none] ∧ H' = H1, ?_, ?_⟩
    · refine ⟨_, rfl, _, _, rfl, rfl, _, rfl, ?_⟩
      refine ite2 (fun c => ⟨9, by decide, by omega, rfl, rfl⟩) (fun c => ?_)
      refine ⟨_, rfl, _, _, rfl, rfl, _, rfl, ?_⟩
      refine ite2 (fun c => ⟨3, by decide, by omega, rfl, rfl⟩) (fun c => ?_)
      have pw : CPow 10 6 := ⟨by decide, by decide, by decide⟩
      refine ⟨_, _, rfl, rfl, pw, _, rfl, _, _, rfl, rfl, ⟨by omega, by omega⟩, ?_⟩
      refine ⟨_, ?_, ?_, rfl, rfl⟩
      · show 1 ≤ (10 : Int) ^ (6 : Int).toNat / (m : Int)
        exact Int.le_ediv_of_mul_le (by omega) (by show 1 * (m : Int) ≤ 1000000; omega)
      · exact Int.ediv_mul_le _ (by omega)
    rintro σ' H' ⟨most, mo1, mom, rfl, rfl⟩
    have mo6 : most ≤ 1000000 := by
      have := Int.mul_le_mul_of_nonneg_left (show (1 : Int) ≤ m by omega) (show 0 ≤ most by omega)
      omega
    refine ⟨_, rfl, _, rfl, by omega, by omega, fun D0 hD => ?_⟩
    have hDp : D0 ≠ p := pen1.ne hD
    have hD0 : H D0 = none := b1.free hDp hD
    refine lc_range (lo := 0) (n := ((m : Nat) : Int).toNat) (fun i H' => ∃ ls : List Int, ls.length = i ∧ Bd most ls ∧ H' D0 = some (.lst (ls.map V.int)) ∧ But p H H' ∧ PenAt K H' p e (n + 1 + i)) ⟨[], rfl, fun x hx => (by cases hx), upd_same, b1.mut hD0, pen.mut pen1 b1 hD0⟩ ?_ ?_
    · rintro i H' hi ⟨ls, ll, bd, hd, b, pen'⟩
      rw [Int.toNat_natCast] at hi
      refine ⟨rfl, _, rfl, _, rfl, p, e, most, n + 1 + i, rfl, mo1, mo6, by omega, pen', fun r H4 q0 q1 b4 pen4 => ⟨_, _, rfl, rfl, _, b4 D0 _ hDp hd, szl (by rw [List.length_map]; omega), ls ++ [1 + r], by rw [List.length_append, ll]; rfl, bd.snoc (by omega) (by omega), ?_, (b.trans b4).mut hD0, pen.mut pen4 (b.trans b4) hD0⟩⟩
      rw [List.map_append]
      exact upd_same
    rintro H2 ⟨ls, ll, bd, hd, b2, pen2⟩
    rw [Int.toNat_natCast] at ll pen2
    refine ⟨fun σ' H' => ∃ (z : Option V) (ms : List Int), ms.length = m ∧ Bd 1000000 ms ∧ σ' = [some (.ref p), some (.int (m : Nat)), some (.int r1), some (.int most), some (.ref D0), z, none] ∧ But p H H' ∧ H' D0 = some (.lst (ms.map V.int)) ∧ PenAt K H' p e (n + 12), ?_, ?_⟩
    · refine ⟨_, rfl, p, e, 7, _, rfl, by decide, by decide, by omega, pen2, fun r2 H3 r2a r2b b3 pen3 => ⟨rfl, _, rfl, ?_⟩⟩
      have hd3 := b3 _ _ hDp hd
      have b23 := b2.trans b3
      rw [dec_int]
      refine ite2 (fun c => ?_) (fun c => ?_)
      · refine ⟨_, rfl, _, rfl, p, e, (m : Nat), _, rfl, by omega, by omega, by omega, pen3, fun r3 H4 r3a r3b b4 pen4 => ?_⟩
        have hd4 := b4 _ _ hDp hd3
        have il : r3.toNat < ls.length := by omega
        have gx : atI (ls.map V.int) r3 = some (.int ls[r3.toNat]) := at_of (j := r3.toNat) (by omega) (int_get il)
        refine ⟨_, rfl, D0, ls, rfl, SqL.of hd4, _, rfl, _, rfl, D0, _, _, _, rfl, rfl, SqL.of hd4, gx, _, _, rfl, rfl, _, rfl, p, e, 3, _, rfl, by decide, by decide, by omega, pen4, fun r4 H5 r4a r4b b5 pen5 => ⟨_, _, rfl, rfl, _, _, rfl, rfl, ?_⟩⟩
        have hd5 := b5 _ _ hDp hd4
        have up := put_bd ll m3 m8 bd mom il r4a r4b
        have pen5b := pen5
        obtain ⟨y, hy⟩ : ∃ y : Int, y = ls.sum - ls[r3.toNat] + r4 - 1 := ⟨_, rfl⟩
        refine ⟨_, rfl, _, rfl, D0, _, _, r3.toNat, rfl, rfl, hd5, ixN_at r3a (by rw [List.length_map]; omega), ?_⟩
        have b25 := (b23.trans b4).trans b5
        have h6 : upd H5 D0 (.lst ((ls.map V.int).set r3.toNat (.int (ls.sum - ls[r3.toNat] + r4 - 1)))) D0 = some (.lst ((ls.set r3.toNat y).map V.int)) := by
          rw [upd_same, set_map, hy]
        have b6 : But p H (upd H5 D0 (.lst ((ls.map V.int).set r3.toNat (.int (ls.sum - ls[r3.toNat] + r4 - 1))))) := b25.mut hD0
        have pen6 := pen.mut pen5 b25 hD0 (o := .lst ((ls.map V.int).set r3.toNat (.int (ls.sum - ls[r3.toNat] + r4 - 1))))
        generalize upd H5 D0 (.lst ((ls.map V.int).set r3.toNat (.int (ls.sum - ls[r3.toNat] + r4 - 1)))) = H6 at h6 b6 pen6 ⊢
        have il6 : r3.toNat < (ls.set r3.toNat y).length := by rw [List.length_set]; exact il
        have gx6 : atI ((ls.set r3.toNat y).map V.int) r3 = some (.int y) := at_of (j := r3.toNat) (by omega) (by rw [int_get il6, List.getElem_set_self])
        refine ⟨_, rfl, _, rfl, D0, _, _, _, rfl, rfl, SqL.of h6, gx6, _, _, rfl, _, rfl, _, rfl, D0, _, _, r3.toNat, rfl, rfl, h6, ixN_at r3a (by rw [List.length_map, List.length_set]; omega), ?_⟩
        have mx1 : (1 : Int) ≤ (if y > 1 then y else 1) := by split <;> omega
        have mx2 : (if y > 1 then y else 1) ≤ 1000000 := by split <;> omega
        refine ⟨some (.int r3), (ls.set r3.toNat y).set r3.toNat (if y > 1 then y else 1), by rw [List.length_set, List.length_set]; exact ll, ?_, rfl, b6.mut hD0, by rw [upd_same, set_map], (pen.mut pen6 b6 hD0).mono (by omega)⟩
        rw [List.set_set]
        exact (bd.le mo6).set mx1 mx2
      · exact ⟨none, ls, ll, bd.le mo6, rfl, b23, hd3, pen3.mono (by omega)⟩
    rintro σ' H3 ⟨z, ms, ml, bdm, rfl, b3, h3, pen3⟩
    exact ⟨_, rfl, k D0 ms H3 ml bdm hD0 b3 h3 pen3⟩
end
end K
namespace K
open PySem L2 Rg
open Evl (pss_cut)
/-! ### what a ring tells -/
def sumsOf (ls : List Int) : List Int := ls.foldl (fun s l => s ++ s.map (· + l)) [0]
def levelB (ls : List Int) : Bool := (sumsOf ls).any fun o => decide (2 * o = ls.sum)
def closesB (ls : List Int) : Bool := ls.all fun x => decide (2 * x ≤ ls.sum)
def lsum (ls ns : List Int) : Int := (ns.map fun b => ls.getD b.toNat 0).sum
def sortV (ls ns : List Int) : Str := if 2 * lsum ls ns = ls.sum then "level" else if 2 * lsum ls ns < ls.sum then "short" else "long"
theorem sums_take {ls : List Int} {i : Nat} {z : Int} (h : ls[i]? = some z) : sumsOf (ls.take (i + 1)) = sumsOf (ls.take i) ++ (sumsOf (ls.take i)).map (· + z) := by
  unfold sumsOf
  rw [← take_snoc h, List.foldl_append]
  rfl
theorem sums_len : ∀ (ls : List Int) (i : Nat), i ≤ ls.length → (sumsOf (ls.take i)).length = 2 ^ i
  | ls, 0, _ => rfl
  | ls, i + 1, h => by
    have hz : ls[i]? = some ls[i] := List.getElem?_eq_getElem h
    rw [sums_take hz, List.length_append, List.length_map, sums_len ls i (by omega), Nat.pow_succ]
    omega
theorem closes_max {ls : List Int} {m : Int} (hm : m ∈ ls) (hx : ∀ y ∈ ls, y ≤ m) : decide (2 * m ≤ ls.sum) = closesB ls := by
  unfold closesB
  by_cases c : 2 * m ≤ ls.sum
  · rw [decide_eq_true c]
    refine (List.all_eq_true.mpr fun y hy => decide_eq_true ?_).symm
    have := hx y hy
    omega
  · rw [decide_eq_false c]
    cases e : ls.all fun x => decide (2 * x ≤ ls.sum) with
    | false => rfl
    | true => exact absurd (of_decide_eq_true (List.all_eq_true.mp e m hm)) c
theorem dec_int (a b : Int) : decide (V.int a = V.int b) = decide (a = b) := by
  by_cases e : a = b
  · rw [e]; simp
  · rw [decide_eq_false e, decide_eq_false fun z => e (V.int.inj z)]
theorem all_any (l : List Int) (g : Int → Bool) : (l.map g).any id = l.any g := by
  rw [List.any_map]; rfl
/-- the attributes of a ring, in the order in which __init__ stores them -/
def rf (t : Addr) (ls : List Int) : List (Str × V) := putF "is_clear" (.bl (!levelB ls)) (putF "closes" (.bl (closesB ls)) (putF "total" (.int ls.sum) (putF "lengths" (.ref t) [])))
theorem n1 : ¬ (("lengths" : Str) = "total") := by decide +kernel
theorem n2 : ¬ (("lengths" : Str) = "closes") := by decide +kernel
theorem n3 : ¬ (("lengths" : Str) = "is_clear") := by decide +kernel
theorem n4 : ¬ (("total" : Str) = "closes") := by decide +kernel
theorem n5 : ¬ (("total" : Str) = "is_clear") := by decide +kernel
theorem n6 : ¬ (("closes" : Str) = "is_clear") := by decide +kernel
theorem rf_lengths (t : Addr) (ls : List Int) : (rf t ls).lookup ("lengths" : Str) = some (.ref t) := by
  unfold rf
  rw [lookup_putF, if_neg n3, lookup_putF, if_neg n2, lookup_putF, if_neg n1, lookup_putF, if_pos rfl]
theorem rf_total (t : Addr) (ls : List Int) : (rf t ls).lookup ("total" : Str) = some (.int ls.sum) := by
  unfold rf
  rw [lookup_putF, if_neg n5, lookup_putF, if_neg n4, lookup_putF, if_pos rfl]
theorem rf_closes (t : Addr) (ls : List Int) : (rf t ls).lookup ("closes" : Str) = some (.bl (closesB ls)) := by
  unfold rf
  rw [lookup_putF, if_neg n6, lookup_putF, if_pos rfl]
theorem rf_clear (t : Addr) (ls : List Int) : (rf t ls).lookup ("is_clear" : Str) = some (.bl (!levelB ls)) := by
  unfold rf
  rw [lookup_putF, if_pos rfl]
theorem rf_no (t : Addr) (ls : List Int) {m : Str} (h1 : ¬ m = "lengths") (h2 : ¬ m = "total") (h3 : ¬ m = "closes") (h4 : ¬ m = "is_clear") : (rf t ls).lookup m = none := by
  unfold rf
  rw [lookup_putF, if_neg h4, lookup_putF, if_neg h3, lookup_putF, if_neg h2, lookup_putF, if_neg h1]
  rfl
section
variable {P : Program} {w : World} {K : PySem.W.Frag} {mg : Str → Option Value} {base : Heap}
def RingAt (K : PySem.W.Frag) (C : Addr) (H : Hp) (r : Addr) (ls : List Int) : Prop := ∃ dx t, H r = some (.ins C dx (rf t ls)) ∧ SqT K H t (ls.map V.int) ∧ ∃ o : Obj, H t = some (.frz o (.tup (ls.map V.int))) ∧ o.dict = none
theorem RingAt.same {C : Addr} {H H' : Hp} {r : Addr} {ls : List Int} (h : RingAt K C H r ls) (s : Same H H') : RingAt K C H' r ls := by
  obtain ⟨dx, t, h1, h2, o, h3, h4⟩ := h
  exact ⟨dx, t, s _ _ h1, s.tup h2, o, s _ _ h3, h4⟩
/-- the class Ring as the top has made it -/
structure RingC (K : PySem.W.Frag) (mg : Str → Option Value) (C : Addr) : Prop where
  cl : Cls K C
  nL : NoAttr K C "lengths"
  nT : NoAttr K C "total"
  nC : NoAttr K C "closes"
  nI : NoAttr K C "is_clear"
  g : mg "Ring" = some (.ref C)
  ha : PySem.W.findIn K (.ref C) "__class__" = some (some (.builtin "object.__class__"))
  hn : PySem.W.specialIn K (.builtin "object.__class__") "__get__" = some (some (.builtin "getset_descriptor.__get__"))
  ht : PySem.W.takesIn K (.builtin "object.__class__") = some true
  hm : PySem.W.mroIn K C (.type "object") = some true
structure Nm (mg : Str → Option Value) : Prop where
  mostL : ∃ t, mg "MOST_LENGTH" = some (.int 1000000 t)
  leastB : ∃ t, mg "LEAST_BARS" = some (.int 3 t)
  mostB : ∃ t, mg "MOST_BARS" = some (.int 8 t)
/-! ### are_lengths -/
def spAreL (K : PySem.W.Frag) : Sp := fun vs H Q _ => ∃ (a : Addr) (ls : List Int), vs = [.ref a] ∧ Knd K H (.ref a) "list" ∧ SqL K H a (ls.map V.int) ∧ ls.length ≤ 1000 ∧ Bd 1000000 ls ∧ ∀ H', Same H H' → Q (.bl true) H'
abbrev nAreL : List Str := ["value", "one"]
theorem scAreL : FnScope nAreL ["value"] (defScope sAreLengths) := ⟨rfl, rfl, rfl, by decide +kernel, rfl, by decide +kernel, by decide +kernel⟩
theorem all_true {bs : List Bool} (h : ∀ b ∈ bs, b = true) : bs.all id = true := List.all_eq_true.mpr fun b hb => h b hb
theorem ok_areL {f fW fL : Addr} {fd fdW fdL : FuncData} (F : Fun K "are_lengths" "are_lengths" sAreLengths f fd) (T : Bi mg) (N : Nm mg) (W : DefAt P w K mg base CX0 2 "is_within" ["value", "least", "most"] spWithin fW fdW) (L : DefAt P w K mg base CX0 1 "is_list" ["value"] (spIsList K) fL fdL) : FnOk P w K mg base CX0 3 f fd ["value"] (spAreL K) := by
  refine F.ok scAreL (fun vs H Q E h => ?_) (fun cdv A outer s H vs Q E hr h => ?_)
  · obtain ⟨a, ls, rfl, _⟩ := h
    rfl
  · obtain ⟨tM, hM⟩ := N.mostL
    refine ⟨_, pss_one (ps_ret (pe_and (pe_call L.ok (hr.mono (by decide)) rfl L.g L.kp L.b .nil pass0 (pa_cons (pv 0) pa_nil)) (pe_one (pe_callB (cr_all rfl) (by rfl) T.all (by decide +kernel) (pa_cons (pe_lc (own := [("one", 1)]) (g := gName 1) (tt := tYes) rfl scAreL.nd (pi_list (pv 0))
      (blkOk_by (N := nAreL) (sc := defScope sAreLengths) (by decide +kernel)) (fun _ _ _ _ _ => pg_name (i := 1) scAreL.nd rfl (Or.inl rfl)) (fun _ _ _ _ _ => pts_nil) (fun _ _ _ _ _ => pe_call W.ok hr rfl W.g W.kp W.b .nil pass0 (pa_cons (pv 1) (pa_cons pe_int (pa_cons (pe_glob (v := .int 1000000) rfl hM ⟨_, rfl⟩) pa_nil))))) pa_nil))))), ?_⟩
    obtain ⟨a, ls, rfl, hk, hs, hl, hb, q⟩ := h
    refine ⟨_, rfl, _, "list", rfl, hk, fun H1 s1 => ⟨_, rfl, iteDT (.inl rfl) ?_⟩⟩
    refine ⟨_, rfl, a, rfl, ⟨_, s1.seq hs⟩, fun D hD => ?_⟩
    have hD0 := s1.free hD
    refine lc_list (K := K) (a := a) (xs := ls.map V.int) (fun i H' => Same H H' ∧ ∃ bs : List Bool, (∀ b ∈ bs, b = true) ∧ bs.length ≤ i ∧ H' D = some (.lst (bs.map V.bl))) ⟨s1.new hD, [], (fun b hb => nomatch hb), Nat.le_refl _, upd_same⟩ (fun i H' _ p => p.1.seq hs) ?_ ?_
    · rintro i x H' hi ⟨s2, bs, h1, h2, h3⟩
      obtain ⟨z, hz, rfl⟩ := int_at hi
      have hil : i < ls.length := (List.getElem?_eq_some_iff.mp hz).1
      have hzb := hb z (List.mem_of_getElem? hz)
      refine ⟨rfl, _, rfl, z, 1, 1000000, rfl, _, h3, (by rw [List.length_map]; exact sm (by omega)), s2.mut hD0, bs ++ [true], fun b hb => ?_, by rw [List.length_append, List.length_singleton]; omega, ?_⟩
      · rcases List.mem_append.mp hb with m | m
        · exact h1 b m
        · exact List.mem_singleton.mp m
      · rw [upd_same, List.map_append, decide_eq_true hzb.1, decide_eq_true hzb.2]
        rfl
    · rintro H' ⟨s2, bs, h1, h2, h3⟩
      refine ⟨D, bs, rfl, SqL.of h3, ?_⟩
      rw [all_true h1]
      exact q H' s2
/-! ### has_level -/
def spHasL (K : PySem.W.Frag) : Sp := fun vs H Q _ => ∃ (t : Addr) (ls : List Int), vs = [.ref t] ∧ SqT K H t (ls.map V.int) ∧ ls.length ≤ 8 ∧ ∀ H', Same H H' → Q (.bl (levelB ls)) H'
abbrev nHasL : List Str := ["lengths", "sums", "length", "one"]
theorem scHasL : FnScope nHasL ["lengths"] (defScope sHasLevel) := ⟨rfl, rfl, rfl, by decide +kernel, rfl, by decide +kernel, by decide +kernel⟩
theorem ok_hasL {f : Addr} {fd : FuncData} (F : Fun K "has_level" "has_level" sHasLevel f fd) (T : Bi mg) : FnOk P w K mg base CX0 2 f fd ["lengths"] (spHasL K) := by
  refine F.ok scHasL (fun vs H Q E h => ?_) (fun cdv A outer s H vs Q E hr h => ?_)
  · obtain ⟨a, ls, rfl, _⟩ := h
    rfl
  · have nd := scHasL.nd
    refine ⟨_, pss_cons (ps_set (i := 1) nd rfl (Or.inl rfl) (pe_lst (pa_cons pe_int pa_nil)))
      (pss_cons (ps_for PassesOwn.never rfl (pi_tup (pv 0)) (pg_name (i := 2) nd rfl (Or.inr rfl)) (pss_one (ps_set (i := 1) nd rfl (Or.inl rfl) (pe_op op_cat (pv 1) (pe_lc (own := [("one", 3)]) (g := gName 3) (tt := tYes) rfl nd (pi_list (pv 1))
        (blkOk_by (N := nHasL) (sc := defScope sHasLevel) (by decide +kernel)) (fun _ _ _ _ _ => pg_name (i := 3) nd rfl (Or.inl rfl)) (fun _ _ _ _ _ => pts_nil) (fun _ _ _ _ _ => pe_op op_add (pv 3) (pv 2)))))))
      (pss_one (ps_ret (pe_callB (cr_any rfl) (by rfl) T.any (by decide +kernel) (pa_cons (pe_lc (own := [("one", 3)]) (g := gName 3) (tt := tYes) rfl nd (pi_list (pv 1))
        (blkOk_by (N := nHasL) (sc := defScope sHasLevel) (by decide +kernel)) (fun _ _ _ _ _ => pg_name (i := 3) nd rfl (Or.inl rfl)) (fun _ _ _ _ _ => pts_nil) (fun _ _ _ _ _ => pe_cmpR op_eq (pe_op op_mul pe_int (pv 3)) (pe_callB (r := rSumT K) (cr_sumT (by rfl)) (by rfl) T.sum (by decide +kernel) (pa_cons (pv 0) pa_nil)) (nomark _))) pa_nil))))), ?_⟩
    obtain ⟨t, ls, rfl, hs, hl, q⟩ := h
    refine ⟨(by show 1 ≤ sizeLine; decide), fun l0 hl0 => ?_⟩
    have s0 : Same H (upd H l0 (.lst [.int 0])) := (Same.refl H).new hl0
    have pw : ∀ i, i ≤ ls.length → (sumsOf (ls.take i)).length ≤ 256 := fun i hi => by
      rw [sums_len ls i hi]
      exact Nat.pow_le_pow_right (by decide) (show i ≤ 8 by omega)
    refine ⟨_, rfl, t, rfl, ⟨_, s0.tup hs⟩, for_tup (K := K) (a := t) (xs := ls.map V.int) (fun i σ H' => ∃ (l : Addr) (z : Option V), σ = [some (.ref t), some (.ref l), z, none] ∧ Same H H' ∧ H' l = some (.lst ((sumsOf (ls.take i)).map V.int)))
      ⟨l0, none, rfl, s0, upd_same⟩ (fun i σ H' _ ⟨_, _, _, s, _⟩ => s.tup hs) ?_ ?_⟩
    · rintro i x σ H' hi ⟨l, z, rfl, s1, h1⟩
      obtain ⟨z, hz, rfl⟩ := int_at hi
      have hil : i < ls.length := (List.getElem?_eq_some_iff.mp hz).1
      have p1 := pw i (by omega)
      refine ⟨_, rfl, _, rfl, l, rfl, ⟨_, SqL.of h1⟩, fun D hD => ?_⟩
      have hlD : l ≠ D := ne_of_none h1 hD
      refine lc_list (K := K) (a := l) (xs := (sumsOf (ls.take i)).map V.int) (fun j H2 => Same H' H2 ∧ H2 D = some (.lst ((((sumsOf (ls.take i)).take j).map (· + z)).map V.int))) ⟨(Same.refl H').new hD, upd_same⟩ (fun j H2 _ p => p.1.seq (SqL.of h1)) ?_ ?_
      · rintro j y H2 hj ⟨s2, h2⟩
        obtain ⟨o, ho, rfl⟩ := int_at hj
        refine ⟨rfl, _, rfl, _, rfl, _, _, rfl, rfl, _, h2, (by rw [List.length_map, List.length_map, List.length_take]; exact sm (by omega)), s2.mut hD, ?_⟩
        rw [upd_same, ← take_snoc ho, List.map_append, List.map_append]
        rfl
      · rintro H2 ⟨s2, h2⟩
        rw [List.length_map, List.take_length] at h2
        refine ⟨l, D, _, _, rfl, rfl, s2 _ _ h1, h2, (by rw [List.length_map, List.length_map, List.length_map]; exact Nat.le_of_lt (sm (by omega))), fun p hp => ⟨p, _, rfl, (s1.trans s2).new hp, ?_⟩⟩
        rw [upd_same, sums_take hz, List.map_append]
    · rintro σ H' ⟨l, z, rfl, s1, h1⟩
      rw [List.length_map, List.take_length] at h1
      have p1 := pw ls.length (Nat.le_refl _)
      rw [List.take_length] at p1
      refine ⟨_, rfl, l, rfl, ⟨_, SqL.of h1⟩, fun D hD => ?_⟩
      refine lc_list (K := K) (a := l) (xs := (sumsOf ls).map V.int) (fun j H2 => Same H' H2 ∧ H2 D = some (.lst ((((sumsOf ls).take j).map fun o => decide (2 * o = ls.sum)).map V.bl))) ⟨(Same.refl H').new hD, upd_same⟩ (fun j H2 _ p => p.1.seq (SqL.of h1)) ?_ ?_
      · rintro j y H2 hj ⟨s2, h2⟩
        obtain ⟨o, ho, rfl⟩ := int_at hj
        refine ⟨rfl, _, rfl, _, _, rfl, rfl, .inl ⟨by decide, by decide⟩, _, rfl, t, ls, rfl, (s1.trans s2).tup hs, rfl, _, h2, (by rw [List.length_map, List.length_map, List.length_take]; exact sm (by omega)), s2.mut hD, ?_⟩
        rw [upd_same, ← take_snoc ho, List.map_append, List.map_append, dec_int]
        rfl
      · rintro H2 ⟨s2, h2⟩
        rw [List.length_map, List.take_length] at h2
        refine ⟨D, _, rfl, SqL.of h2, ?_⟩
        rw [all_any]
        exact q H2 (s1.trans s2)
/-! ### Ring.__init__ -/
def spRI (K : PySem.W.Frag) (C : Addr) : Sp := fun vs H Q _ => ∃ (r l dx : Addr) (ls : List Int), vs = [.ref r, .ref l] ∧ H r = some (.ins C dx []) ∧ Knd K H (.ref l) "list" ∧ SqL K H l (ls.map V.int) ∧ 3 ≤ ls.length ∧ ls.length ≤ 8 ∧ Bd 1000000 ls ∧
  ∀ H', RingAt K C H' r ls → (∀ b o, H b = some o → b ≠ r → H' b = some o) → Q .non H'
theorem scRI : FnScope ["self", "lengths"] ["self", "lengths"] (defScope sRingInit) := ⟨rfl, rfl, rfl, by decide +kernel, rfl, by decide +kernel, by decide +kernel⟩
theorem ok_ri {C f fA fH : Addr} {fd fdA fdH : FuncData} (F : Fun K "__init__" "Ring.__init__" sRingInit f fd) (T : Bi mg) (N : Nm mg) (R : RingC K mg C) (A' : DefAt P w K mg base CX0 3 "are_lengths" ["value"] (spAreL K) fA fdA) (L : DefAt P w K mg base CX0 2 "has_level" ["lengths"] (spHasL K) fH fdH) : FnOk P w K mg base CX0 4 f fd ["self", "lengths"] (spRI K C) := by
  refine F.ok scRI (fun vs H Q E h => ?_) (fun cdv A outer s H vs Q E hr h => ?_)
  · obtain ⟨r, l, dx, ls, rfl, _⟩ := h
    rfl
  · obtain ⟨t3, h3⟩ := N.leastB
    obtain ⟨t8, h8⟩ := N.mostB
    refine ⟨_, pss_cons (ps_if (pt_not (pt_val (pe_call A'.ok hr rfl A'.g A'.kp A'.b .nil pass0 (pa_cons (pv 1) pa_nil)))) (pss_one ps_never) pss_nil)
      (pss_cons (ps_if (pt_cmpR op_lt (pe_callB call_len_seq (by rfl) T.len PySem.boot_len (pa_cons (pv 1) pa_nil)) (pe_glob (v := .int 3) rfl h3 ⟨_, rfl⟩) (nomark _)) (pss_one ps_never) pss_nil)
      (pss_cons (ps_if (pt_cmpR op_gt (pe_callB call_len_seq (by rfl) T.len PySem.boot_len (pa_cons (pv 1) pa_nil)) (pe_glob (v := .int 8) rfl h8 ⟨_, rfl⟩) (nomark _)) (pss_one ps_never) pss_nil)
      (pss_cons (ps_fld (pv 0) (pe_callTy cr_tupF (by rfl) T.tuple (by decide +kernel) (pa_cons (pv 1) pa_nil)) rfl)
      (pss_cons (ps_fld (pv 0) (pe_callB (cr_sumT rfl) (by rfl) T.sum (by decide +kernel) (pa_cons (pe_fld (pv 0) rfl) pa_nil)) rfl)
      (pss_cons (ps_fld (pv 0) (pe_cmpR op_le (pe_op op_mul pe_int (pe_callB (cr_maxT rfl) (by rfl) T.max (by decide +kernel) (pa_cons (pe_fld (pv 0) rfl) pa_nil))) (pe_fld (pv 0) rfl) (nomark _)) rfl)
      (pss_one (ps_fld (pv 0) (pe_not (pe_call L.ok (hr.mono (by decide)) rfl L.g L.kp L.b .nil pass0 (pa_cons (pe_fld (pv 0) rfl) pa_nil))) rfl))))))), ?_⟩
    obtain ⟨r, l, dx, ls, rfl, hr0, hk, hs, l3, l8, hb, q⟩ := h
    refine ⟨_, rfl, l, ls, rfl, hk, hs, by omega, hb, fun H1 s1 => ⟨_, rfl, iteF ?_⟩⟩
    refine ⟨_, rfl, l, _, rfl, .inl (s1.seq hs), _, _, rfl, rfl, _, rfl, iteDF (by rw [List.length_map]; omega) ?_⟩
    refine ⟨_, rfl, l, _, rfl, .inl (s1.seq hs), _, _, rfl, rfl, _, rfl, iteDF (by rw [List.length_map]; omega) ?_⟩
    have hr1 := s1 _ _ hr0
    refine ⟨_, rfl, l, _, rfl, s1.seq hs, fun t o ht hd => ?_⟩
    have nrt : r ≠ t := ne_of_none hr1 ht
    have ht0 := s1.free ht
    have tup0 : ∀ u, upd (upd H1 t (.frz o (.tup (ls.map V.int)))) r u t = some (.frz o (.tup (ls.map V.int))) := fun u => by rw [upd_ne nrt.symm, upd_same]
    refine ⟨_, rfl, r, C, dx, [], rfl, (by rw [upd_ne nrt]; exact hr1), R.cl, R.nL, (by show 0 < 1000; decide), ?_⟩
    -- self.total
    refine ⟨_, rfl, r, C, dx, _, _, rfl, upd_same, R.cl, R.nL, (by rw [lookup_putF, if_pos rfl]), t, ls, rfl, .inl (.inr ⟨o, tup0 _⟩), _, rfl, r, C, dx, _, rfl, upd_same, R.cl, R.nT, (by show 1 < 1000; decide), ?_⟩
    rw [upd_upd]
    -- self.closes
    refine ⟨_, rfl, r, C, dx, _, _, rfl, upd_same, R.cl, R.nL, (by rw [lookup_putF, if_neg n1, lookup_putF, if_pos rfl]), t, ls, rfl, .inl (.inr ⟨o, tup0 _⟩), by omega, fun m hm hx => ?_⟩
    refine ⟨_, _, rfl, rfl, .inl ⟨by decide, by decide⟩, _, rfl, r, C, dx, _, _, rfl, upd_same, R.cl, R.nT, (by rw [lookup_putF, if_pos rfl]), _, _, rfl, rfl, _, rfl, r, C, dx, _, rfl, upd_same, R.cl, R.nC, ?_, ?_⟩
    · have e1 := length_putF "total" (V.int ls.sum) (putF "lengths" (V.ref t) [])
      have e2 := length_putF "lengths" (V.ref t) []
      simp only [List.length_nil] at e2
      omega
    dsimp only
    rw [upd_upd, closes_max hm hx]
    -- self.is_clear
    refine ⟨_, rfl, r, C, dx, _, _, rfl, upd_same, R.cl, R.nL, (by rw [lookup_putF, if_neg n2, lookup_putF, if_neg n1, lookup_putF, if_pos rfl]), t, ls, rfl, .inl (.inr ⟨o, tup0 _⟩), l8, fun H5 s5 => ⟨_, rfl, _, rfl, r, C, dx, _, rfl, s5 _ _ upd_same, R.cl, R.nI, ?_, ?_⟩⟩
    · have e1 := length_putF "total" (V.int ls.sum) (putF "lengths" (V.ref t) [])
      have e2 := length_putF "lengths" (V.ref t) []
      have e3 := length_putF "closes" (V.bl (closesB ls)) (putF "total" (V.int ls.sum) (putF "lengths" (V.ref t) []))
      simp only [List.length_nil] at e2
      omega
    · have tf := s5 _ _ (tup0 _)
      refine q _ ⟨dx, t, upd_same, .inl (.inr ⟨o, by rw [upd_ne nrt.symm]; exact tf⟩), o, by rw [upd_ne nrt.symm]; exact tf, hd⟩ fun b o e hbr => ?_
      rw [upd_ne hbr]
      refine s5 _ _ ?_
      rw [upd_ne hbr, upd_ne (ne_of_none (s1 _ _ e) ht)]
      exact s1 _ _ e
end
end K
namespace K
open PySem L2 Rg
open Evl (pss_cut)
theorem perm_sum {a b : List Int} (h : a.Perm b) : a.sum = b.sum := by
  induction h with
  | nil => rfl
  | cons x _ ih => rw [List.sum_cons, List.sum_cons, ih]
  | swap x y l => simp only [List.sum_cons]; omega
  | trans _ _ ih1 ih2 => exact ih1.trans ih2
theorem lsum_perm {ls a b : List Int} (h : a.Perm b) : lsum ls a = lsum ls b := perm_sum (h.map _)
section
variable {P : Program} {w : World} {K : PySem.W.Frag} {mg : Str → Option Value} {base : Heap}
/-- a value passed for a lot of a ring of many bars: what becomes of it, k of what it is if it is one -/
def LotV (K : PySem.W.Frag) (H : Hp) (E : XK) (c : Cs) (many : Int) (part : Str) (v : V) (k : List Int → Prop) : Prop :=
  (∃ kd, Knd K H v kd ∧ kd ≠ "list" ∧ kd ≠ "tuple" ∧ Errs E c.l "part" (.str part) H) ∨
  (∃ (a : Addr) (xs : List V) (kf : V → String), v = .ref a ∧ Knd K H (.ref a) "list" ∧ SqL K H a xs ∧ xs.length ≤ 1000 ∧ (∀ x ∈ xs, Knd K H x (kf x)) ∧
    (((xs.all fun x => decide (kf x = "int")) = false ∧ Errs E c.l "part" (.str part) H) ∨ ∃ ns, xs = ns.map V.int ∧ (xs.all fun x => decide (kf x = "int")) = true ∧ LotFin E c part H (res many ns) k)) ∨
  (∃ (a : Addr) (ns : List Int), v = .ref a ∧ Knd K H (.ref a) "tuple" ∧ SqT K H a (ns.map V.int) ∧ ns.length ≤ 1000 ∧ LotFin E c part H (res many ns) k)
theorem LotFin.imp {E : XK} {c : Cs} {part : Str} {H : Hp} {r : Lr} {k k' : List Int → Prop} (h : LotFin E c part H r k) (i : ∀ ns, k ns → k' ns) : LotFin E c part H r k' := by
  cases r with
  | bad => exact h
  | bar b => exact h
  | twice b => exact h
  | ok ns => exact i ns h
theorem LotV.imp {H : Hp} {E : XK} {c : Cs} {many : Int} {part : Str} {v : V} {k k' : List Int → Prop} (h : LotV K H E c many part v k) (i : ∀ ns, k ns → k' ns) : LotV K H E c many part v k' := by
  rcases h with h | ⟨a, xs, kf, e, h1, h2, h3, h4, h⟩ | ⟨a, ns, e, h1, h2, h3, h4⟩
  · exact .inl h
  · refine .inr (.inl ⟨a, xs, kf, e, h1, h2, h3, h4, ?_⟩)
    rcases h with h | ⟨ns, q1, q2, q3⟩
    · exact .inl h
    · exact .inr ⟨ns, q1, q2, q3.imp i⟩
  · exact .inr (.inr ⟨a, ns, e, h1, h2, h3, h4.imp i⟩)
def spWL (K : PySem.W.Frag) (c : Cs) : Sp := fun vs H Q E => ∃ (v : V) (many : Int) (part : Str), vs = [v, .int many, .str part] ∧ LotV K H E c many part v fun ns => ∀ (p : Addr) (ms : List Int) (H' : Hp), ms.Perm ns → Same H H' → H' p = some (.tup (ms.map V.int)) → Q (.ref p) H'
theorem ok_wl {CX : CXT} {k : Nat} {f : Addr} {fd : FuncData} {ps : List Str} {c : Cs} (F1 : FnOk P w K mg base CX k f fd ps (spWLO K c)) (F2 : FnOk P w K mg base CX k f fd ps (spWLL K c)) (F3 : FnOk P w K mg base CX k f fd ps (spWLT K c)) : FnOk P w K mg base CX k f fd ps (spWL K c) := by
  refine (fn_or F1 (fn_or F2 F3)).imp fun vs H Q E h => ?_
  obtain ⟨v, many, part, rfl, h⟩ := h
  rcases h with ⟨kd, h1, h2, h3, h4⟩ | ⟨a, xs, kf, rfl, h1, h2, h3, h4, h⟩ | ⟨a, ns, rfl, h1, h2, h3, h4⟩
  · exact .inl ⟨v, kd, many, part, rfl, h1, h2, h3, h4⟩
  · exact .inr (.inl ⟨a, xs, kf, many, part, rfl, h1, h2, h3, h4, h⟩)
  · exact .inr (.inr ⟨a, ns, many, part, rfl, h1, h2, h3, h4⟩)
/-- a ring, of whose tuple of lengths nothing is known but its items -/
def RingW (K : PySem.W.Frag) (C : Addr) (H : Hp) (r : Addr) (ls : List Int) : Prop := ∃ dx t, H r = some (.ins C dx (rf t ls)) ∧ SqT K H t (ls.map V.int)
theorem RingAt.weak {C : Addr} {H : Hp} {r : Addr} {ls : List Int} (h : RingAt K C H r ls) : RingW K C H r ls := let ⟨dx, t, h1, h2, _⟩ := h; ⟨dx, t, h1, h2⟩
/-! ### len(ring) -/
def spRLen (K : PySem.W.Frag) (C : Addr) : Sp := fun vs H Q _ => ∃ (r : Addr) (ls : List Int), vs = [.ref r] ∧ RingW K C H r ls ∧ Q (.int ls.length) H
theorem scRLen : FnScope ["self"] ["self"] (defScope sRingLen) := ⟨rfl, rfl, rfl, by decide +kernel, rfl, by decide +kernel, by decide +kernel⟩
theorem ok_rlen {C f : Addr} {fd : FuncData} (F : Fun K "__len__" "Ring.__len__" sRingLen f fd) (T : Bi mg) (R : RingC K mg C) : FnOk P w K mg base CX0 1 f fd ["self"] (spRLen K C) := by
  refine F.ok scRLen (fun vs H Q E h => ?_) (fun cdv A outer s H vs Q E hr h => ?_)
  · obtain ⟨r, ls, rfl, _⟩ := h
    rfl
  · refine ⟨_, pss_one (ps_ret (pe_callB call_len_seq (by rfl) T.len PySem.boot_len (pa_cons (pe_fld (pv 0) rfl) pa_nil))), ?_⟩
    obtain ⟨r, ls, rfl, ⟨dx, t, hr0, ht⟩, q⟩ := h
    refine ⟨_, rfl, r, C, dx, _, _, rfl, hr0, R.cl, R.nL, rf_lengths _ _, t, _, rfl, .inr ht, ?_⟩
    rw [List.length_map]
    exact q
/-! ### ring.length_of(lot), ring.sort_of(lot) -/
def spLenOf (K : PySem.W.Frag) (C : Addr) (c : Cs) : Sp := fun vs H Q E => ∃ (r : Addr) (v : V) (ls : List Int), vs = [.ref r, v] ∧ RingW K C H r ls ∧ ls.length ≤ 8 ∧ LotV K H E c ls.length "lot" v fun ns => ∀ H', Same H H' → Q (.int (lsum ls ns)) H'
abbrev nLenOf : List Str := ["self", "lot", "bars", "bar"]
theorem scLenOf : FnScope nLenOf ["self", "lot"] (defScope sRingLengthOf) := ⟨rfl, rfl, rfl, by decide +kernel, rfl, by decide +kernel, by decide +kernel⟩
theorem get_len {ls : List Int} {b : Int} (h0 : 0 ≤ b) (h1 : b < (ls.length : Int)) : atI (ls.map V.int) b = some (V.int (ls.getD b.toNat 0)) := by
  have hb : b.toNat < ls.length := by omega
  refine at_of (j := b.toNat) (by omega) ?_
  rw [int_get hb, List.getD_eq_getElem?_getD, List.getElem?_eq_getElem hb]
  rfl
theorem res_ok {many : Int} {ns ms : List Int} (h : res many ns = .ok ms) : ms = ns ∧ (∀ x ∈ ns, isBar many x = true) ∧ ft [] ns = none := by
  unfold res at h
  cases e : ns.find? (fun b => !isBar many b) with
  | some b => rw [e] at h; cases h
  | none =>
    rw [e] at h
    cases e2 : ft [] ns with
    | some b => rw [e2] at h; cases h
    | none =>
      rw [e2] at h
      cases h
      refine ⟨rfl, fun x hx => ?_, rfl⟩
      have := List.find?_eq_none.mp e x hx
      simpa using this
/-- a lot that is one, with what is known of it -/
theorem LotFin.fine {E : XK} {c : Cs} {part : Str} {H : Hp} {many : Int} {ns : List Int} {k k' : List Int → Prop} (h : LotFin E c part H (res many ns) k) (hl : ns.length ≤ 1000) (i : ∀ ms, ms.length ≤ 1000 → (∀ x ∈ ms, isBar many x = true) → k ms → k' ms) : LotFin E c part H (res many ns) k' := by
  cases e : res many ns with
  | bad => rw [e] at h; exact h
  | bar b => rw [e] at h; exact h
  | twice b => rw [e] at h; exact h
  | ok ms =>
    rw [e] at h
    obtain ⟨rfl, a, _⟩ := res_ok e
    exact i ms hl a h
theorem LotV.fine {H : Hp} {E : XK} {c : Cs} {many : Int} {part : Str} {v : V} {k k' : List Int → Prop} (h : LotV K H E c many part v k) (i : ∀ ms, ms.length ≤ 1000 → (∀ x ∈ ms, isBar many x = true) → k ms → k' ms) : LotV K H E c many part v k' := by
  rcases h with h | ⟨a, xs, kf, e, h1, h2, h3, h4, h⟩ | ⟨a, ns, e, h1, h2, h3, h4⟩
  · exact .inl h
  · refine .inr (.inl ⟨a, xs, kf, e, h1, h2, h3, h4, ?_⟩)
    rcases h with h | ⟨ns, q1, q2, q3⟩
    · exact .inl h
    · exact .inr ⟨ns, q1, q2, q3.fine (by rw [q1, List.length_map] at h3; exact h3) i⟩
  · exact .inr (.inr ⟨a, ns, e, h1, h2, h3, h4.fine h3 i⟩)
theorem ok_lenOf {C f fW : Addr} {c : Cs} {fd fdW : FuncData} (F : Fun K "length_of" "Ring.length_of" sRingLengthOf f fd) (T : Bi mg) (R : RingC K mg C) (W : DefAt P w K mg base (L2.CX P w) 4 "want_lot" ["value", "many", "part"] (spWL K c) fW fdW) : FnOk P w K mg base (L2.CX P w) 5 f fd ["self", "lot"] (spLenOf K C c) := by
  refine F.okX scLenOf (fun vs H Q E h => ?_) (fun cdv A outer s H vs Q E hr h => ?_)
  · obtain ⟨r, v, ls, rfl, _⟩ := h
    rfl
  · have nd := scLenOf.nd
    refine ⟨_, pss_cons (ps_set (i := 2) nd rfl (Or.inl rfl) (pe_call W.ok hr rfl W.g W.kp W.b .nil (passes_call (takes_of rfl rfl rfl rfl) (fun _ _ _ _ h => h)) (pa_cons (pv 1) (pa_cons (pe_callB call_len_seq (by rfl) T.len PySem.boot_len (pa_cons (pe_fld (pv 0) rfl) pa_nil)) (pa_cons pe_str pa_nil)))))
      (pss_one (ps_ret (pe_callB (cr_sum rfl) (by rfl) T.sum (by decide +kernel) (pa_cons (pe_lc (own := [("bar", 3)]) (g := gName 3) (tt := tYes) (te := tOp (rIxT K) (tFld K (tVar 0) "lengths") (tVar 3)) rfl nd (pi_tup (pv 2))
        (blkOk_by (N := nLenOf) (sc := defScope sRingLengthOf) (by decide +kernel)) (fun _ _ _ _ _ => pg_name (i := 3) nd rfl (Or.inl rfl)) (fun _ _ _ _ _ => pts_nil) (fun _ _ _ _ _ => pe_ix (r := rIxT K) ix_tup (pe_fld (pv 0) rfl) (pv 3) (fun _ _ => rfl))) pa_nil)))), ?_⟩
    obtain ⟨r, v, ls, rfl, ⟨dx, t, hr0, ht⟩, l8, q⟩ := h
    refine ⟨_, rfl, _, rfl, r, C, dx, _, _, rfl, hr0, R.cl, R.nL, rf_lengths _ _, t, _, rfl, .inr ht, v, ls.length, "lot", by rw [List.length_map]; rfl, q.fine fun ns hns al q => ?_⟩
    intro p ms H1 pm s1 hp
    have hms : ms.length ≤ 1000 := by rw [pm.length_eq]; exact hns
    refine ⟨_, rfl, p, rfl, ⟨_, .inl (.inl hp)⟩, fun D hD => ?_⟩
    have hD0 := s1.free hD
    refine lc_tup (K := K) (a := p) (xs := ms.map V.int) (fun i H' => Same H H' ∧ H' p = some (.tup (ms.map V.int)) ∧ H' D = some (.lst (((ms.take i).map fun b => ls.getD b.toNat 0).map V.int))) ⟨s1.new hD, by rw [upd_ne (ne_of_none hp hD)]; exact hp, upd_same⟩ (fun i H' _ q => .inl (.inl q.2.1)) ?_ ?_
    · rintro i x H' hi ⟨s2, h1, h2⟩
      obtain ⟨z, hz, rfl⟩ := int_at hi
      have hil : i < ms.length := (List.getElem?_eq_some_iff.mp hz).1
      have az := al z (pm.mem_iff.mp (List.mem_of_getElem? hz))
      refine ⟨rfl, _, rfl, r, C, dx, _, _, rfl, s2 _ _ hr0, R.cl, R.nL, rf_lengths _ _, _, rfl, t, _, z, _, rfl, rfl, s2.tup ht, get_len (isBar_iff.mp az).1 (isBar_iff.mp az).2, _, h2, (by rw [List.length_map, List.length_map, List.length_take]; exact sm (by omega)), s2.mut hD0, by rw [upd_ne (ne_of_none hp hD)]; exact h1, ?_⟩
      rw [upd_same, ← take_snoc hz, List.map_append, List.map_append]
      rfl
    · rintro H' ⟨s2, h1, h2⟩
      rw [List.length_map, List.take_length] at h2
      refine ⟨D, _, rfl, SqL.of h2, ?_⟩
      have q2 := q H' s2
      rw [← lsum_perm pm] at q2
      exact q2
def sbV (e : Int) : Str := if e = 0 then "level" else if e < 0 then "short" else "long"
def spSortBy : Sp := fun vs H Q _ => ∃ e : Int, vs = [.int e] ∧ Q (.str (sbV e)) H
theorem scSortBy : FnScope ["excess"] ["excess"] (defScope sSortBy) := ⟨rfl, rfl, rfl, by decide +kernel, rfl, by decide +kernel, by decide +kernel⟩
theorem ok_sortBy {f : Addr} {fd : FuncData} (F : Fun K "sort_by" "sort_by" sSortBy f fd) : FnOk P w K mg base CX0 1 f fd ["excess"] spSortBy := by
  refine F.ok scSortBy (fun vs H Q E h => ?_) (fun cdv A outer s H vs Q E hr h => ?_)
  · obtain ⟨e, rfl, _⟩ := h
    rfl
  · refine ⟨_, pss_cons (ps_if (pt_cmpR op_eq (pv 0) pe_int (nomark _)) (pss_one (ps_ret pe_str)) pss_nil)
      (pss_one (ps_ret (pe_ifExp (pt_cmpR op_lt (pv 0) pe_int (nomark _)) pe_str pe_str))), ?_⟩
    obtain ⟨e, rfl, q⟩ := h
    unfold sbV at q
    refine ⟨_, rfl, rfl, _, rfl, ?_⟩
    by_cases c : e = 0
    · rw [if_pos c] at q
      exact iteDT (congrArg V.int c) q
    · rw [if_neg c] at q
      refine iteDF (fun z => c (V.int.inj z)) ?_
      refine ⟨_, rfl, _, _, rfl, rfl, _, rfl, ?_⟩
      by_cases c2 : e < 0
      · rw [if_pos c2] at q
        exact iteDT c2 q
      · rw [if_neg c2] at q
        exact iteDF c2 q
theorem sbV_sort (ls ns : List Int) : sbV (2 * lsum ls ns - ls.sum) = sortV ls ns := by
  unfold sbV sortV
  by_cases c : 2 * lsum ls ns = ls.sum
  · rw [if_pos c, if_pos (by omega)]
  · rw [if_neg c, if_neg (by omega)]
    by_cases d : 2 * lsum ls ns < ls.sum
    · rw [if_pos d, if_pos (by omega)]
    · rw [if_neg d, if_neg (by omega)]
abbrev nSortOf : List Str := ["self", "lot"]
theorem scSortOf : FnScope nSortOf ["self", "lot"] (defScope sRingSortOf) := ⟨rfl, rfl, rfl, by decide +kernel, rfl, by decide +kernel, by decide +kernel⟩
def spSortOf (K : PySem.W.Frag) (C : Addr) (c : Cs) : Sp := fun vs H Q E => ∃ (r : Addr) (v : V) (ls : List Int), vs = [.ref r, v] ∧ RingW K C H r ls ∧ ls.length ≤ 8 ∧ LotV K H E c ls.length "lot" v fun ns => ∀ H', Same H H' → Q (.str (sortV ls ns)) H'
theorem ok_sortOf {C f fL fB : Addr} {c : Cs} {fd fdL fdB : FuncData} (F : Fun K "sort_of" "Ring.sort_of" sRingSortOf f fd) (R : RingC K mg C) (M : Meth K C "length_of" fL) (L : FnOk P w K mg base (L2.CX P w) 5 fL fdL ["self", "lot"] (spLenOf K C c)) (LB : Binds K fdL ["self", "lot"] []) (SB : DefAt P w K mg base CX0 1 "sort_by" ["excess"] spSortBy fB fdB) : FnOk P w K mg base (L2.CX P w) 6 f fd ["self", "lot"] (spSortOf K C c) := by
  refine F.okX scSortOf (fun vs H Q E h => ?_) (fun cdv A outer s H vs Q E hr h => ?_)
  · obtain ⟨r, v, ls, rfl, _⟩ := h
    rfl
  · have nd := scSortOf.nd
    refine ⟨_, pss_one (ps_ret (pe_call SB.ok (hr.mono (by decide)) rfl SB.g SB.kp SB.b .nil pass0 (pa_cons (pe_op op_sub (pe_op op_mul pe_int (pe_meth (pv 0) R.cl M L hr LB .nil (passes_call (takes_of rfl rfl rfl rfl) (fun _ _ _ _ h => h)) (pa_cons (pv 1) pa_nil))) (pe_fld (pv 0) rfl)) pa_nil))), ?_⟩
    obtain ⟨r, v, ls, rfl, ⟨dx, t, hr0, ht⟩, l8, q⟩ := h
    refine ⟨_, rfl, r, dx, _, rfl, hr0, rf_no _ _ (by decide +kernel) (by decide +kernel) (by decide +kernel) (by decide +kernel), _, rfl, r, v, ls, rfl, ⟨dx, t, hr0, ht⟩, l8, q.imp fun ns q => ?_⟩
    intro H1 s1
    have hr1 := s1 _ _ hr0
    refine ⟨_, _, rfl, rfl, .inl ⟨by decide, by decide⟩, _, rfl, r, C, dx, _, _, rfl, hr1, R.cl, R.nT, rf_total _ _, _, _, rfl, rfl, _, rfl, ?_⟩
    have q1 := q H1 s1
    rw [← sbV_sort] at q1
    exact q1
end
end K
namespace K
open PySem L2 Rg
open Evl (pss_cut)
section
variable {P : Program} {w : World} {K : PySem.W.Frag} {mg : Str → Option Value} {base : Heap}
theorem kit_self {K : PySem.W.Frag} {C : Addr} : PySem.W.kitOne K (.ref C) (.ref C) = some true := by
  unfold PySem.W.kitOne
  simp
/-- what is no ring: a value of a kind that is no Ring -/
def NoR (K : PySem.W.Frag) (C : Addr) (H : Hp) (v : V) : Prop := ∃ k : String, TyX K H v (.type k) ∧ PySem.W.kitOne K (.type k) (.ref C) = some false
theorem NoR.same {C : Addr} {H H' : Hp} {v : V} (h : NoR K C H v) (s : Same H H') : NoR K C H' v := let ⟨k, a, b⟩ := h; ⟨k, tyx_same a s, b⟩
def spWantR (K : PySem.W.Frag) (C cR : Addr) : Sp := fun vs H Q E => ∃ (v : V) (part : Str), vs = [v, .str part] ∧ ((∃ r ls, v = .ref r ∧ RingW K C H r ls ∧ Q .non H) ∨ (NoR K C H v ∧ Errs E cR "part" (.str part) H))
theorem scWantR : FnScope ["value", "part"] ["value", "part"] (defScope sWantRing) := ⟨rfl, rfl, rfl, by decide +kernel, rfl, by decide +kernel, by decide +kernel⟩
theorem ok_wantR {C cR f fI : Addr} {fd fdI : FuncData} (F : Fun K "want_ring" "want_ring" sWantRing f fd) (T : Bi mg) (R : RingC K mg C) (B : ErrAt P w K mg base "BadRing" "part" cR fI fdI) : FnOk P w K mg base (L2.CX P w) 3 f fd ["value", "part"] (spWantR K C cR) := by
  refine F.okX scWantR (fun vs H Q E h => ?_) (fun cdv A outer s H vs Q E hr h => ?_)
  · obtain ⟨v, part, rfl, _⟩ := h
    rfl
  · refine ⟨_, pss_one (ps_if (pt_not (pt_val (pe_callB call_isi (by rfl) T.isinstance (by decide +kernel) (pa_cons (pv 0) (pa_cons (pe_glob (v := .ref C) rfl R.g rfl) pa_nil)))))
      (pss_one (ps_raise rfl (takes_of rfl rfl rfl rfl) (pmk_oex B.oex B.ic B.ti B.ok hr B.b .nil pass0 rfl B.g (pa_cons (pv 1) pa_nil)))) pss_nil), ?_⟩
    obtain ⟨v, part, rfl, h⟩ := h
    rcases h with ⟨r, ls, rfl, ⟨dx, t, hr0, ht⟩, q⟩ | ⟨⟨k, ty, kit⟩, er⟩
    · refine ⟨_, rfl, .ref r, .ref C, _, _, _, rfl, .own C, .base (.ins hr0 R.cl R.ha R.hn R.ht R.hm), kit_self, ?_⟩
      exact ⟨_, rfl, iteF q⟩
    · refine ⟨_, rfl, v, .ref C, _, _, _, rfl, .own C, ty, kit, ?_⟩
      exact ⟨_, rfl, iteT ⟨_, rfl, err_made B.oex B.nf er⟩⟩
end
end K
namespace K
open PySem L2 Rg
open Evl (pss_cut)
theorem ne_bb {a b : Bool} (h : a = b) : (!decide (V.bl a = V.bl b)) = false := by rw [h, decide_eq_true rfl]; rfl
theorem ne_vv (v : V) : (!decide (v = v)) = false := by rw [decide_eq_true rfl]; rfl
theorem at_back {α : Type} {xs : List α} {v : α} (hl : 0 < xs.length) (h : xs[xs.length - 1]? = some v) : atI xs (-1) = some v := by
  unfold atI ixN
  rw [if_neg (by decide), if_pos (by omega), show ((-1 : Int) + (xs.length : Int)).toNat = xs.length - 1 by omega]
  exact h
theorem shaped_nil : SeqAt.shaped (.list []) = true := shaped_ints []
theorem Bd.app {m : Int} {a b : List Int} (h : Bd m a) (k : Bd m b) : Bd m (a ++ b) := fun x hx => (List.mem_append.mp hx).elim (h x) (k x)
theorem Bd.take {m : Int} {a : List Int} (i : Nat) (h : Bd m a) : Bd m (a.take i) := fun x hx => h x (List.mem_of_mem_take hx)
theorem Bd.drop {m : Int} {a : List Int} (i : Nat) (h : Bd m a) : Bd m (a.drop i) := fun x hx => h x (List.mem_of_mem_drop hx)
theorem Bd.one {m x : Int} (h1 : 1 ≤ x) (h2 : x ≤ m) : Bd m [x] := fun y hy => by rw [List.mem_singleton.mp hy]; exact ⟨h1, h2⟩
theorem getD_mem {ls : List Int} {i : Nat} (h : i < ls.length) : ls.getD i 0 ∈ ls := by
  rw [List.getD_eq_getElem?_getD, List.getElem?_eq_getElem h]
  exact List.getElem_mem h
theorem Bd.get {m : Int} {ls : List Int} (h : Bd m ls) {i : Nat} (hi : i < ls.length) : 1 ≤ ls.getD i 0 ∧ ls.getD i 0 ≤ m := h _ (getD_mem hi)
theorem cut_from (xs : List V) {z : Int} {k : Nat} (hz : z = (k : Int)) : cutV xs (some z) none = xs.drop k := by
  subst hz
  unfold cutV
  rw [HT.sIx_nat, HT.sIx_none]
  by_cases h : k ≤ xs.length
  · rw [Nat.min_eq_left h, List.take_of_length_le (by rw [List.length_drop]; omega)]
  · rw [Nat.min_eq_right (by omega), List.drop_eq_nil_of_le (Nat.le_refl _), List.drop_eq_nil_of_le (show xs.length ≤ k by omega), List.take_nil]
theorem getL {ls : List Int} {z : Int} {i : Nat} (hz : z = (i : Int)) (h1 : i < ls.length) : atI (ls.map V.int) z = some (V.int (ls.getD i 0)) := by
  subst hz
  have h : (ls.map V.int)[i]? = some (V.int (ls.getD i 0)) := by rw [int_get h1, List.getD_eq_getElem?_getD, List.getElem?_eq_getElem h1]; rfl
  exact atI_nat h
theorem get_z {ls : List Int} {z : Int} (h0 : 0 ≤ z) (h1 : z < ls.length) : atI (ls.map V.int) z = some (V.int (ls.getD z.toNat 0)) := getL (i := z.toNat) (by omega) (by omega)
theorem eqvA_pd (a b : List Int) : PyData.eqv (.list (a.map PyData.int)) (.list (b.map PyData.int)) = decide (a = b) := by
  simp [PyData.eqv, Rg.eqvA_ints8]
section
variable {P : Program} {w : World} {K : PySem.W.Frag} {mg : Str → Option Value} {base : Heap}
theorem RingW.same {C : Addr} {H H' : Hp} {r : Addr} {ls : List Int} (h : RingW K C H r ls) (s : Same H H') : RingW K C H' r ls := by
  obtain ⟨dx, t, h1, h2⟩ := h
  exact ⟨dx, t, s _ _ h1, s.tup h2⟩
/-- a new ring is told, all that was tracked stands -/
def NewA (K : PySem.W.Frag) (C : Addr) (ls : List Int) (H : Hp) (Q : VK) : Prop := ∀ r H', RingAt K C H' r ls → Same H H' → H r = none → Q (.ref r) H'
theorem NewA.later {C : Addr} {ls : List Int} {H H1 : Hp} {Q : VK} (h : NewA K C ls H Q) (s : Same H H1) : NewA K C ls H1 Q := fun r H' a b c => h r H' a (s.trans b) (s.free c)
/-! ### is_within of anything -/
/-- what is_within tells of a value of the kind k -/
def winB (k : String) (lo hi : Int) (v : V) : Bool := decide (k = "int") && match v with
  | .int i => decide (lo ≤ i) && decide (i ≤ hi)
  | _ => false
def spWithinO (K : PySem.W.Frag) : Sp := fun vs H Q _ => ∃ (v : V) (k : String) (lo hi : Int), vs = [v, .int lo, .int hi] ∧ Knd K H v k ∧ k ≠ "int" ∧ Q (.bl false) H
theorem ok_withinO {f fI : Addr} {fd fdI : FuncData} (F : Fun K "is_within" "is_within" sIsWithin f fd) (G : DefAt P w K mg base CX0 1 "is_integer" ["value"] (spIsInt K) fI fdI) : FnOk P w K mg base CX0 2 f fd ["value", "least", "most"] (spWithinO K) := by
  refine F.ok scWithin (fun vs H Q E h => ?_) (fun cdv A outer s H vs Q E hr h => ?_)
  · obtain ⟨v, k, lo, hi, rfl, _⟩ := h
    rfl
  · refine ⟨_, pss_cons (ps_if (pt_not (pt_val (pe_call G.ok hr rfl G.g G.kp G.b .nil pass0 (pa_cons (pv 0) pa_nil)))) (pss_one (ps_ret pe_bl)) pss_nil) (pss_one ps_never), ?_⟩
    obtain ⟨v, k, lo, hi, rfl, hk, nk, q⟩ := h
    refine ⟨_, rfl, v, k, rfl, hk, _, rfl, ?_⟩
    rw [decide_eq_false nk]
    exact iteT q
/-- a value, of a kind, that is an int just if the kind says so -/
def KndI (K : PySem.W.Frag) (H : Hp) (v : V) (k : String) : Prop := Knd K H v k ∧ (k = "int" → ∃ i, v = .int i)
def spWithinG (K : PySem.W.Frag) : Sp := fun vs H Q _ => ∃ (v : V) (k : String) (lo hi : Int), vs = [v, .int lo, .int hi] ∧ KndI K H v k ∧ Q (.bl (winB k lo hi v)) H
theorem ok_withinG {f fI : Addr} {fd fdI : FuncData} (F : Fun K "is_within" "is_within" sIsWithin f fd) (G : DefAt P w K mg base CX0 1 "is_integer" ["value"] (spIsInt K) fI fdI) : FnOk P w K mg base CX0 2 f fd ["value", "least", "most"] (spWithinG K) := by
  refine (fn_or (ok_within F G) (ok_withinO F G)).imp fun vs H Q E h => ?_
  obtain ⟨v, k, lo, hi, rfl, ⟨hk, hi'⟩, q⟩ := h
  by_cases c : k = "int"
  · obtain ⟨i, rfl⟩ := hi' c
    refine .inl ⟨i, lo, hi, rfl, ?_⟩
    unfold winB at q
    rw [decide_eq_true c, Bool.true_and] at q
    exact q
  · refine .inr ⟨v, k, lo, hi, rfl, hk, c, ?_⟩
    unfold winB at q
    rw [decide_eq_false c, Bool.false_and] at q
    exact q
/-! ### want_number of anything -/
theorem madeL2 {C l : Addr} {E : XK} {H : Hp} {ls : List Int} {R : Addr → VK} (hs : H l = some (.lst (ls.map V.int))) (l3 : 3 ≤ ls.length) (l8 : ls.length ≤ 8) (bd : Bd 1000000 ls) (h : ∀ r H', RingAt K C H' r ls → Same H H' → H r = none → R r .non H') :
    ∀ x dx, H x = none → H dx = none → dx ≠ x → spRI K C (.ref x :: ([.ref l] ++ [])) (upd (upd H dx (.own x)) x (.ins C dx [])) (R x) E := by
  intro x dx hx hdx _
  have s0 : Same H (upd (upd H dx (.own x)) x (.ins C dx [])) := fun b o q => by
    rw [upd_ne (ne_of_none q hx), upd_ne (ne_of_none q hdx)]
    exact q
  exact ⟨x, l, dx, ls, rfl, upd_same, ⟨.base (.lst (s0 _ _ hs)), by decide⟩, SqL.of (s0 _ _ hs), l3, l8, bd, fun H' ring kp => h x H' ring (fun b o e => kp b o (s0 b o e) (ne_of_none e hx)) hx⟩
/-- the making of a Ring of a right list -/
structure RingP (P : Program) (w : World) (K : PySem.W.Frag) (mg : Str → Option Value) (base : Heap) (C fI : Addr) (fdI : FuncData) : Prop where
  made : Mk K C fI
  ok : FnOk P w K mg base CX0 4 fI fdI ["self", "lengths"] (spRI K C)
  b : Binds K fdI ["self", "lengths"] []
theorem sl_to {a : Addr} {ls : List Int} {i : Nat} {H : Hp} {Q : VK} (hs : SqT K H a (ls.map V.int)) (hi : i < ls.length) (k : ∀ t, H t = none → Q (.ref t) (upd H t (.tup ((ls.take i).map V.int)))) : rSlA K (.ref a) none (some (i : Int)) H Q := by
  refine ⟨a, _, rfl, hs, fun ⟨_, e2⟩ => ?_, fun _ p hp => ?_⟩
  · rw [HT.sIx_nat, List.length_map] at e2
    omega
  · rw [cutV_to, ← List.map_take]
    exact k p hp
theorem sl_from {a : Addr} {ls : List Int} {z : Int} {i : Nat} {H : Hp} {Q : VK} (hs : SqT K H a (ls.map V.int)) (hz : z = ((i + 1 : Nat) : Int)) (h0 : 0 < ls.length) (k : ∀ t, H t = none → Q (.ref t) (upd H t (.tup ((ls.drop (i + 1)).map V.int)))) : rSlA K (.ref a) (some z) none H Q := by
  refine ⟨a, _, rfl, hs, fun ⟨e1, _⟩ => ?_, fun _ p hp => ?_⟩
  · subst hz
    rw [HT.sIx_nat, List.length_map] at e1
    omega
  · rw [cut_from _ hz, ← List.map_drop]
    exact k p hp
theorem catI {a b : Addr} {xs ys : List Int} {H : Hp} {Q : VK} (ha : H a = some (.tup (xs.map V.int))) (hb : H b = some (.tup (ys.map V.int))) (hl : xs.length + ys.length ≤ 1000) (k : ∀ t H', H' t = some (.tup ((xs ++ ys).map V.int)) → Same H H' → Q (.ref t) H') : rCatA K (.ref a) (.ref b) H Q := by
  refine ⟨a, b, _, _, rfl, rfl, .inl (.inl ha), .inl (.inl hb), by rw [List.length_map, List.length_map]; exact Nat.le_of_lt (sm (by omega)), fun e => k b H ?_ (Same.refl H), fun _ e => k a H ?_ (Same.refl H), fun _ _ p hp => k p _ ?_ ((Same.refl H).new hp)⟩
  · rw [List.map_eq_nil_iff.mp e]; exact hb
  · rw [List.map_eq_nil_iff.mp e, List.append_nil]; exact ha
  · rw [upd_same, List.map_append]
end
end K
namespace K
open PySem L2 Rg
open Evl (pss_cut)
/-! ### strands of bars, each with a sign -/
abbrev Strd := List (Int × Int)
def net (ls : List Int) (st : Strd) : Int := (st.map fun q => ls.getD q.1.toNat 0 * q.2).sum
theorem walk_any {J : It} {n : Nat} {G : Hp → Prop} {Y : Nat → Hp → V → Hp → Prop} (w : Walk J n G Y) {T : V → Hp → (Hp → Prop) → Prop} {H0 : Hp} {Qd : Hp → Prop} (Pv : Nat → Hp → Prop) (h0 : Pv 0 H0) (hG : ∀ i H, i ≤ n → Pv i H → G H)
    (hs : ∀ i x H H', i < n → Pv i H → Y i H x H' → T x H' (Pv (i + 1))) (hd : ∀ H, Pv n H → Qd H) :
    ∃ W : Nat → Nat → Hp → Prop, (∃ m, W 0 m H0) ∧ ∀ i m H, W i m H →
      (J.stop i H ∧ Qd H) ∨ (J.go i H ∧ ∃ Nx : Hp → Prop, (∀ H', Nx H' → ∃ m', m' < m ∧ W (i + 1) m' H') ∧ ∀ x H', J.yld i H x H' → T x H' Nx) := by
  refine ⟨fun i m H => m = n - i ∧ i ≤ n ∧ Pv i H, ⟨n, by simp, Nat.zero_le _, h0⟩, ?_⟩
  rintro i m H ⟨rfl, hi, p⟩
  have q := hG i H hi p
  by_cases hlt : i < n
  · exact .inr ⟨w.goes i H hlt q, Pv (i + 1), fun H' p' => ⟨n - (i + 1), by omega, rfl, hlt, p'⟩, fun x H' y => hs i x H H' hlt p (w.yields i H x H' hlt q y)⟩
  · have e : i = n := by omega
    subst e
    exact .inl ⟨w.stops H q, hd H p⟩
theorem par_imp {α β : Type} {R S : α → β → Prop} (i : ∀ a b, R a b → S a b) : ∀ {xs : List α} {ys : List β}, Paired R xs ys → Paired S xs ys
  | _, _, .nil => .nil
  | _, _, .cons h t => .cons (i _ _ h) (par_imp i t)
theorem par_app {α β : Type} {R : α → β → Prop} : ∀ {xs : List α} {ys : List β} {zs : List α} {ws : List β}, Paired R xs ys → Paired R zs ws → Paired R (xs ++ zs) (ys ++ ws)
  | _, _, _, _, .nil, q => q
  | _, _, _, _, .cons h t, q => .cons h (par_app t q)
theorem par_len {α β : Type} {R : α → β → Prop} : ∀ {xs : List α} {ys : List β}, Paired R xs ys → xs.length = ys.length
  | _, _, .nil => rfl
  | _, _, .cons _ t => congrArg (· + 1) (par_len t)
theorem par_get {α β : Type} {R : α → β → Prop} : ∀ {xs : List α} {ys : List β}, Paired R xs ys → ∀ {i : Nat} {x : α}, xs[i]? = some x → ∃ y, ys[i]? = some y ∧ R x y
  | _, _, .cons h t, 0, x, e => ⟨_, rfl, by cases e; exact h⟩
  | _, _, .cons h t, i + 1, x, e => par_get t (by simpa using e)
theorem par_take {α β : Type} {R : α → β → Prop} : ∀ (n : Nat) {xs : List α} {ys : List β}, Paired R xs ys → Paired R (xs.take n) (ys.take n)
  | 0, _, _, _ => by rw [List.take_zero, List.take_zero]; exact .nil
  | n + 1, _, _, .nil => .nil
  | n + 1, _, _, .cons h t => .cons h (par_take n t)
theorem par_drop {α β : Type} {R : α → β → Prop} : ∀ (n : Nat) {xs : List α} {ys : List β}, Paired R xs ys → Paired R (xs.drop n) (ys.drop n)
  | 0, _, _, h => h
  | n + 1, _, _, .nil => .nil
  | n + 1, _, _, .cons h t => par_drop n t
def rLenS (K : PySem.W.Frag) : List V → Hp → VK → Prop := fun xs H Q => ∃ p ys, xs = [.ref p] ∧ (SqL K H p ys ∨ SqT K H p ys) ∧ Q (.int ys.length) H
/-! ### pairs, strands, ways in the heap -/
def SPat (H : Hp) (v : V) (q : Int × Int) : Prop := ∃ a, v = .ref a ∧ H a = some (.tup [.int q.1, .int q.2])
def SSat (H : Hp) (v : V) (s : Strd) : Prop := ∃ a xs, v = .ref a ∧ H a = some (.tup xs) ∧ Paired (SPat H) xs s
def SWat (H : Hp) (v : V) (w : List Strd) : Prop := ∃ a xs, v = .ref a ∧ H a = some (.tup xs) ∧ Paired (SSat H) xs w
theorem SPat.same {H H' : Hp} {v : V} {q : Int × Int} (h : SPat H v q) (s : Same H H') : SPat H' v q := let ⟨a, e, z⟩ := h; ⟨a, e, s _ _ z⟩
theorem SSat.same {H H' : Hp} {v : V} {q : Strd} (h : SSat H v q) (s : Same H H') : SSat H' v q := let ⟨a, xs, e, z, p⟩ := h; ⟨a, xs, e, s _ _ z, par_imp (fun _ _ k => k.same s) p⟩
theorem SWat.same {H H' : Hp} {v : V} {q : List Strd} (h : SWat H v q) (s : Same H H') : SWat H' v q := let ⟨a, xs, e, z, p⟩ := h; ⟨a, xs, e, s _ _ z, par_imp (fun _ _ k => k.same s) p⟩
/-- a list grows: what was tracked but the list stands -/
theorem SPat.mut {H : Hp} {D : Addr} {us ws : List V} {v : V} {q : Int × Int} (h : SPat H v q) (hD : H D = some (.lst us)) : SPat (upd H D (.lst ws)) v q := by
  obtain ⟨a, e, z⟩ := h
  exact ⟨a, e, by rw [upd_ne fun k => by rw [k, hD] at z; cases z]; exact z⟩
theorem SSat.mut {H : Hp} {D : Addr} {us ws : List V} {v : V} {q : Strd} (h : SSat H v q) (hD : H D = some (.lst us)) : SSat (upd H D (.lst ws)) v q := by
  obtain ⟨a, xs, e, z, p⟩ := h
  exact ⟨a, xs, e, by rw [upd_ne fun k => by rw [k, hD] at z; cases z]; exact z, par_imp (fun _ _ k => k.mut hD) p⟩
theorem SWat.mut {H : Hp} {D : Addr} {us ws : List V} {v : V} {q : List Strd} (h : SWat H v q) (hD : H D = some (.lst us)) : SWat (upd H D (.lst ws)) v q := by
  obtain ⟨a, xs, e, z, p⟩ := h
  exact ⟨a, xs, e, by rw [upd_ne fun k => by rw [k, hD] at z; cases z]; exact z, par_imp (fun _ _ k => k.mut hD) p⟩
section
variable {P : Program} {w : World} {K : PySem.W.Frag} {mg : Str → Option Value} {base : Heap}
theorem catV {a b : Addr} {xs ys : List V} {H : Hp} {Q : VK} (ha : H a = some (.tup xs)) (hb : H b = some (.tup ys)) (hl : xs.length + ys.length ≤ 1000) (k : ∀ t H', H' t = some (.tup (xs ++ ys)) → Same H H' → Q (.ref t) H') : rCatA K (.ref a) (.ref b) H Q := by
  refine ⟨a, b, _, _, rfl, rfl, .inl (.inl ha), .inl (.inl hb), Nat.le_of_lt (sm (by omega)), fun e => k b H ?_ (Same.refl H), fun _ e => k a H ?_ (Same.refl H), fun _ _ p hp => k p _ upd_same ((Same.refl H).new hp)⟩
  · rw [e]; exact hb
  · rw [e, List.append_nil]; exact ha
theorem sIx_le (n : Nat) (z : Int) (h : n ≤ z.toNat) (h0 : 0 ≤ z) (d : Nat) : HT.sIx n d (some z) = n := by
  obtain ⟨k, rfl⟩ := Int.eq_ofNat_of_zero_le h0
  rw [HT.sIx_nat]
  simp at h
  omega
theorem slTo {a : Addr} {xs : List V} {i : Nat} {H : Hp} {Q : VK} (ha : H a = some (.tup xs)) (k : ∀ t H', H' t = some (.tup (xs.take i)) → Same H H' → Q (.ref t) H') : rSlA K (.ref a) none (some (i : Int)) H Q := by
  refine ⟨a, xs, rfl, .inl (.inl ha), fun ⟨_, e⟩ => k a H ?_ (Same.refl H), fun _ p hp => k p _ ?_ ((Same.refl H).new hp)⟩
  · rw [HT.sIx_nat] at e
    rw [List.take_of_length_le (by omega)]
    exact ha
  · rw [upd_same, cutV_to]
theorem slFrom {a : Addr} {xs : List V} {i : Nat} {H : Hp} {Q : VK} (ha : H a = some (.tup xs)) (k : ∀ t H', H' t = some (.tup (xs.drop i)) → Same H H' → Q (.ref t) H') : rSlA K (.ref a) (some (i : Int)) none H Q := by
  refine ⟨a, xs, rfl, .inl (.inl ha), fun ⟨e, _⟩ => k a H ?_ (Same.refl H), fun _ p hp => k p _ ?_ ((Same.refl H).new hp)⟩
  · rw [HT.sIx_nat] at e
    rcases Nat.eq_zero_or_pos i with z | z
    · rw [z]; exact ha
    · have : xs.length = 0 := by omega
      rw [List.eq_nil_of_length_eq_zero this, List.drop_nil]
      rw [List.eq_nil_of_length_eq_zero this] at ha
      exact ha
  · rw [upd_same, cut_from xs rfl]
end
/-- what a pair holds -/
def pk (H : Hp) (x : V) : Int × Int := match x with
  | .ref a => (match H a with
    | some (.tup [.int i, .int j]) => (i, j)
    | _ => (0, 0))
  | _ => (0, 0)
theorem pk_at {H : Hp} {v : V} {q : Int × Int} (h : SPat H v q) : pk H v = q := by
  obtain ⟨a, rfl, h⟩ := h
  show (match H a with
    | some (.tup [.int i, .int j]) => (i, j)
    | _ => ((0 : Int), (0 : Int))) = q
  rw [h]
theorem pk_map {H : Hp} : ∀ {xs : List V} {st : Strd}, Paired (SPat H) xs st → xs.map (pk H) = st
  | _, _, .nil => rfl
  | _, _, .cons h t => by rw [List.map_cons, pk_at h, pk_map t]
theorem par_mem {α β : Type} {R : α → β → Prop} : ∀ {xs : List α} {ys : List β}, Paired R xs ys → ∀ {x : α}, x ∈ xs → ∃ y ∈ ys, R x y
  | _, _, .cons h t, x, e => by
    rcases List.mem_cons.mp e with rfl | e
    · exact ⟨_, List.mem_cons_self .., h⟩
    · obtain ⟨y, hy, r⟩ := par_mem t e
      exact ⟨y, List.mem_cons_of_mem _ hy, r⟩
theorem sorted_eqI {a b : List Int} (p : a.Perm b) (ha : a.Pairwise (· ≤ ·)) (hb : b.Pairwise (· ≤ ·)) : a = b := List.Perm.eq_of_pairwise (fun x y _ _ h1 h2 => Int.le_antisymm h1 h2) ha hb p
def rngI (n : Nat) : List Int := (List.range n).map fun j : Nat => (j : Int)
theorem rngI_sorted (n : Nat) : (rngI n).Pairwise (· ≤ ·) := by
  refine List.pairwise_map.mpr (List.Pairwise.imp (fun {a b} h => ?_) List.pairwise_lt_range)
  omega
theorem rngI_len (n : Nat) : (rngI n).length = n := by unfold rngI; rw [List.length_map, List.length_range]
theorem rgV_rngI (n : Nat) : rgV 0 (n : Int) = (rngI n).map V.int := by
  unfold rgV rngI
  rw [List.map_map, Int.sub_zero, Int.toNat_natCast]
  refine List.map_congr_left fun j _ => ?_
  show V.int (0 + (j : Int)) = V.int (j : Int)
  rw [Int.zero_add]
def flatB (way : List Strd) : List Int := way.flatMap fun st => st.map (·.1)
def goodS (st : Strd) : Prop := st ≠ [] ∧ st.length ≤ 8 ∧ ∀ q ∈ st, q.2 = 1 ∨ q.2 = -1
structure goodV (n : Nat) (way : List Strd) : Prop where
  st : ∀ s ∈ way, goodS s
  ln : way.length ≤ 8
  pm : (flatB way).Perm (rngI n)
/-- strands told as lists of pairs, in a list -/
def LSt (H : Hp) (v : V) (s : Strd) : Prop := ∃ a xs, v = V.ref a ∧ H a = some (.lst xs) ∧ Paired (SPat H) xs s
def LWy (H : Hp) (v : V) (w : List Strd) : Prop := ∃ a xs, v = V.ref a ∧ H a = some (.lst xs) ∧ Paired (LSt H) xs w
theorem LSt.same {H H' : Hp} {v : V} {q : Strd} (h : LSt H v q) (s : Same H H') : LSt H' v q := let ⟨a, xs, e, z, p⟩ := h; ⟨a, xs, e, s _ _ z, par_imp (fun _ _ k => k.same s) p⟩
theorem LWy.same {H H' : Hp} {v : V} {q : List Strd} (h : LWy H v q) (s : Same H H') : LWy H' v q := let ⟨a, xs, e, z, p⟩ := h; ⟨a, xs, e, s _ _ z, par_imp (fun _ _ k => k.same s) p⟩
section
variable {P : Program} {w : World} {K : PySem.W.Frag} {mg : Str → Option Value} {base : Heap}
def spIS (K : PySem.W.Frag) : Sp := fun vs H Q _ => ∃ (v : V) (st : Strd), vs = [v] ∧ LSt H v st ∧ goodS st ∧ ∀ H', Same H H' → Q (.bl true) H'
abbrev nIS : List Str := ["value", "pair"]
theorem scIS : FnScope nIS ["value"] (defScope sIsStrand) := ⟨rfl, rfl, rfl, by decide +kernel, rfl, by decide +kernel, by decide +kernel⟩
theorem ok_is {f fL fN : Addr} {fd fdL fdN : FuncData} (F : Fun K "is_strand" "is_strand" sIsStrand f fd) (T : Bi mg) (L : DefAt P w K mg base CX0 1 "is_list" ["value"] (spIsList K) fL fdL) (NT : DefAt P w K mg base CX0 2 "is_numbers" ["value"] (spNumsT K) fN fdN) : FnOk P w K mg base CX0 3 f fd ["value"] (spIS K) := by
  refine F.ok scIS (fun vs H Q E h => ?_) (fun cdv A outer s H vs Q E hr h => ?_)
  · obtain ⟨v, q, rfl, _⟩ := h
    rfl
  · have nd := scIS.nd
    refine ⟨_, pss_cons (ps_if (PW.pt (pw_or (pt_not (pt_val (pe_call L.ok (hr.mono (by decide)) rfl L.g L.kp L.b .nil pass0 (pa_cons (pv 0) pa_nil)))) (pw_or1 (pt_cmpR op_eq (pe_callB call_len_seq (by rfl) T.len PySem.boot_len (pa_cons (pv 0) pa_nil)) pe_int (nomark _))))) (pss_one ps_never) pss_nil)
      (pss_one (ps_ret (pe_callB (cr_all rfl) (by rfl) T.all (by decide +kernel) (pa_cons (pe_lc (own := [("pair", 1)]) (g := gName 1) (tt := tYes) (te := tAndV (tCall (spNumsT K) [] E0 (tCons (tVar 1) tNil)) (tAndV (tOp rEq (tCB (rLenS K) (tCons (tVar 1) tNil)) (tC (.int 2))) (tOp (rIn K false) (tOp (rIxT K) (tVar 1) (tC (.int 1))) (tTup (tCons (tC (.int 1)) (tCons (tUn (rU fun i => .int (-i)) (tC (.int 1))) tNil)))))) rfl nd (pi_list (pv 0))
        (blkOk_by (N := nIS) (sc := defScope sIsStrand) (by decide +kernel)) (fun _ _ _ _ _ => pg_name (i := 1) nd rfl (Or.inl rfl)) (fun _ _ _ _ _ => pts_nil)
        (fun _ _ _ _ _ => pe_and (pe_call NT.ok hr rfl NT.g NT.kp NT.b .nil pass0 (pa_cons (pv 1) pa_nil)) (pe_and (pe_cmpR op_eq (pe_callB (r := rLenS K) call_len_seq (by rfl) T.len PySem.boot_len (pa_cons (pv 1) pa_nil)) pe_int (nomark _)) (pe_one (pe_cmpR op_in_seq (pe_ix (r := rIxT K) ix_tup (pv 1) pe_int (fun _ _ => rfl)) (pe_tup (pa_cons pe_int (pa_cons (pe_un un_neg pe_int) pa_nil))) (by rfl)))))) pa_nil)))), ?_⟩
    obtain ⟨v, st, rfl, ⟨a, xs, rfl, ha, px⟩, ⟨ne, l8, sg⟩, k⟩ := h
    refine ⟨_, rfl, _, "list", rfl, ⟨.base (.lst ha), by decide⟩, fun H1 s1 => ⟨_, rfl, iteF ?_⟩⟩
    have ha1 := s1 _ _ ha
    have xl : xs.length = st.length := par_len px
    have x0 : xs.length ≠ 0 := fun z => ne (List.eq_nil_of_length_eq_zero (by omega))
    refine ⟨_, rfl, a, _, rfl, .inl (SqL.of ha1), rfl, _, rfl, ?_⟩
    rw [dec_int, decide_eq_false (show ¬ ((xs.length : Int) = 0) by omega)]
    refine iteF ?_
    refine ⟨_, rfl, a, rfl, ⟨_, SqL.of ha1⟩, fun D hD => ?_⟩
    refine lc_list (K := K) (a := a) (xs := xs) (fun j H' => Same H1 H' ∧ ∃ bs : List Bool, (∀ b ∈ bs, b = true) ∧ bs.length ≤ j ∧ H' D = some (.lst (bs.map V.bl))) ⟨(Same.refl H1).new hD, [], (fun b hb => nomatch hb), Nat.le_refl _, upd_same⟩ (fun j H' _ r => SqL.of (r.1 _ _ ha1)) ?_ ?_
    · rintro j y H' hj ⟨s2, bs, b1, b2, h2⟩
      have hjl : j < xs.length := (List.getElem?_eq_some_iff.mp hj).1
      obtain ⟨q, hq, b, rfl, hb⟩ := par_get px hj
      have hb2 := s2 _ _ (s1 _ _ hb)
      refine ⟨rfl, _, rfl, b, [.int q.1, .int q.2], fun _ => "int", rfl, ⟨.base (.tup hb2), by decide⟩, .inl (.inl hb2), (by show 2 ≤ 1000; decide), fun x hx => ?_, fun H3 s3 => ⟨_, rfl, ?_⟩⟩
      · rcases List.mem_cons.mp hx with rfl | hx
        · exact Knd.int
        · rw [List.mem_singleton.mp hx]
          exact Knd.int
      have hb3 := s3 _ _ hb2
      have h3 := s3 _ _ h2
      refine iteBT (by simp) ⟨_, rfl, b, _, rfl, .inr (.inl (.inl hb3)), rfl, _, rfl, ?_⟩
      refine iteBT (by simp) ⟨_, rfl, b, _, _, _, rfl, rfl, .inl (.inl hb3), (rfl : atI [V.int q.1, V.int q.2] 1 = some (.int q.2)), 1, rfl, (by show 2 ≤ sizeLine; decide), fun c nc => ?_⟩
      have s4 : Same H3 (upd H3 c (.tup [.int 1, .int (-1)])) := (Same.refl H3).new nc
      refine ⟨c, ([1, -1] : List Int).map V.int, rfl, .inr (.inl (.inl upd_same)), rfl, flat_ints [1, -1], _, s4 _ _ h3, ?_, ((s2.trans s3).trans s4).mut hD, bs ++ [true], fun z hz => ?_, by rw [List.length_append]; exact Nat.succ_le_succ b2, ?_⟩
      · rw [List.length_map]
        exact sm (by omega)
      · rcases List.mem_append.mp hz with m | m
        · exact b1 z m
        · exact List.mem_singleton.mp m
      · have iv : inV (.int q.2) (([1, -1] : List Int).map V.int) = true := by
          rcases sg q (List.mem_of_getElem? hq) with e | e <;> rw [e] <;> decide
        rw [upd_same, List.map_append]
        show some (HO.lst (bs.map V.bl ++ [V.bl (inV (.int q.2) (([1, -1] : List Int).map V.int))])) = _
        rw [iv]
        rfl
    rintro H2 ⟨s2, bs, b1, b2, h2⟩
    refine ⟨D, bs, rfl, SqL.of h2, ?_⟩
    rw [all_true b1]
    exact k H2 (s1.trans s2)
def spAre (K : PySem.W.Frag) : Sp := fun vs H Q _ => ∃ (v : V) (way : List Strd) (n : Nat), vs = [v] ∧ LWy H v way ∧ goodV n way ∧ 3 ≤ n ∧ n ≤ 8 ∧ ∀ H', Same H H' → Q (.bl true) H'
abbrev nAre : List Str := ["value", "bars", "strand", "pair"]
theorem scAre : FnScope nAre ["value"] (defScope sAreStrands) := ⟨rfl, rfl, rfl, by decide +kernel, rfl, by decide +kernel, by decide +kernel⟩
theorem ok_are {f fL fS : Addr} {fd fdL fdS : FuncData} (F : Fun K "are_strands" "are_strands" sAreStrands f fd) (T : Bi mg) (N : Nm mg) (L : DefAt P w K mg base CX0 1 "is_list" ["value"] (spIsList K) fL fdL) (IS : DefAt P w K mg base CX0 3 "is_strand" ["value"] (spIS K) fS fdS) : FnOk P w K mg base CX0 4 f fd ["value"] (spAre K) := by
  refine F.ok scAre (fun vs H Q E h => ?_) (fun cdv A outer s H vs Q E hr h => ?_)
  · obtain ⟨v, way, n, rfl, _⟩ := h
    rfl
  · have nd := scAre.nd
    obtain ⟨t3, h3⟩ := N.leastB
    obtain ⟨t8, h8⟩ := N.mostB
    refine ⟨_, pss_cons (ps_if (PW.pt (pw_or (pt_not (pt_val (pe_call L.ok (hr.mono (by decide)) rfl L.g L.kp L.b .nil pass0 (pa_cons (pv 0) pa_nil)))) (pw_or1 (pt_not (pt_val (pe_callB (cr_all rfl) (by rfl) T.all (by decide +kernel) (pa_cons (pe_lc (own := [("strand", 2)]) (g := gName 2) (tt := tYes) rfl nd (pi_list (pv 0))
          (blkOk_by (N := nAre) (sc := defScope sAreStrands) (by decide +kernel)) (fun _ _ _ _ _ => pg_name (i := 2) nd rfl (Or.inl rfl)) (fun _ _ _ _ _ => pts_nil) (fun _ _ _ _ _ => pe_call IS.ok hr rfl IS.g IS.kp IS.b .nil pass0 (pa_cons (pv 2) pa_nil))) pa_nil))))))) (pss_one ps_never) pss_nil)
      (pss_cons (ps_set (i := 1) nd rfl (Or.inl rfl) (pe_callB cr_sortedI (by rfl) T.sorted (by decide +kernel) (pa_cons (pe_lc2 (own := [("strand", 2), ("pair", 3)]) (vs1 := [3]) (g := gName 2) (g1 := gName 3) (tt := tYes) (tt1 := tYes) (wi1 := iList K (tVar 2)) (te := tOp (rIxT K) (tVar 3) (tC (.int 0))) rfl nd (pi_list (pv 0)) (blkOk_by (N := nAre) (sc := defScope sAreStrands) (by decide +kernel)) (by decide)
          (fun _ _ _ _ _ => pg_name (i := 2) nd rfl (Or.inl rfl)) (fun _ _ _ _ _ => pts_nil) (fun _ _ _ _ _ => pi_list (pv 2)) (fun _ _ _ _ _ => pg_name (i := 3) nd rfl (Or.inl rfl)) (fun _ _ _ _ _ => pts_nil) (fun _ _ _ _ _ => pe_ix (r := rIxT K) ix_tup (pv 3) pe_int (fun _ _ => rfl))) pa_nil)))
      (pss_one (ps_ret (pe_and (pe_chain op_le op_le (pe_glob (v := .int 3) rfl h3 ⟨_, rfl⟩) (pe_callB call_len_seq (by rfl) T.len PySem.boot_len (pa_cons (pv 1) pa_nil)) (pe_glob (v := .int 8) rfl h8 ⟨_, rfl⟩)) (pe_one (pe_cmpR (op_eqD hr.units) (pv 1) (pe_listRg rfl (by rfl) T.list (prg_1 (by rfl) T.range (pe_callB call_len_seq (by rfl) T.len PySem.boot_len (pa_cons (pv 1) pa_nil)))) (nomark _))))))), ?_⟩
    obtain ⟨v, way, n, rfl, ⟨a, xs, rfl, ha, px⟩, gw, n3, n8, k⟩ := h
    refine ⟨_, rfl, _, "list", rfl, ⟨.base (.lst ha), by decide⟩, fun H1 s1 => ⟨_, rfl, iteF ?_⟩⟩
    have ha1 := s1 _ _ ha
    have xl : xs.length = way.length := par_len px
    have x8 := gw.ln
    refine ⟨_, rfl, a, rfl, ⟨_, SqL.of ha1⟩, fun D hD => ?_⟩
    refine lc_list (K := K) (a := a) (xs := xs) (fun j H' => Same H1 H' ∧ ∃ bs : List Bool, (∀ b ∈ bs, b = true) ∧ bs.length ≤ j ∧ H' D = some (.lst (bs.map V.bl))) ⟨(Same.refl H1).new hD, [], (fun b hb => nomatch hb), Nat.le_refl _, upd_same⟩ (fun j H' _ r => SqL.of (r.1 _ _ ha1)) ?_ ?_
    · rintro j y H' hj ⟨s2, bs, b1, b2, h2⟩
      have hjl : j < xs.length := (List.getElem?_eq_some_iff.mp hj).1
      obtain ⟨st, hst, rs⟩ := par_get px hj
      refine ⟨rfl, _, rfl, y, st, rfl, rs.same (s1.trans s2), gw.st st (List.mem_of_getElem? hst), fun H3 s3 => ⟨_, s3 _ _ h2, ?_, (s2.trans s3).mut hD, bs ++ [true], fun z hz => ?_, by rw [List.length_append]; exact Nat.succ_le_succ b2, ?_⟩⟩
      · rw [List.length_map]
        exact sm (by omega)
      · rcases List.mem_append.mp hz with m | m
        · exact b1 z m
        · exact List.mem_singleton.mp m
      · rw [upd_same, List.map_append]
        rfl
    rintro H2 ⟨s2, bs, b1, b2, h2⟩
    refine ⟨D, bs, rfl, SqL.of h2, ?_⟩
    rw [all_true b1]
    refine ⟨_, rfl, iteF ?_⟩
    have s02 := s1.trans s2
    have ha2 := s02 _ _ ha
    -- the bars
    have fl : ∀ j, (flatB (way.take j)).length ≤ 64 := fun j => by
      have e : flatB way = flatB (way.take j) ++ flatB (way.drop j) := by
        unfold flatB
        rw [← List.flatMap_append, List.take_append_drop]
      have l := gw.pm.length_eq
      rw [e, List.length_append, rngI_len] at l
      omega
    refine ⟨_, rfl, a, rfl, ⟨_, SqL.of ha2⟩, fun D3 hD3 => ?_⟩
    refine walk_any walk_list (fun j H' => Same H2 H' ∧ H' D3 = some (.lst ((flatB (way.take j)).map V.int))) ⟨(Same.refl H2).new hD3, upd_same⟩ (fun j H' _ q => SqL.of (q.1 _ _ ha2)) ?_ ?_
    · rintro j x H' H'' hj ⟨s3, h3'⟩ ⟨rfl, hx⟩
      obtain ⟨st, hst, sa, ys, rfl, hsa, py⟩ := par_get px hx
      have hsa3 := s3 _ _ (s02 _ _ hsa)
      have st8 := (gw.st st (List.mem_of_getElem? hst)).2.1
      have fj := fl j
      refine ⟨rfl, _, rfl, sa, rfl, ⟨_, SqL.of hsa3⟩, ?_⟩
      refine walk_any walk_list (fun i H4 => Same H2 H4 ∧ H4 D3 = some (.lst ((flatB (way.take j) ++ (st.take i).map (·.1)).map V.int))) ⟨s3, by rw [List.take_zero, List.map_nil, List.append_nil]; exact h3'⟩ (fun i H4 _ q => SqL.of (q.1 _ _ (s02 _ _ hsa))) ?_ ?_
      · rintro i y H4 H5 hi ⟨s4, h4⟩ ⟨rfl, hy⟩
        obtain ⟨q, hq, b, rfl, hb⟩ := par_get py hy
        have hil : i < st.length := (List.getElem?_eq_some_iff.mp hq).1
        refine ⟨rfl, _, rfl, b, _, _, _, rfl, rfl, .inl (.inl (s4 _ _ (s02 _ _ hb))), (rfl : atI [V.int q.1, V.int q.2] 0 = some (.int q.1)), _, h4, ?_, s4.mut hD3, ?_⟩
        · rw [List.length_map, List.length_append, List.length_map, List.length_take]
          exact sm (by omega)
        · rw [upd_same, ← take_snoc hq, List.map_append, List.map_append, List.map_append, List.map_append]
          simp
      · rintro H4 ⟨s4, h4⟩
        refine ⟨s4, ?_⟩
        rw [par_len py, List.take_length] at h4
        rw [h4, ← take_snoc hst]
        unfold flatB
        rw [List.flatMap_append]
        simp
    rintro H3 ⟨s3, h3'⟩
    rw [xl, List.take_length] at h3'
    refine ⟨D3, _, rfl, SqL.of h3', fun ns p pmN odN np => ?_⟩
    have e : ns = rngI n := sorted_eqI (pmN.trans gw.pm) odN (rngI_sorted n)
    subst e
    have s4 : Same H3 (upd H3 p (.lst ((rngI n).map V.int))) := (Same.refl H3).new np
    have hp : upd H3 p (.lst ((rngI n).map V.int)) p = some (.lst ((rngI n).map V.int)) := upd_same
    generalize upd H3 p (.lst ((rngI n).map V.int)) = H4 at s4 hp ⊢
    refine ⟨_, rfl, p, _, rfl, .inl (SqL.of hp), _, _, rfl, rfl, _, rfl, ?_⟩
    rw [List.length_map, rngI_len]
    refine iteDT (by omega) ⟨_, _, rfl, rfl, _, rfl, ?_⟩
    refine iteDT (by omega) ?_
    refine ⟨_, rfl, _, rfl, p, _, rfl, .inl (SqL.of hp), ?_⟩
    rw [List.length_map, rngI_len]
    refine ⟨_, rfl, RgOk.of_le (by omega) (by omega) (by omega) (by omega), fun r nr => ?_⟩
    rw [rgV_rngI]
    have s5 : Same H4 (upd H4 r (.lst ((rngI n).map V.int))) := (Same.refl H4).new nr
    refine ⟨_, _, .lst (SqL.of (s5 _ _ hp)) (dp_ints _), .lst (SqL.of upd_same) (dp_ints _), shaped_ints _, shaped_ints _, ?_⟩
    rw [eqvA_pd, decide_eq_true rfl]
    exact k _ (((s02.trans s3).trans s4).trans s5)
end
end K
/-! x.__class__.__name__, x an instance of an own class -/
namespace Rg
open PySem PySem.Spec PyProof.Rows L2 Builtin Builtin.ObjectAttr Builtin.Getset_descriptor
/-- the class at C is called nm, and its name was read before the call -/
structure NamC (K : PySem.W.Frag) (C : Addr) (nm : Str) : Prop where
  rd : PySem.W.readsIn K C (.type "type") = true
  at_ : PySem.W.findCls K (.ref C) (.type "type") "__name__" = some (.get (.builtin "getset_descriptor.__get__") (.builtin "type.__name__") (.ref C) (.type "type"))
  ty : PySem.W.typeIn K (.ref C) = some (.type "type")
  sl : ∃ o t, K.lookup C = some o ∧ o.slots[2]? = some (some (.str nm t))
section
open PySem.W
variable {prog : Program} {w : World} {A : Around} {E : Value → Shared → Prop} {s : Shared} {K : Frag} {R : Result → Shared → Prop} {C : Addr} {o : Obj} {v : Value}
theorem name_get {tp : Value} (X : K.In s.heap) (ht : typeIn K (.ref C) = some (.type "type")) (lk : K.lookup C = some o) (hv : o.slots[2]? = some (some v)) (h : R (.ok (.ret v)) s) :
    codeAny (model prog w) A (.call (.builtin "getset_descriptor.__get__") ⟨[.builtin "type.__name__", .ref C, tp], []⟩) R s := by
  obtain ⟨hh, g, dr, t, os⟩ := s
  have L0 : Looks (model prog w) hh (typeOf (.ref C)) (.type "type") := looks_typeIn X ht
  have L1 : Looks (model prog w) hh (isSubtype (.type "type") (.type "type")) true := Looks.of_pure (by rw [isSubtype_type]; kernel_rfl)
  refine codeAny_call_builtin KF.slot_gs.plain KF.entry_gs (KF.slot_gs.check _ _ _ _ _ _ _ _ ktyn_type (KF.args_gs _ _ _) ?_)
  unfold Builtin.«getset_descriptor.__get__» descrGet
  rw [dga_obj]
  refine wpAny_bind (wpAny_pure ?_)
  unfold descrGetter descrCheckInstance descrNameAndClass isInstance
  simp only [ktyn_owner]
  repeat lk
  refine ⟨Code.quiet_builtin _ (by decide +kernel), codeAny_builtin ktyn_entry ?_⟩
  unfold Builtin.«type.__name__» keptObject PySem.slotAt
  dsimp only
  refine wpAny_bind (wpAny_bind (wpAny_loadPart (X _ _ lk) (wpAny_pure ?_)))
  rw [hv]
  exact wpAny_pure h
end
section
variable {X : Cx} {e : Expr} {ta : TE} {p1 p2 : Pos}
theorem name_ok {pins : List (Addr × Obj)} {σ : L2.St} {H : Hp} {s : Shared} {b : Bool} {A : Around} {E : Value → Shared → Prop} {Q : Value → Shared → Prop} {C : Addr} {nm : Str} (I : Inv X pins σ H s) (c : NamC X.K C nm)
    (h : ∀ u s', Inv X pins σ H s' → RelV (.str nm) u → Q u s') : wpAny (model X.prog X.w) A (getAttr (.ref C) "__name__" b) Q E s := by
  obtain ⟨o, t, lk, hs⟩ := c.sl
  refine PySem.W.cls_bind I.kIn c.rd c.at_ ?_
  refine wpAny_call (name_get (s := { s with toks := s.toks + 1 }) I.kIn c.ty lk hs (PySem.W.handed_on rfl ?_))
  exact h _ _ (I.tok _) ⟨_, rfl⟩
/-- e.__class__.__name__, e an instance of a class of the program -/
def tCName (K : PySem.W.Frag) (ta : TE) : TE := fun σ H Q => ta σ H fun x H1 => ∃ a C dx fs nm, x = .ref a ∧ H1 a = some (.ins C dx fs) ∧ C8.InsC K C ∧ NamC K C nm ∧ Q (.str nm) H1
theorem pe_cname (he : PE X e ta) (hb : attributeBase e "__class__" X.env (eval e X.env) = eval e X.env := by rfl)
    (hb2 : attributeBase (.Attribute e "__class__" p1) "__name__" X.env (eval (.Attribute e "__class__" p1) X.env) = eval (.Attribute e "__class__" p1) X.env := by rfl) :
    PE X (.Attribute (.Attribute e "__class__" p1) "__name__" p2) (tCName X.K ta) := by
  refine ⟨fun pins s σ H Q I h => ?_⟩
  refine attr_of hb2 (attr_of hb (thn (he.run pins s σ H _ I h) fun u s1 ⟨x, H1, I1, rx, a, C, dx, fs, nm, ex, ea, ic, nc, q⟩ => ?_))
  subst ex
  obtain rfl : u = Value.ref a := rx
  obtain ⟨mA, O, _⟩ := ins_get I1.hok ea
  obtain ⟨od, J, _⟩ := O.look
  obtain ⟨m, hF⟩ := I1.fr
  refine PySem.W.get_class hF I1.ok.mod.kin J (ic.cl.get _) ic.cl.hd ic.ha ic.hn ic.htk ic.hm ?_
  exact name_ok (I1.tok _) nc fun u' s2 I2 ru => ⟨.str nm, H1, I2, ru, q⟩
end
end Rg
/-! def __init__(self, ..): super().__init__(e, ..); .. , a def that closes over __class__ alone -/
namespace Rg
open PySem PySem.Spec PyProof.Rows L2 NdefX ClX
/-- what of the text such a def must have: f its object, D the class that it stands in, cc the cell of __class__ -/
structure SupAt (P : Program) (K : PySem.W.Frag) (mg : Str → Option Value) (F : NF) (f D cc : Addr) : Prop where
  cl : F.cl = [(("__class__" : Str), cc)]
  self : ∃ ar, (F.params.posonlyargs ++ F.params.args).head? = some ar ∧ ar.arg = "self"
  cod : ∃ ccl cdd vs ccs file tf, K.lookup F.c = some ⟨ccl, cdd, .fields vs, ccs⟩ ∧ vs[2]? = some (.str file tf) ∧ ((P.main.file : Str) == file) = true
  cell : ∃ kcl kcd kcs, K.lookup cc = some ⟨kcl, kcd, .cell (some (.ref D)), kcs⟩
  clD : ∃ cd, PySem.W.clsIn K D = some cd
  sup : mg "super" = none
  top : (P.main.scope.names.lookup ("super" : Str)).isSome = false
  ks : F.scope.names.lookup ("super" : Str) = some .globalImplicit
/-- the instance's class C, D above it or C itself, and the __init__ that stands behind D in its row -/
structure SupTo (K : PySem.W.Frag) (C D f2 : Addr) : Prop where
  sub : PySem.W.mroIn K C (.ref D) = some true
  th : PySem.W.nsIn K cStatics "thirdparty.any" = some none
  to : PySem.W.ks_superIn K C D "__init__" = some (some (.ref f2))
  ty : PySem.W.typeIn K (.ref f2) = some (.type "function")
  fn : PySem.W.fnIn K f2 = true
section
variable {X : Cx} {pins : List (Addr × Obj)} {σ : L2.St} {H : Hp} {s : Shared} {a D C g : Addr} {A : Around} {E : Value → Shared → Prop}
theorem run_im {CX : CXT} {k : Nat} {q : Addr} {sp : Sp} {Ee : XK} {Q : VK} {us : List Value} {vs : List V} (F : FnR X.prog X.w X.K X.mg X.base CX k g sp) (hr : Room k X.A) (hx : Passes CX X Ee) (I : Inv X ((q, PySem.W.methodObj (.ref g) (.ref a)) :: pins) σ H s)
    (r : Vals vs us) (h : sp (.ref a :: vs) H Q Ee) : wpAny (model X.prog X.w) X.A (call (.ref q) us) (EP X pins σ Q) X.xe s := by
  have z : wpAny (model X.prog X.w) X.A (call (.ref q) us) (EP X ((q, PySem.W.methodObj (.ref g) (.ref a)) :: pins) σ Q) X.xe s :=
    wpAny_call (PySem.W.method_call (pin_at I) (run_fnR (us := .ref a :: us) (vs := .ref a :: vs) F hr hx I (.cons rfl r) h))
  exact thn z fun _ _ y => unpinE y
theorem callwith_im {pos : Pos} {e : Expr} {es : List Expr} {q : Addr} {Q : Value → Shared → Prop} {E : Value → Shared → Prop} {A : Around} (I : Inv X ((q, PySem.W.methodObj (.ref g) (.ref a)) :: pins) σ H s) (hb : X.base.get? q = none) (hf : PySem.W.fnIn X.K g = true)
    (h : wpAny (model X.prog X.w) A (spliced (backTo pos (starEach (e :: es) X.env))) (fun vs s₁ => PySem.W.MethP X.K q g (.ref a) s₁.heap ∧ wpAny (model X.prog X.w) A (call (.ref q) vs) Q E s₁) E s)
    (he : starEach (e :: es) X.env = (false, eval e X.env) :: starEach es X.env) (hpl : (backTo pos (starEach es X.env)).any (·.1) = false) :
    wpAny (model X.prog X.w) A (callWith pos (.ref q) [] (backTo pos (starEach (e :: es) X.env)) []) Q E s := by
  have hq := pin_at I
  have hL : q ≠ X.env.locals := (I.pin (q, PySem.W.methodObj (.ref g) (.ref a)) (List.mem_append_right _ List.mem_cons_self)).2.2.1
  exact PySem.W.callWith_M (K := X.K) (h₀ := X.base) (first := []) I.ok.mod.kin (news_at hL hb hq) List.mem_cons_self hf h he hpl
/-- getMethod of super's object -/
theorem getmethsup_ok {pl : Sem Bool} {Q : Value × List Value → Shared → Prop} {so : Addr} {C dx : Addr} {fs : List (Str × V)} (I : Inv X ((so, PySem.W.ks_superObj D a C) :: pins) σ H s) (ea : H a = some (.ins C dx fs)) (cl : Cls X.K C) (t : SupTo X.K C D g)
    (h : ∀ s', Inv X ((s.heap.objs.size, PySem.W.methodObj (.ref g) (.ref a)) :: pins) σ H s' → Q (.ref s.heap.objs.size, []) s') : wpAny (model X.prog X.w) A (getMethod (.ref so) "__init__" pl) Q E s := by
  have hso := pin_at I
  have KX := I.kIn
  obtain ⟨mA, O, _⟩ := ins_get I.hok ea
  obtain ⟨od, J, _⟩ := O.look
  have I0 := unpin I
  obtain ⟨cd, hc⟩ : ∃ cd, PySem.W.clsIn X.K C = some cd := by
    obtain ⟨cd, hc, _⟩ := PySem.W.any_some cl.hd
    exact ⟨cd, hc⟩
  have hm := t.to
  unfold PySem.W.ks_superIn at hm
  rw [hc] at hm
  obtain ⟨of, hof, hofc⟩ : ∃ of, s.heap.get? g = some of ∧ of.cls = .type "function" := by
    have ht' : (X.K.lookup g).map (·.cls) = some (.type "function") := t.ty
    cases z : X.K.lookup g with
    | none => rw [z] at ht'; cases ht'
    | some of => rw [z] at ht'; exact ⟨of, KX _ _ z, Option.some.inj ht'⟩
  have met : Inv X ((s.heap.objs.size, PySem.W.methodObj (.ref g) (.ref a)) :: pins) σ H { s with heap := s.heap.push (PySem.W.methodObj (.ref g) (.ref a)), toks := s.toks + 1 } :=
    pin_new I0 (fun _ _ z => Heap.get?_push_of_some _ z) (Nat.le_refl _) (Heap.get?_push_size s.heap rfl) (fun v z => nomatch z)
  obtain ⟨hh, gs, d, tt, os⟩ := s
  refine ks_wpAny_getMethod_super hso (PySem.W.looks_opaque KX t.th) (l₀ := cd.mro) ?_ rfl KX hm hof hofc (PySem.W.ks_ne KX J hc) (by decide) ?_
  · exact fun A Q E s k q => wpAny_bind ((PySem.W.looks_clsIn KX hc) A _ E s k (wpAny_pure q))
  · exact h _ met
end
section
variable {CX CX2 : CXT} {P : Program} {w : World} {K : PySem.W.Frag} {mg : Str → Option Value} {base : Heap} {N ps : List Str} {F : NF} {f D cc f2 : Addr} {k : Nat} {sp sp2 : Sp} {fd : FuncData}
  {dV kV doc pm ct oc : Value} {an od : Option Addr} {osl : Array (Option Value)} {p0 p1 p2 apos pos : Pos} {e : Expr} {es : List Expr} {rest : List Stmt}
theorem fn_super (lk : K.lookup f = some ⟨oc, od, .func (PySem.W.fnX F.name F.qual F.params F.body F.scope F.cl dV kV doc pm an (.ref F.c) ct), osl⟩) (hcd : PySem.W.codeIn K (.ref F.c) F.qual = true)
    (S : NScope N (("self" : Str) :: ps) ["__class__"] F.scope) (T : SupAt P K mg F f D cc)
    (hbody : F.body = .Expr (.Call (.Attribute (.Call (.Name "super" p0) [] [] p1) "__init__" apos) (e :: es) [] pos) p2 :: rest)
    (len : ∀ vs H Q E, sp vs H Q E → vs.length = (("self" : Str) :: ps).length)
    (hst : ∀ env, starEach (e :: es) env = (false, eval e env) :: starEach es env) (hpl : ∀ env, (backTo pos (starEach es env)).any (·.1) = false)
    (hev : ∀ (env : Env), ∃ pl, eval (.Call (.Attribute (.Call (.Name "super" p0) [] [] p1) "__init__" apos) (e :: es) [] pos) env = (do
      let ov ← attributeBase (.Call (.Name "super" p0) [] [] p1) "__init__" env (eval (.Call (.Name "super" p0) [] [] p1) env)
      standAt apos.atName
      let (f, first) ← holding [ov] (getMethod ov "__init__" pl)
      callWith pos f first (backTo pos (starEach (e :: es) env)) []))
    (hsw : ∀ f s, swapsWith (.Call (.Attribute (.Call (.Name "super" p0) [] [] p1) "__init__" apos) (e :: es) [] pos) none p2.line (envF F f s) = pure false) (hni : ∀ f s, interactive (envF F f s) = false)
    (hb : ∀ (A : Around) (outer : List Env) (s : Shared) (H : Hp) (vs : List V) (Q : VK) (Ee : XK), Room k (A.deeper (envF F f s.heap.objs.size)) → sp vs H Q Ee →
      ∃ (a C dx : Addr) (fs : List (Str × V)) (vs' : List V) (ta : TA) (t : TS) (E2 : XK), vs = .ref a :: vs' ∧ H a = some (.ins C dx fs) ∧ Cls K C ∧ SupTo K C D f2 ∧ FnR P w K mg base CX2 k f2 sp2 ∧ Passes CX2 (ncx CX P w K mg base N F f A outer s H Ee) E2 ∧
        PA (ncx CX P w K mg base N F f A outer s H Ee) (e :: es) ta ∧ PSs (ncx CX P w K mg base N F f A outer s H Ee) rest t ∧
        ta (startF N vs [some (.ref D)]) H fun us H1 => sp2 (.ref a :: us) H1 (fun _ H2 => t { nx := fun _ H' => Q .non H', rt := Q } (startF N vs [some (.ref D)]) H2) E2) :
    FnOk P w K mg base CX (k + 1) f (PySem.W.fnX F.name F.qual F.params F.body F.scope F.cl dV kV doc pm an (.ref F.c) ct) (("self" : Str) :: ps) sp := by
  refine ⟨len, fun A outer s H args us vs Q Ee hr e0 hbind r hsp => ?_⟩
  have hl := len _ _ _ _ hsp
  have KX : K.In s.heap := e0.mod.kin.keeps fun b o z => (e0.bs b o z).1
  have lim : s.heap.NoLimit := e0.mod.nolimit.keeps fun b o z => (e0.bs b o z).1
  refine codeAny_call_function hr.depth (KX _ _ lk) rfl S.co S.gen rfl (PySem.W.codeRec_of KX hcd) (hbind _ _ _ _ ?_)
  refine wpAny_newFunctionEnv S.nocell (fun ⟨n, _⟩ hy => S.par n (List.of_mem_zip hy).1) (fun h₁ hns hsb => ⟨lim.fresh _ hsb, ?_⟩) S.kind
  show codeAny _ _ (.func F.body (envF F f s.heap.objs.size)) _ _
  have kp : ∀ b o, s.heap.get? b = some o → h₁.get? b = some o := fun b o z => hsb.extBut b o (Nat.ne_of_lt (Heap.lt_size z)) (Heap.get?_push_of_some _ z)
  obtain ⟨a, C, dx, fs, vs', ta, t, E2, ev, ea, cls, to, F2, px, ha, ht, hq⟩ := hb A outer s H vs Q Ee (hr.deeper _) hsp
  obtain ⟨kcl, kcd, kcs, hcell⟩ := T.cell
  have hcellH : H cc = none := (e0.bs cc _ (e0.mod.kin _ _ hcell)).2
  have CA : CellsAt F.cl ["__class__"] [some (.ref D)] s.heap H := by
    rw [T.cl]
    refine ⟨rfl, fun y c z => ?_, fun x y c z1 z2 => ?_, fun i y z => ?_⟩
    · have : c = cc := by
        simp only [List.lookup] at z
        split at z <;> cases z
        rfl
      subst this
      exact ⟨hcellH, _, _, KX _ _ hcell, rfl⟩
    · simp only [List.lookup] at z1 z2
      split at z1
      · rename_i q1
        split at z2
        · rename_i q2
          rw [beq_iff_eq.mp q1, beq_iff_eq.mp q2]
        · cases z2
      · cases z1
    · match i, z with
      | 0, z =>
        have : y = "__class__" := (Option.some.inj z).symm
        subst this
        exact ⟨cc, by simp [List.lookup], fun v hv => ⟨.ref D, by cases hv; rfl, _, KX _ _ hcell, rfl⟩⟩
      | i + 1, z => simp at z
  have I : Inv (ncx CX P w K mg base N F f A outer s H Ee) [] (startF N vs [some (.ref D)]) H { s with heap := h₁, toks := s.toks + ((("self" : Str) :: ps).zip us).length } := inv_startN S hr.hd e0 hl r CA hns kp
  have fin : ∀ {σ' : L2.St} {H' : Hp} {v : V} {u : Value} {s' : Shared}, Inv (ncx CX P w K mg base N F f A outer s H Ee) [] σ' H' s' → L2.RelV v u → Q v H' → CE outer P w H s Q u s' :=
    fun {σ' H' v u s'} J rv q => ⟨v, H', J.os, J.bare, J.base, J.hok, rv, q⟩
  refine ks_codeAny_funcAt ?_
  rw [hbody]
  refine ks_wpAt_execs_cons (ks_wpAt_Expr_any ?_ (hni _ _) (hsw _ _))
  obtain ⟨pl, he⟩ := hev (envF F f s.heap.objs.size)
  refine ks_wpAt_MethodCall (pl := pl) ?_ he
  obtain ⟨ar, har, hself⟩ := T.self
  obtain ⟨ccl, cdd, cvs, ccs, file, tf, hcod, hcvs, hfile⟩ := T.cod
  obtain ⟨cdD, hcD⟩ := T.clD
  obtain ⟨oD, hD1, hD2⟩ : ∃ oD, h₁.get? D = some oD ∧ oD.data = .cls cdD := by
    unfold PySem.W.clsIn at hcD
    split at hcD
    · rename_i c d cd' sl ho
      cases hcD
      exact ⟨_, kp _ _ (KX _ _ ho), rfl⟩
    · cases hcD
  have hkc : F.scope.names.lookup ("__class__" : Str) = some .free := S.frk _ List.mem_cons_self
  have hcl : F.cl.lookup ("__class__" : Str) = some cc := by rw [T.cl]; simp [List.lookup]
  have hka : F.scope.names.lookup ar.arg = some .local := by rw [hself]; exact S.par _ List.mem_cons_self
  obtain ⟨mA, O, _⟩ := ins_get I.hok ea
  obtain ⟨od', J, _⟩ := O.look
  refine ks_wpAt_super_base (env := envF F f s.heap.objs.size) T.ks hkc (by decide) rfl (kp _ _ (KX _ _ lk)) rfl har rfl (kp _ _ (KX _ _ hcod)) rfl hcvs hfile T.top ?_
  obtain ⟨mb, hmb1, hmb2⟩ := e0.mod.blt
  have bk : ∀ b o, base.get? b = some o → h₁.get? b = some o := fun b o z => kp _ _ (e0.bs b o z).1
  refine PySem.W.ks_loadName_global S.kind T.ks (Calls.loadGlobal_builtin (env := envF F f s.heap.objs.size) (e0.mod.glob.keeps bk) T.sup (hmb1.keeps bk) ((hmb2 _ (by decide)).trans rfl) ⟨rfl, ?_⟩)
  refine wpAny_loadName_free S.kind hkc hcl ⟨_, kp _ _ (KX _ _ hcell), rfl⟩ ?_
  obtain ⟨u1, us', eu, ru⟩ : ∃ u1 us', us = u1 :: us' ∧ u1 = Value.ref a := by
    subst ev
    cases r with
    | cons h1 _ => exact ⟨_, _, rfl, h1⟩
  subst ru
  have hv : ((("self" : Str) :: ps).zip us).reverse.lookup ar.arg = some (Value.ref a) := by
    have ndP : ((("self" : Str) :: ps)).Nodup := by
      have q := S.nd.sublist (List.take_sublist ((("self" : Str) :: ps).length + [("__class__" : Str)].length) N)
      rw [S.pre] at q
      exact (List.nodup_append.mp q).1
    rw [hself, eu]
    exact zip_look (i := 0) ndP rfl rfl
  refine wpAny_loadName_local S.kind hka hns hv ?_
  refine ks_wpAny_isType_cls hD1 hD2 ⟨rfl, ?_⟩
  refine ks_wpAny_call_super hD1 hD2 J.at_ J.cls (fun c z => ?_) (PySem.W.looks_mroIn I.kIn to.sub) (fun h' z k => ?_)
  · have := J.no
    unfold PySem.W.notCls at this
    rw [z] at this
    exact Bool.noConfusion this
  have I1 := pin_new (t' := s.toks + (((("self" : Str) :: ps).zip us).length)) I k (Nat.le_refl _) z (fun v q => nomatch q)
  refine getmethsup_ok I1 ea cls to fun s2 I2 => ?_
  refine callwith_im I2 (base_none I1 (Nat.le_refl _)) to.fn (thn (ha.run pos _ s2 _ H _ I2 hq) fun us2 s3 ⟨vs2, H2, I3, rv, q2⟩ => ⟨⟨pin_at I3, I3.kIn⟩, ?_⟩) (hst _) (hpl _)
  refine thn (run_im F2 (hr.deeper _) px I3 rv q2) fun u4 s4 ⟨v4, H4, I4, r4, q4⟩ => ?_
  refine wpAt_of_wpAny (wpAny_mono (ht.run [] s4 _ _ _ I4 q4) (fun fl s' hs => ?_) fun e s' hs => hs)
  cases fl with
  | ret u =>
    obtain ⟨v, σ', H', J, rv, q⟩ := hs
    exact fin J rv q
  | next =>
    obtain ⟨σ', H', J, q⟩ := hs
    exact fin (v := V.non) (u := Value.none) J rfl q
  | brk =>
    obtain ⟨_, _, _, q⟩ := hs
    exact False.elim q
  | cont =>
    obtain ⟨_, _, _, q⟩ := hs
    exact False.elim q
end
end Rg
/-! the truth of an own instance with __bool__ -/
namespace Rg
open PySem PySem.Spec PyProof.Rows L2
section
variable {X : Cx} {k : Nat} {f : Addr} {fd : FuncData} {sp : Sp} {e : Expr} {ta : TE}
def rTruO (K : PySem.W.Frag) (f : Addr) (sp : Sp) : V → Hp → (Bool → Hp → Prop) → Prop := fun x H Q => ∃ a C dx fs, x = .ref a ∧ H a = some (.ins C dx fs) ∧ PySem.W.findIn K (.ref C) "__bool__" = some (some (.ref f)) ∧ PySem.W.isFn K (.ref f) = true ∧
  sp [.ref a] H (fun v H' => ∃ b, v = .bl b ∧ Q b H') E0
theorem tru_insO {pns : List (Addr × Obj)} {σs : L2.St} {Hh : Hp} {s : Shared} {x : V} {u : Value} {Q : Bool → Hp → Prop} (F : FnOk X.prog X.w X.K X.mg X.base CX0 k f fd ["self"] sp) (hr : Room k X.A) (hb : Binds X.K fd ["self"] [])
    (Iv : Inv X pns σs Hh s) (rx : RelV x u) (h : rTruO X.K f sp x Hh Q) : wpAny (model X.prog X.w) X.A (truthy u) (TP X pns σs Q) X.xe s := by
  obtain ⟨a, C, dx, fs, rfl, ha, hs, hf, qq⟩ := h
  obtain rfl : u = Value.ref a := rx
  obtain ⟨mA, O, _⟩ := ins_get Iv.hok ha
  obtain ⟨od, J, _⟩ := O.look
  obtain ⟨m, hF⟩ := Iv.fr
  refine PySem.W.truthy_K hF Iv.ok.mod.kin J hs hf ?_
  have hlst : ([Value.ref a] ++ []).length = (["self"] : List Str).length := rfl
  refine wpAny_call (codeAny_mono (F.run X.A X.stack s Hh ⟨[.ref a], []⟩ [.ref a] [.ref a] _ E0 hr Iv.env0 (hb s [.ref a] Iv.kIn hlst) (.cons rfl .nil) qq) fun r s' hsq => ?_)
  cases r with
  | error e => exact hsq.elim
  | ok fl =>
    cases fl with
    | ret w =>
      obtain ⟨v, H', I3, rlv, b, ev, q3⟩ := Iv.after hsq
      subst ev
      cases rlv
      exact ⟨H', I3, q3⟩
    | next => exact False.elim hsq
    | brk => exact False.elim hsq
    | cont => exact False.elim hsq
theorem pt_bool (F : FnOk X.prog X.w X.K X.mg X.base CX0 k f fd ["self"] sp) (hr : Room k X.A) (hb : Binds X.K fd ["self"] []) (ha : PE X e ta)
    (he : ∀ whole, isTrue e X.env whole = (do let v ← whole; standAt e.pos; holding [v] (truthy v)) := by intro _; rfl) : PT X e (fun σ H Q => ta σ H fun x H' => rTruO X.K f sp x H' Q) := by
  refine ⟨fun pins s σ H Q I h => ?_⟩
  exact isTrue_plain (thn (ha.run pins s σ H _ I h) fun v s1 ⟨x, H1, I1, r1, q1⟩ => tru_insO F hr hb I1 r1 q1) (he _)
end
end Rg
namespace K
open PySem L2 Rg LamX
open Evl (pss_cut)
theorem pi_or {X : Cx} {tg e : Expr} {w1 w2 : TI} (h1 : PI X tg e w1) (h2 : PI X tg e w2) : PI X tg e (fun σ H R => w1 σ H R ∨ w2 σ H R) := ⟨fun pins s σ H R I h => h.elim (h1.run pins s σ H R I) (h2.run pins s σ H R I)⟩
/-! ### nested tuples (and lists) of numbers, texts and None -/
def Atm (v : V) (d : PyData) : Prop := (∃ i : Int, v = .int i ∧ d = .int i) ∨ (v = .non ∧ d = .none) ∨ ∃ z : {z : Str // PyData.strOk z = true}, v = .str z.1 ∧ d = .str z.1
def FV (H : Hp) (b : Bool) : Nat → V → PyData → Prop
  | 0, v, d => Atm v d
  | n + 1, v, d => Atm v d ∨ ∃ (a : Addr) (xs : List V) (ds : List PyData), v = .ref a ∧ (H a = some (.tup xs) ∨ (b = true ∧ H a = some (.lst xs))) ∧ d = .tuple ds ∧ xs.length ≤ 1000 ∧ Paired (FV H b n) xs ds
theorem FV.atm {H : Hp} {b : Bool} {v : V} {d : PyData} (h : Atm v d) : ∀ n, FV H b n v d
  | 0 => h
  | _ + 1 => .inl h
theorem FV.int {H : Hp} {b : Bool} {n : Nat} (i : Int) : FV H b n (.int i) (.int i) := FV.atm (.inl ⟨i, rfl, rfl⟩) n
theorem FV.non {H : Hp} {b : Bool} {n : Nat} : FV H b n .non .none := FV.atm (.inr (.inl ⟨rfl, rfl⟩)) n
theorem FV.tup {H : Hp} {b : Bool} {n : Nat} {a : Addr} {xs : List V} {ds : List PyData} (h : H a = some (.tup xs)) (l : xs.length ≤ 1000) (p : Paired (FV H b n) xs ds) : FV H b (n + 1) (.ref a) (.tuple ds) := .inr ⟨a, xs, ds, rfl, .inl h, rfl, l, p⟩
theorem FV.up {H : Hp} {b : Bool} : ∀ {n : Nat} {v : V} {d : PyData}, FV H b n v d → FV H b (n + 1) v d
  | 0, v, d, h => .inl h
  | n + 1, v, d, h => by
    rcases h with h | ⟨a, xs, ds, e, ha, ed, l, p⟩
    · exact .inl h
    · exact .inr ⟨a, xs, ds, e, ha, ed, l, par_imp (fun _ _ k => k.up) p⟩
theorem FV.ext {H H' : Hp} {b : Bool} (s : ExtN H H') : ∀ {n : Nat} {v : V} {d : PyData}, FV H b n v d → FV H' b n v d
  | 0, v, d, h => h
  | n + 1, v, d, h => by
    rcases h with h | ⟨a, xs, ds, e, ha, ed, l, p⟩
    · exact .inl h
    · exact .inr ⟨a, xs, ds, e, ha.imp (fun z => s _ _ z (fun _ q => nomatch q)) (fun z => ⟨z.1, s _ _ z.2 (fun _ q => nomatch q)⟩), ed, l, par_imp (fun _ _ k => k.ext s) p⟩
theorem FV.same {H H' : Hp} {b : Bool} {n : Nat} {v : V} {d : PyData} (h : FV H b n v d) (s : Same H H') : FV H' b n v d := h.ext (ExtN.of s)
theorem FV.mut {H : Hp} {D : Addr} {us ws : List V} (hD : H D = some (.lst us)) : ∀ {n : Nat} {v : V} {d : PyData}, FV H false n v d → FV (upd H D (.lst ws)) false n v d
  | 0, v, d, h => h
  | n + 1, v, d, h => by
    rcases h with h | ⟨a, xs, ds, e, ha, ed, l, p⟩
    · exact .inl h
    · refine .inr ⟨a, xs, ds, e, ?_, ed, l, par_imp (fun _ _ k => k.mut hD) p⟩
      rcases ha with ha | ⟨z, _⟩
      · exact .inl (by rw [upd_ne fun k => by rw [k, hD] at ha; cases ha]; exact ha)
      · cases z
theorem FV.any {H : Hp} : ∀ {n : Nat} {v : V} {d : PyData}, FV H false n v d → FV H true n v d
  | 0, v, d, h => h
  | n + 1, v, d, h => by
    rcases h with h | ⟨a, xs, ds, e, ha, ed, l, p⟩
    · exact .inl h
    · refine .inr ⟨a, xs, ds, e, ?_, ed, l, par_imp (fun _ _ k => k.any) p⟩
      rcases ha with ha | ⟨z, _⟩
      · exact .inl ha
      · cases z
theorem fv_ints {H : Hp} {b : Bool} {n : Nat} : ∀ l : List Int, Paired (FV H b n) (l.map V.int) (l.map PyData.int)
  | [] => .nil
  | i :: l => .cons (FV.int i) (fv_ints l)
section
variable {P : Program} {w : World} {K : PySem.W.Frag} {mg : Str → Option Value} {base : Heap}
def spFz (n : Nat) : Sp := fun vs H Q _ => ∃ (v : V) (d : PyData), vs = [v] ∧ FV H true n v d ∧ ∀ v' H', Same H H' → FV H' false n v' d → Q v' H'
abbrev nFz : List Str := ["value", "one"]
theorem scFz : FnScope nFz ["value"] (defScope sFixed) := ⟨rfl, rfl, rfl, by decide +kernel, rfl, by decide +kernel, by decide +kernel⟩
theorem atm_ty {H : Hp} {v : V} {d : PyData} (h : Atm v d) : ∃ k : String, TyX K H v (.type k) ∧ kitB k "list" = some false ∧ kitB k "tuple" = some false := by
  rcases h with ⟨i, rfl, _⟩ | ⟨rfl, _⟩ | ⟨z, rfl, _⟩
  · exact ⟨"int", .base (.int i), by decide +kernel, by decide +kernel⟩
  · exact ⟨"NoneType", .base .non, by decide +kernel, by decide +kernel⟩
  · exact ⟨"str", .base (.str z.1), by decide +kernel, by decide +kernel⟩
theorem ok_fz0 {f : Addr} {fd : FuncData} (F : Fun K "fixed" "fixed" sFixed f fd) (T : Bi mg) : FnOk P w K mg base CX0 1 f fd ["value"] (spFz 0) := by
  refine F.ok scFz (fun vs H Q E h => ?_) (fun cdv A outer s H vs Q E hr h => ?_)
  · obtain ⟨v, d, rfl, _⟩ := h
    rfl
  · refine ⟨_, pss_cons (ps_if (pt_val (pe_callB call_isiT (by rfl) T.isinstance (by decide +kernel) (pa_cons (pv 0) (pa_cons (pe_tup (pa_cons (pe_bltn (v := .ty "list") (u := .type "list") (by rfl) T.list (by decide +kernel) rfl) (pa_cons (pe_bltn (v := .ty "tuple") (u := .type "tuple") (by rfl) T.tuple (by decide +kernel) rfl) pa_nil))) pa_nil)))) (pss_one ps_never) pss_nil)
      (pss_one (ps_ret (pv 0))), ?_⟩
    obtain ⟨v, d, rfl, h, q⟩ := h
    refine ⟨_, rfl, (by show 2 ≤ sizeLine; decide), fun p hp => ?_⟩
    have s1 : Same H (upd H p (.tup [.ty "list", .ty "tuple"])) := (Same.refl H).new hp
    obtain ⟨k, ty, k1, k2⟩ := atm_ty (K := K) (H := upd H p (.tup [.ty "list", .ty "tuple"])) h
    refine ⟨v, p, [.ty "list", .ty "tuple"], .type k, _, false, rfl, upd_same, .cons (.ty _) (.cons (.ty _) .nil), ty, kitAny_cons (kit_ty k1) (fun e => kitAny_cons (b := false) (r := false) (kit_ty k2) (fun _ => kitAny_nil) fun e' => nomatch e') (fun e => nomatch e), _, rfl, iteF ?_⟩
    exact ⟨_, rfl, q _ _ s1 h⟩
theorem ok_fz1 {n : Nat} {f : Addr} {fd : FuncData} (F : Fun K "fixed" "fixed" sFixed f fd) (T : Bi mg) (FX : DefAt P w K mg base CX0 (n + 1) "fixed" ["value"] (spFz n) f fd) : FnOk P w K mg base CX0 (n + 2) f fd ["value"] (spFz (n + 1)) := by
  refine F.ok scFz (fun vs H Q E h => ?_) (fun cdv A outer s H vs Q E hr h => ?_)
  · obtain ⟨v, d, rfl, _⟩ := h
    rfl
  · have nd := scFz.nd
    refine ⟨_, pss_cons (ps_if (pt_val (pe_callB call_isiT (by rfl) T.isinstance (by decide +kernel) (pa_cons (pv 0) (pa_cons (pe_tup (pa_cons (pe_bltn (v := .ty "list") (u := .type "list") (by rfl) T.list (by decide +kernel) rfl) (pa_cons (pe_bltn (v := .ty "tuple") (u := .type "tuple") (by rfl) T.tuple (by decide +kernel) rfl) pa_nil))) pa_nil))))
        (pss_one (ps_ret (pe_callTy call_tuple_of (by rfl) T.tuple (by decide +kernel) (pa_cons (pe_lc (own := [("one", 1)]) (g := gName 1) (tt := tYes) rfl nd (pi_or (pi_list (pv 0)) (pi_tup (pv 0))) (blkOk_by (N := nFz) (sc := defScope sFixed) (by decide +kernel)) (fun _ _ _ _ _ => pg_name (i := 1) nd rfl (Or.inl rfl)) (fun _ _ _ _ _ => pts_nil) (fun _ _ _ _ _ => pe_call FX.ok hr rfl FX.g FX.kp FX.b .nil pass0 (pa_cons (pv 1) pa_nil))) pa_nil)))) pss_nil)
      (pss_one (ps_ret (pv 0))), ?_⟩
    obtain ⟨v, d, rfl, h, q⟩ := h
    refine ⟨_, rfl, (by show 2 ≤ sizeLine; decide), fun p hp => ?_⟩
    have s1 : Same H (upd H p (.tup [.ty "list", .ty "tuple"])) := (Same.refl H).new hp
    have hpp : upd H p (.tup [.ty "list", .ty "tuple"]) p = some (.tup [.ty "list", .ty "tuple"]) := upd_same
    generalize upd H p (.tup [.ty "list", .ty "tuple"]) = H1 at s1 hpp ⊢
    rcases h with h | ⟨a, xs, ds, rfl, ha, rfl, l, px⟩
    · obtain ⟨k, ty, k1, k2⟩ := atm_ty (K := K) (H := H1) h
      refine ⟨v, p, [.ty "list", .ty "tuple"], .type k, _, false, rfl, hpp, .cons (.ty _) (.cons (.ty _) .nil), ty, kitAny_cons (kit_ty k1) (fun e => kitAny_cons (b := false) (r := false) (kit_ty k2) (fun _ => kitAny_nil) fun e' => nomatch e') (fun e => nomatch e), _, rfl, iteF ?_⟩
      exact ⟨_, rfl, q _ _ s1 (.inl h)⟩
    have px1 := par_imp (fun _ _ k => FV.same k s1) px
    have body : ∀ (wi : It) (Gd : Hp → Prop), Walk wi xs.length Gd (YAt xs) → (∀ H', Same H1 H' → Gd H') → ∀ D, H1 D = none → ∀ (tt : TT) (R : VK), (∀ D' us H', Same H1 H' → H' D' = some (.lst us) → us.length = xs.length → Paired (FV H' false n) us ds → R (.ref D') H') → True := fun _ _ _ _ _ _ _ _ _ => trivial
    have fin : ∀ (D : Addr) (us : List V) (H' : Hp), Same H1 H' → H' D = some (.lst us) → us.length = xs.length → Paired (FV H' false n) us ds → ∀ t, H' t = none → Q (.ref t) (upd H' t (.tup us)) := fun D us H' s2 h2 ul pu t nt => by
      have s3 : Same H' (upd H' t (.tup us)) := (Same.refl H').new nt
      exact q _ _ ((s1.trans s2).trans s3) (.inr ⟨t, us, ds, rfl, .inl upd_same, rfl, by omega, par_imp (fun _ _ k => k.same s3) pu⟩)
    have step : ∀ (D : Addr) (j : Nat) (y : V) (H' : Hp) (us : List V), xs[j]? = some y → Same H1 H' → H1 D = none → H' D = some (.lst us) → us.length = j → Paired (FV H' false n) us (ds.take j) →
        spFz n [y] H' (fun v H2 => ∃ acc, H2 D = some (.lst acc) ∧ acc.length < sizeLine ∧ (Same H1 (upd H2 D (.lst (acc ++ [v]))) ∧ ∃ us, upd H2 D (.lst (acc ++ [v])) D = some (.lst us) ∧ us.length = j + 1 ∧ Paired (FV (upd H2 D (.lst (acc ++ [v]))) false n) us (ds.take (j + 1)))) E0 := fun D j y H' us hj s2 nD h2 ul pu => by
      obtain ⟨e, he, fv⟩ := par_get px1 hj
      have jl : j < xs.length := (List.getElem?_eq_some_iff.mp hj).1
      refine ⟨y, e, rfl, fv.same s2, fun v' H3 s3 fv' => ?_⟩
      have h3 := s3 _ _ h2
      refine ⟨us, h3, by rw [ul]; exact sm (by omega), (s2.trans s3).mut nD, us ++ [v'], upd_same, by rw [List.length_append, ul]; rfl, ?_⟩
      rw [← take_snoc he]
      exact par_app (par_imp (fun _ _ k => (k.same s3).mut h3) pu) (.cons (fv'.mut h3) .nil)
    rcases ha with ha | ⟨_, ha⟩
    · have ha1 := s1 _ _ ha
      refine ⟨.ref a, p, [.ty "list", .ty "tuple"], .type "tuple", _, true, rfl, hpp, .cons (.ty _) (.cons (.ty _) .nil), .base (.tup ha1), kitAny_cons (b := false) (kit_ty (by decide +kernel)) (fun _ => kitAny_cons (b := true) (r := true) (kit_ty (by decide +kernel)) (fun e => nomatch e) fun _ => rfl) (fun e => nomatch e), _, rfl, iteT ?_⟩
      refine .inr ⟨_, rfl, a, rfl, ⟨_, .inl (.inl ha1)⟩, fun D hD => ?_⟩
      refine lc_it (walk_tup (K := K) (a := a) (xs := xs)) (fun j H' => Same H1 H' ∧ ∃ us, H' D = some (.lst us) ∧ us.length = j ∧ Paired (FV H' false n) us (ds.take j)) ⟨(Same.refl H1).new hD, [], upd_same, rfl, .nil⟩ (fun j H' _ r => .inl (.inl (r.1 _ _ ha1))) ?_ ?_
      · rintro j y H2 H3 hj ⟨s2, us, h2, ul, pu⟩ ⟨rfl, hy⟩
        exact ⟨rfl, _, rfl, step D j y _ us hy s2 hD h2 ul pu⟩
      · rintro H2 ⟨s2, us, h2, ul, pu⟩
        rw [par_len px, List.take_length] at pu
        exact ⟨D, _, rfl, .inl ⟨SqL.of h2, fin D us H2 s2 h2 ul pu⟩⟩
    · have ha1 := s1 _ _ ha
      refine ⟨.ref a, p, [.ty "list", .ty "tuple"], .type "list", _, true, rfl, hpp, .cons (.ty _) (.cons (.ty _) .nil), .base (.lst ha1), kitAny_cons (b := true) (r := true) (kit_ty (kit_list "list" (by decide))) (fun e => nomatch e) (fun _ => rfl), _, rfl, iteT ?_⟩
      refine .inl ⟨_, rfl, a, rfl, ⟨_, SqL.of ha1⟩, fun D hD => ?_⟩
      refine lc_it (walk_list (K := K) (a := a) (xs := xs)) (fun j H' => Same H1 H' ∧ ∃ us, H' D = some (.lst us) ∧ us.length = j ∧ Paired (FV H' false n) us (ds.take j)) ⟨(Same.refl H1).new hD, [], upd_same, rfl, .nil⟩ (fun j H' _ r => SqL.of (r.1 _ _ ha1)) ?_ ?_
      · rintro j y H2 H3 hj ⟨s2, us, h2, ul, pu⟩ ⟨rfl, hy⟩
        exact ⟨rfl, _, rfl, step D j y _ us hy s2 hD h2 ul pu⟩
      · rintro H2 ⟨s2, us, h2, ul, pu⟩
        rw [par_len px, List.take_length] at pu
        exact ⟨D, _, rfl, .inl ⟨SqL.of h2, fin D us H2 s2 h2 ul pu⟩⟩
/-- fixed, to any depth -/
theorem at_fz {f : Addr} {fd : FuncData} (F : Fun K "fixed" "fixed" sFixed f fd) (T : Bi mg) (g : mg "fixed" = some (.ref f)) (kp : PySem.W.keepIn K (.ref f) = true) (b : Binds K fd ["value"] []) : ∀ n, DefAt P w K mg base CX0 (n + 1) "fixed" ["value"] (spFz n) f fd
  | 0 => ⟨ok_fz0 F T, g, kp, b⟩
  | n + 1 => ⟨ok_fz1 F T (at_fz F T g kp b n), g, kp, b⟩
end
end K
namespace K
open PySem L2 Rg LamX NdefX
open Evl (pss_cut)
/-! ### papers -/
/-- a class of papers: no own word, no own parts -/
structure PapC (K : PySem.W.Frag) (C : Addr) : Prop where
  cl : Cls K C
  nw : NoAttr K C "word"
  np : NoAttr K C "parts"
/-- a def that closes over __class__ -/
structure FunS (K : PySem.W.Frag) (x qual : Str) (st : Stmt) (f c cc : Addr) (fd : FuncData) : Prop where
  ex : ∃ (oc : Value) (od : Option Addr) (kV doc pm : Value) (an : Option Addr) (ct : Value) (osl : Array (Option Value)),
    fd = PySem.W.fnX x qual (defArgs st) (defBody st) (defScope st) [(("__class__" : Str), cc)] .none kV doc pm an (.ref c) ct ∧ K.lookup f = some ⟨oc, od, .func fd, osl⟩ ∧ PySem.W.codeIn K (.ref c) qual = true
  kp : PySem.W.keepIn K (.ref f) = true
theorem FunS.binds {K : PySem.W.Frag} {x qual : Str} {st : Stmt} {f c cc : Addr} {fd : FuncData} {ps : List Str} (F : FunS K x qual st f c cc fd)
    (h : ∀ (kV doc pm : Value) (an : Option Addr) (ct : Value) (us : List Value), us.length = ps.length → bindArgs (PySem.W.fnX x qual (defArgs st) (defBody st) (defScope st) [(("__class__" : Str), cc)] .none kV doc pm an (.ref c) ct) ⟨us, []⟩ = pure (ps.zip us)) : Binds K fd ps [] := by
  obtain ⟨oc, od, kV, doc, pm, an, ct, osl, rfl, lk, hcd⟩ := F.ex
  refine fun s us KX hl => ?_
  rw [List.append_nil] at hl ⊢
  intro A R E Q q
  rw [h kV doc pm an ct us hl]
  exact wpAny_pure q
section
variable {P : Program} {w : World} {K : PySem.W.Frag} {mg : Str → Option Value} {base : Heap}
def spPI (n : Nat) : Sp := fun vs H Q _ => ∃ (r C dx p : Addr) (word : Str) (xs : List V) (ds : List PyData), vs = [.ref r, .str word, .ref p] ∧ H r = some (.ins C dx []) ∧ PapC K C ∧ H p = some (.tup xs) ∧ Paired (FV H true n) xs ds ∧ xs.length ≤ 1000 ∧
  ∀ t H', But r H H' → FV H' false (n + 1) (.ref t) (.tuple ds) → H' r = some (.ins C dx [("word", .str word), ("parts", .ref t)]) → Q .non H'
def spPIR (K : PySem.W.Frag) (n : Nat) : Sp := fun vs H Q _ => ∃ (r C dx : Addr) (word : Str) (xs : List V) (ds : List PyData), vs = .ref r :: .str word :: xs ∧ H r = some (.ins C dx []) ∧ PapC K C ∧ Paired (FV H true n) xs ds ∧ xs.length ≤ 1000 ∧
  ∀ t H', But r H H' → FV H' false (n + 1) (.ref t) (.tuple ds) → H' r = some (.ins C dx [("word", .str word), ("parts", .ref t)]) → Q .non H'
abbrev nPI : List Str := ["self", "word", "parts"]
theorem scPI : FnScope nPI ((["self", "word"] : List Str) ++ (["parts"] : List Str)) (defScope sPaperInit) := ⟨rfl, rfl, rfl, by decide +kernel, rfl, by decide +kernel, by decide +kernel⟩
theorem FV.but {H H' : Hp} {r C dx : Addr} {fs : List (Str × V)} {b : Bool} (hr : H r = some (.ins C dx fs)) (s : But r H H') : ∀ {n : Nat} {v : V} {d : PyData}, FV H b n v d → FV H' b n v d
  | 0, v, d, h => h
  | n + 1, v, d, h => by
    rcases h with h | ⟨a, xs, ds, e, ha, ed, l, p⟩
    · exact .inl h
    · refine .inr ⟨a, xs, ds, e, ?_, ed, l, par_imp (fun _ _ k => k.but hr s) p⟩
      exact ha.imp (fun z => s _ _ (fun q => by rw [q, hr] at z; cases z) z) (fun z => ⟨z.1, s _ _ (fun q => by rw [q, hr] at z; cases z.2) z.2⟩)
/-- a def with a star parameter, by its body -/
theorem fn_starF {x qual : Str} {st : Stmt} {f : Addr} {fd : FuncData} {N ps : List Str} {pv : Str} {k : Nat} {sp : Sp} (F : Fun K x qual st f fd) (S : FnScope N (ps ++ [pv]) (defScope st))
    (hb : ∀ (kV doc pm : Value) (an : Option Addr) (cdv ct : Value) (us rest : List Value), us.length = ps.length → bindArgs (PySem.W.fnOf x qual (defArgs st) (defBody st) (defScope st) .none kV doc pm an cdv ct) ⟨us ++ rest, []⟩ = (newTuple rest >>= fun t => pure (ps.zip us ++ [(pv, t)])))
    (hbody : ∀ (cdv : Value) (A : Around) (outer : List Env) (s : Shared) (H : Hp) (vs : List V) (Q : VK) (E : XK), Room k (A.deeper (PyProof.Rows.envOfC qual (defScope st) s.heap.objs.size f cdv)) → sp vs H Q E →
      ∃ t, PSs (cxOf CX0 P w K mg base N qual (defScope st) f cdv A outer s H E).nox (defBody st) t ∧ t { nx := fun _ H' => Q .non H', rt := Q } (start N vs) H) :
    FnR P w K mg base CX0 (k + 1) f (fun vs H Q E => ∃ ws rest, vs = ws ++ rest ∧ ws.length = ps.length ∧ rest.length ≤ sizeLine ∧ ∀ p, H p = none → sp (ws ++ [V.ref p]) (upd H p (.tup rest)) Q E) := by
  obtain ⟨oc, od, kV, doc, pm, an, cdv, ct, osl, rfl, lk, hcd⟩ := F.ex
  refine StX.fn_star lk hcd S StX.cxUp_none (hb kV doc pm an cdv ct) fun A outer s H vs Q E hr hsp => ?_
  obtain ⟨t, h, q⟩ := hbody cdv A outer s H vs Q E hr hsp
  exact ⟨t, h.nox, q⟩
theorem ok_pi {n : Nat} {f fX : Addr} {fd fdX : FuncData} (F : Fun K "__init__" "Paper.__init__" sPaperInit f fd) (FX : DefAt P w K mg base CX0 (n + 2) "fixed" ["value"] (spFz (n + 1)) fX fdX) : FnR P w K mg base CX0 (n + 3) f (spPIR K n) := by
  have z := fn_starF (P := P) (w := w) (mg := mg) (base := base) (ps := ["self", "word"]) (pv := "parts") (N := nPI) (k := n + 2) (sp := spPI (K := K) n) F scPI (fun kV doc pm an cdv ct => StX.bind_star2 (B := fun l => bindArgs (PySem.W.fnOf "__init__" "Paper.__init__" (defArgs sPaperInit) (defBody sPaperInit) (defScope sPaperInit) .none kV doc pm an cdv ct) ⟨l, []⟩) (fun _ _ => rfl) (fun _ _ _ _ => rfl)) fun cdv A outer s H vs Q E hr h => by
    refine ⟨_, (pss_cons (ps_fld (pv 0) (pv 1) rfl) (pss_one (ps_fld (pv 0) (pe_call FX.ok hr rfl FX.g FX.kp FX.b .nil pass0 (pa_cons (pv 2) pa_nil)) rfl))), ?_⟩
    obtain ⟨r, C, dx, p, word, xs, ds, rfl, hr0, pc, hp, px, l, q⟩ := h
    refine ⟨_, rfl, _, rfl, r, C, dx, [], rfl, hr0, pc.cl, pc.nw, (by show 0 < 1000; decide), ?_⟩
    have hr1 : upd H r (.ins C dx (putF "word" (.str word) [])) r = some (.ins C dx [("word", .str word)]) := upd_same
    have s1 : But r H (upd H r (.ins C dx (putF "word" (.str word) []))) := fun b o ne e => by rw [upd_ne ne]; exact e
    generalize upd H r (.ins C dx (putF "word" (.str word) [])) = H1 at hr1 s1 ⊢
    have pr : p ≠ r := fun z => by rw [z, hr0] at hp; cases hp
    refine ⟨_, rfl, .ref p, .tuple ds, rfl, FV.tup (s1 _ _ pr hp) l (par_imp (fun _ _ k => k.but hr0 s1) px), fun v' H2 s2 fv => ?_⟩
    rcases fv with (⟨_, _, z⟩ | ⟨_, z⟩ | ⟨_, _, z⟩) | ⟨t, ys, es, rfl, ht, e2, l2, p2⟩
    · cases z
    · cases z
    · cases z
    have hr2 := s2 _ _ hr1
    refine ⟨_, rfl, r, C, dx, _, rfl, hr2, pc.cl, pc.np, (by show 1 < 1000; decide), ?_⟩
    have s3 : But r H2 (upd H2 r (.ins C dx (putF "parts" (.ref t) [("word", .str word)]))) := fun b o ne e => by rw [upd_ne ne]; exact e
    have fv2 : FV H2 false (n + 1) (.ref t) (.tuple ds) := .inr ⟨t, ys, es, rfl, ht, e2, l2, p2⟩
    exact q t _ ((s1.trans fun b o _ e => s2 _ _ e).trans s3) (fv2.but hr2 s3) upd_same
  exact z.imp fun vs H Q E ⟨r, C, dx, word, xs, ds, e, hr0, pc, px, l, q⟩ => ⟨[.ref r, .str word], xs, e, rfl, Nat.le_trans l (by decide), fun p np => by
    have s0 : Same H (upd H p (.tup xs)) := (Same.refl H).new np
    exact ⟨r, C, dx, p, word, xs, ds, rfl, s0 _ _ hr0, pc, upd_same, par_imp (fun _ _ k => k.same s0) px, l, fun t H' b fv hr' => q t H' (fun a o ne e => b a o ne (s0 _ _ e)) fv hr'⟩⟩
end
end K
namespace K
open PySem L2 Rg LamX NdefX
open Evl (pss_cut)
def nfS (st : Stmt) (x qual : Str) (cc c : Addr) : NF := ⟨x, qual, defArgs st, defBody st, defScope st, [(("__class__" : Str), cc)], c⟩
/-- what a tuple holds -/
theorem fv_list {H : Hp} {n : Nat} {t : Addr} {ds : List PyData} (h : FV H false (n + 1) (.ref t) (.tuple ds)) : ∃ xs, H t = some (.tup xs) ∧ Paired (FV H false n) xs ds := by
  rcases h with (⟨_, z, _⟩ | ⟨z, _⟩ | ⟨_, z, _⟩) | ⟨t', xs, es, e1, ht, e2, l2, p2⟩
  · cases z
  · cases z
  · cases z
  · cases e1
    cases e2
    rcases ht with ht | ⟨z, _⟩
    · exact ⟨xs, ht, p2⟩
    · cases z
/-! ### papers -/
/-- a paper of the class C: its fields, what its parts hold -/
def PapG (C : Addr) (word : Str) (fs : List (Str × V)) (H : Hp) (r : Addr) : Prop := ∃ dx t, H r = some (.ins C dx (("word", .str word) :: ("parts", .ref t) :: fs)) ∧ H t = some (.tup (fs.map (·.2)))
theorem PapG.ext {C : Addr} {word : Str} {fs : List (Str × V)} {H H' : Hp} {r : Addr} (h : PapG C word fs H r) (s : ExtN H H') : PapG C word fs H' r := by
  obtain ⟨dx, t, h1, h2⟩ := h
  exact ⟨dx, t, s _ _ h1 (fun _ q => nomatch q), s _ _ h2 (fun _ q => nomatch q)⟩
section
variable {P : Program} {w : World} {K : PySem.W.Frag} {mg : Str → Option Value} {base : Heap}
abbrev fsNI (v1 : V) : List (Str × V) := [("nets", v1)]
structure NetsC (K : PySem.W.Frag) (mg : Str → Option Value) (C : Addr) : Prop where
  pc : PapC K C
  n1 : NoAttr K C "nets"
  g : mg "Nets" = some (.ref C)
def spNI (K : PySem.W.Frag) (C : Addr) (n : Nat) : Sp := fun vs H Q _ => ∃ (r dx : Addr) (v1 : V) (d1 : PyData), vs = [.ref r, v1] ∧ H r = some (.ins C dx []) ∧ FV H true n v1 d1 ∧
  ∀ w1 H', But r H H' → FV H' false n w1 d1 → PapG C "nets" (fsNI w1) H' r → Q .non H'
abbrev nNI : List Str := ["self", "nets", "__class__"]
theorem scNI : NScope nNI ((("self" : Str)) :: (["nets"] : List Str)) ["__class__"] (defScope sNetsInit) := nscope_by (by decide +kernel)
theorem ok_ni {n : Nat} {f c cc C f2 : Addr} {fd : FuncData} (F : FunS K "__init__" "Nets.__init__" sNetsInit f c cc fd) (T : SupAt P K mg (nfS sNetsInit "__init__" "Nets.__init__" cc c) f C cc) (R : NetsC K mg C) (TO : SupTo K C C f2) (PI : FnR P w K mg base CX0 (n + 3) f2 (spPIR K n)) :
    FnOk P w K mg base CX0 (n + 4) f fd ["self", "nets"] (spNI K C n) := by
  obtain ⟨oc, od, kV, doc, pm, an, ct, osl, rfl, lk, hcd⟩ := F.ex
  refine fn_super (CX2 := CX0) (f2 := f2) (sp2 := spPIR K n) (F := nfS sNetsInit "__init__" "Nets.__init__" cc c) (N := nNI) (ps := ["nets"]) (sp := spNI K C n) (k := n + 3) lk hcd scNI T rfl (fun vs H Q E h => ?_) (fun _ => rfl) (fun _ => rfl) (fun _ => ⟨_, rfl⟩) (fun _ _ => rfl) (fun _ _ => rfl) fun A outer s H vs Q E hr h => ?_
  · obtain ⟨r, dx, v1, d1, rfl, _⟩ := h
    rfl
  · obtain ⟨r, dx, v1, d1, rfl, hr0, f1, q⟩ := h
    refine ⟨r, C, dx, [], _, _, _, _, rfl, hr0, R.pc.cl, TO, PI, pass0, (pa_cons pe_str (pa_cons (pv 1) pa_nil)),
      (pss_one (ps_fld (pv 0) (pe_ix (r := rIxT K) ix_tup (pe_fld (pv 0) rfl) pe_int (fun _ _ => rfl)) rfl)), ?_⟩
    refine ⟨_, rfl,  r, C, dx, "nets", [v1], [d1], rfl, hr0, R.pc, (.cons f1 .nil), (by show 1 ≤ 1000; decide), fun t H1 s1 fv hr1 => ?_⟩
    obtain ⟨xs, ht, px⟩ := fv_list fv
    obtain ⟨w1, rfl, g1⟩ : ∃ w1, xs = [w1] ∧ FV H1 false n w1 d1 := by
      cases px with
      | cons a p => cases p; exact ⟨_, rfl, a⟩
    have tr : t ≠ r := fun z => by rw [z, hr1] at ht; cases ht
    refine ⟨_, rfl, r, C, dx, _, _, rfl, hr1, R.pc.cl, R.pc.np, rfl, t, _, 0, w1, rfl, rfl, .inl (.inl ht), rfl, _, rfl, r, C, dx, _, rfl, hr1, R.pc.cl, R.n1, (by show 2 < 1000; decide), ?_⟩
    have s2 : But r H1 (upd H1 r (.ins C dx (putF "nets" w1 [("word", .str "nets"), ("parts", .ref t)]))) := fun b o ne e => by rw [upd_ne ne]; exact e
    have al : ∀ {v : V} {d : PyData}, FV H1 false n v d → FV (upd H1 r (.ins C dx (putF "nets" w1 [("word", .str "nets"), ("parts", .ref t)]))) false n v d := fun g => (g.but hr1 s2)
    exact q w1 _ (s1.trans s2) (al g1) ⟨dx, t, upd_same, s2 _ _ tr ht⟩
abbrev fsGI (v1 v2 v3 : V) : List (Str × V) := [("lot", v1), ("net", v2), ("others", v3)]
structure TooGreatC (K : PySem.W.Frag) (mg : Str → Option Value) (C : Addr) : Prop where
  pc : PapC K C
  n1 : NoAttr K C "lot"
  n2 : NoAttr K C "net"
  n3 : NoAttr K C "others"
  g : mg "TooGreat" = some (.ref C)
def spGI (K : PySem.W.Frag) (C : Addr) (n : Nat) : Sp := fun vs H Q _ => ∃ (r dx : Addr) (v1 v2 v3 : V) (d1 d2 d3 : PyData), vs = [.ref r, v1, v2, v3] ∧ H r = some (.ins C dx []) ∧ FV H true n v1 d1 ∧ FV H true n v2 d2 ∧ FV H true n v3 d3 ∧
  ∀ w1 w2 w3 H', But r H H' → FV H' false n w1 d1 → FV H' false n w2 d2 → FV H' false n w3 d3 → PapG C "toogreat" (fsGI w1 w2 w3) H' r → Q .non H'
abbrev nGI : List Str := ["self", "lot", "net", "others", "__class__"]
theorem scGI : NScope nGI ((("self" : Str)) :: (["lot", "net", "others"] : List Str)) ["__class__"] (defScope sTooGreatInit) := nscope_by (by decide +kernel)
theorem ok_gi {n : Nat} {f c cc C f2 : Addr} {fd : FuncData} (F : FunS K "__init__" "TooGreat.__init__" sTooGreatInit f c cc fd) (T : SupAt P K mg (nfS sTooGreatInit "__init__" "TooGreat.__init__" cc c) f C cc) (R : TooGreatC K mg C) (TO : SupTo K C C f2) (PI : FnR P w K mg base CX0 (n + 3) f2 (spPIR K n)) :
    FnOk P w K mg base CX0 (n + 4) f fd ["self", "lot", "net", "others"] (spGI K C n) := by
  obtain ⟨oc, od, kV, doc, pm, an, ct, osl, rfl, lk, hcd⟩ := F.ex
  refine fn_super (CX2 := CX0) (f2 := f2) (sp2 := spPIR K n) (F := nfS sTooGreatInit "__init__" "TooGreat.__init__" cc c) (N := nGI) (ps := ["lot", "net", "others"]) (sp := spGI K C n) (k := n + 3) lk hcd scGI T rfl (fun vs H Q E h => ?_) (fun _ => rfl) (fun _ => rfl) (fun _ => ⟨_, rfl⟩) (fun _ _ => rfl) (fun _ _ => rfl) fun A outer s H vs Q E hr h => ?_
  · obtain ⟨r, dx, v1, v2, v3, d1, d2, d3, rfl, _⟩ := h
    rfl
  · obtain ⟨r, dx, v1, v2, v3, d1, d2, d3, rfl, hr0, f1, f2, f3, q⟩ := h
    refine ⟨r, C, dx, [], _, _, _, _, rfl, hr0, R.pc.cl, TO, PI, pass0, (pa_cons pe_str (pa_cons (pv 1) (pa_cons (pv 2) (pa_cons (pv 3) pa_nil)))),
      (pss_cons (ps_fld (pv 0) (pe_ix (r := rIxT K) ix_tup (pe_fld (pv 0) rfl) pe_int (fun _ _ => rfl)) rfl)
      (pss_cons (ps_fld (pv 0) (pe_ix (r := rIxT K) ix_tup (pe_fld (pv 0) rfl) pe_int (fun _ _ => rfl)) rfl)
      (pss_one (ps_fld (pv 0) (pe_ix (r := rIxT K) ix_tup (pe_fld (pv 0) rfl) pe_int (fun _ _ => rfl)) rfl)))), ?_⟩
    refine ⟨_, rfl, _, rfl, _, rfl,  r, C, dx, "toogreat", [v1, v2, v3], [d1, d2, d3], rfl, hr0, R.pc, (.cons f1 (.cons f2 (.cons f3 .nil))), (by show 3 ≤ 1000; decide), fun t H1 s1 fv hr1 => ?_⟩
    obtain ⟨xs, ht, px⟩ := fv_list fv
    obtain ⟨w1, w2, w3, rfl, g1, g2, g3⟩ : ∃ w1 w2 w3, xs = [w1, w2, w3] ∧ FV H1 false n w1 d1 ∧ FV H1 false n w2 d2 ∧ FV H1 false n w3 d3 := by
      cases px with
      | cons a p => cases p with
        | cons b p => cases p with
          | cons c p => cases p; exact ⟨_, _, _, rfl, a, b, c⟩
    have tr : t ≠ r := fun z => by rw [z, hr1] at ht; cases ht
    refine ⟨_, rfl, r, C, dx, _, _, rfl, hr1, R.pc.cl, R.pc.np, rfl, t, _, 0, w1, rfl, rfl, .inl (.inl ht), rfl, _, rfl, r, C, dx, _, rfl, hr1, R.pc.cl, R.n1, (by show 2 < 1000; decide), ?_⟩
    have s2 : But r H1 (upd H1 r (.ins C dx (putF "lot" w1 [("word", .str "toogreat"), ("parts", .ref t)]))) := fun b o ne e => by rw [upd_ne ne]; exact e
    have hr2 : upd H1 r (.ins C dx (putF "lot" w1 [("word", .str "toogreat"), ("parts", .ref t)])) r = some (.ins C dx [("word", .str "toogreat"), ("parts", .ref t), ("lot", w1)]) := upd_same
    generalize upd H1 r (.ins C dx (putF "lot" w1 [("word", .str "toogreat"), ("parts", .ref t)])) = H2 at hr2 s2 ⊢
    have ht2 := s2 _ _ tr ht
    refine ⟨_, rfl, r, C, dx, _, _, rfl, hr2, R.pc.cl, R.pc.np, rfl, t, _, 1, w2, rfl, rfl, .inl (.inl ht2), rfl, _, rfl, r, C, dx, _, rfl, hr2, R.pc.cl, R.n2, (by show 3 < 1000; decide), ?_⟩
    have s3 : But r H2 (upd H2 r (.ins C dx (putF "net" w2 [("word", .str "toogreat"), ("parts", .ref t), ("lot", w1)]))) := fun b o ne e => by rw [upd_ne ne]; exact e
    have hr3 : upd H2 r (.ins C dx (putF "net" w2 [("word", .str "toogreat"), ("parts", .ref t), ("lot", w1)])) r = some (.ins C dx [("word", .str "toogreat"), ("parts", .ref t), ("lot", w1), ("net", w2)]) := upd_same
    generalize upd H2 r (.ins C dx (putF "net" w2 [("word", .str "toogreat"), ("parts", .ref t), ("lot", w1)])) = H3 at hr3 s3 ⊢
    have ht3 := s3 _ _ tr ht2
    refine ⟨_, rfl, r, C, dx, _, _, rfl, hr3, R.pc.cl, R.pc.np, rfl, t, _, 2, w3, rfl, rfl, .inl (.inl ht3), rfl, _, rfl, r, C, dx, _, rfl, hr3, R.pc.cl, R.n3, (by show 4 < 1000; decide), ?_⟩
    have s4 : But r H3 (upd H3 r (.ins C dx (putF "others" w3 [("word", .str "toogreat"), ("parts", .ref t), ("lot", w1), ("net", w2)]))) := fun b o ne e => by rw [upd_ne ne]; exact e
    have al : ∀ {v : V} {d : PyData}, FV H1 false n v d → FV (upd H3 r (.ins C dx (putF "others" w3 [("word", .str "toogreat"), ("parts", .ref t), ("lot", w1), ("net", w2)]))) false n v d := fun g => (((g.but hr1 s2).but hr2 s3).but hr3 s4)
    exact q w1 w2 w3 _ (((s1.trans s2).trans s3).trans s4) (al g1) (al g2) (al g3) ⟨dx, t, upd_same, s4 _ _ tr ht3⟩
end
end K
namespace K
open PySem L2 Rg
open Evl (pss_cut)
/-! ### pairs in order -/
def lexLe (a b : Int × Int) : Bool := !SrtO.lexB b a
theorem lexLe_iff {a b : Int × Int} : lexLe a b = true ↔ (a.1 < b.1 ∨ (a.1 = b.1 ∧ a.2 ≤ b.2)) := by
  unfold lexLe
  rw [Bool.not_eq_true', SrtO.lexB_no]
  omega
def srtQ (st : Strd) : Strd := st.mergeSort lexLe
theorem srtQ_perm (st : Strd) : (srtQ st).Perm st := List.mergeSort_perm ..
theorem lexLe_trans (a b c : Int × Int) (h1 : lexLe a b = true) (h2 : lexLe b c = true) : lexLe a c = true := by
  rw [lexLe_iff] at h1 h2 ⊢
  omega
theorem lexLe_total (a b : Int × Int) : (lexLe a b || lexLe b a) = true := by
  rw [Bool.or_eq_true, lexLe_iff, lexLe_iff]
  omega
theorem lexLe_anti {a b : Int × Int} (h1 : lexLe a b = true) (h2 : lexLe b a = true) : a = b := by
  rw [lexLe_iff] at h1 h2
  exact Prod.ext (by omega) (by omega)
theorem srtQ_sorted (st : Strd) : (srtQ st).Pairwise fun a b => lexLe a b = true := List.pairwise_mergeSort lexLe_trans lexLe_total st
theorem srtQ_uniq {l st : Strd} (p : l.Perm st) (h : l.Pairwise fun a b => lexLe a b = true) : l = srtQ st :=
  List.Perm.eq_of_pairwise (fun x y _ _ h1 h2 => lexLe_anti h1 h2) h (srtQ_sorted st) (p.trans (srtQ_perm st).symm)
theorem srtQ_of_perm {l st : Strd} (p : l.Perm st) : srtQ l = srtQ st := srtQ_uniq ((srtQ_perm l).trans p) (srtQ_sorted l)
theorem spat_of {H : Hp} : ∀ zs : List V, (∀ z ∈ zs, ∃ q, SPat H z q) → Paired (SPat H) zs (zs.map (pk H)) := by
  intro zs
  induction zs with
  | nil => exact fun _ => .nil
  | cons z zs ih =>
    intro k
    obtain ⟨q, hs⟩ := k z (List.mem_cons_self ..)
    exact .cons (by rw [pk_at hs]; exact hs) (ih fun y hy => k y (List.mem_cons_of_mem _ hy))
theorem srt_pairs {H : Hp} {xs ys : List V} {st : Strd} (px : Paired (SPat H) xs st) (srt : SrtO.Srtd (ltP (pk H)) ys) (pm : ys.Perm xs) : Paired (SPat H) ys (srtQ st) := by
  have h1 : Paired (SPat H) ys (ys.map (pk H)) := spat_of ys fun z hz => let ⟨q, _, h⟩ := par_mem px (pm.mem_iff.mp hz); ⟨q, h⟩
  have e : ys.map (pk H) = srtQ st := by
    refine srtQ_uniq ?_ ?_
    · rw [← pk_map px]
      exact pm.map _
    · rw [List.pairwise_map]
      refine List.Pairwise.imp (fun {a b} h => ?_) srt
      have h' : SrtO.lexB (pk H b) (pk H a) = false := h
      unfold lexLe
      rw [h']
      rfl
  rw [← e]
  exact h1
theorem pairs_of {H : Hp} {xs : List V} {st : Strd} (px : Paired (SPat H) xs st) : ∀ y ∈ xs, ∃ t, y = V.ref t ∧ H t = some (.tup [.int (pk H y).1, .int (pk H y).2]) := fun y hy => by
  obtain ⟨q, _, h⟩ := par_mem px hy
  rw [pk_at h]
  exact h
/-- a strand as it is kept -/
def sg0 (st : Strd) : Int := ((srtQ st).headD (0, 1)).2
def asS (st : Strd) : Strd := (srtQ st).map fun q => (q.1, q.2 * sg0 st)
theorem asS_len (st : Strd) : (asS st).length = st.length := by
  unfold asS
  rw [List.length_map, (srtQ_perm st).length_eq]
theorem asS_bars (st : Strd) : ((asS st).map (·.1)).Perm (st.map (·.1)) := by
  unfold asS
  rw [List.map_map]
  exact (srtQ_perm st).map _
theorem sg0_one {st : Strd} (h : goodS st) : sg0 st = 1 ∨ sg0 st = -1 := by
  unfold sg0
  cases e : srtQ st with
  | nil =>
    have := (srtQ_perm st).length_eq
    rw [e] at this
    exact absurd (List.eq_nil_of_length_eq_zero this.symm) h.1
  | cons q r => exact h.2.2 q ((srtQ_perm st).mem_iff.mp (by rw [e]; exact List.mem_cons_self ..))
theorem asS_good {st : Strd} (h : goodS st) : goodS (asS st) := by
  refine ⟨fun e => ?_, ?_, fun q hq => ?_⟩
  · have := asS_len st
    rw [e] at this
    exact h.1 (List.eq_nil_of_length_eq_zero this.symm)
  · rw [asS_len]
    exact h.2.1
  · obtain ⟨p, hp, rfl⟩ := List.mem_map.mp hq
    have a := h.2.2 p ((srtQ_perm st).mem_iff.mp hp)
    have b := sg0_one h
    show p.2 * sg0 st = 1 ∨ p.2 * sg0 st = -1
    rcases a with a | a <;> rcases b with b | b <;> rw [a, b] <;> decide
theorem sum_perm {a b : List Int} (p : a.Perm b) : a.sum = b.sum := by
  induction p with
  | nil => rfl
  | cons x _ ih => rw [List.sum_cons, List.sum_cons, ih]
  | swap x y l => simp only [List.sum_cons]; omega
  | trans _ _ h1 h2 => rw [h1, h2]
theorem sum_mulR (c : Int) : ∀ l : List Int, (l.map (· * c)).sum = l.sum * c
  | [] => by simp
  | x :: l => by rw [List.map_cons, List.sum_cons, List.sum_cons, sum_mulR c l, Int.add_mul]
theorem net_perm {ls : List Int} {a b : Strd} (p : a.Perm b) : net ls a = net ls b := sum_perm (p.map _)
def absI (z : Int) : Int := if z < 0 then -z else z
theorem absI_nat (z : Int) : absI z = (z.natAbs : Int) := by
  unfold absI
  split <;> omega
theorem net_asS {ls : List Int} {st : Strd} (h : goodS st) : absI (net ls (asS st)) = absI (net ls st) := by
  have e : net ls (asS st) = net ls st * sg0 st := by
    rw [← net_perm (srtQ_perm st)]
    unfold net asS
    rw [List.map_map, ← sum_mulR, List.map_map]
    congr 1
    refine List.map_congr_left fun q _ => ?_
    show ls.getD q.1.toNat 0 * (q.2 * sg0 st) = ls.getD q.1.toNat 0 * q.2 * sg0 st
    rw [Int.mul_assoc]
  rw [e, absI_nat, absI_nat, Int.natAbs_mul]
  rcases sg0_one h with k | k <;> rw [k] <;> simp
/-! ### strands as data -/
def pairD (q : Int × Int) : PyData := .tuple [.int q.1, .int q.2]
def strdD (st : Strd) : PyData := .tuple (st.map pairD)
def wayD (w : List Strd) : PyData := .tuple (w.map strdD)
theorem alike_pairs : ∀ a b : Strd, PySem.W.alikeAll (a.map pairD) (b.map pairD) = true
  | [], _ => by simp [PySem.W.alikeAll]
  | _ :: _, [] => by simp [PySem.W.alikeAll]
  | x :: a, y :: b => by
    show PySem.W.alikeAll (pairD x :: a.map pairD) (pairD y :: b.map pairD) = true
    rw [PySem.W.alikeAll, alike_pairs a b]
    simp [PySem.W.alike, PySem.W.alikeAll, pairD]
theorem deep_pairs : ∀ a : Strd, PyData.depthAll (a.map pairD) ≤ 1
  | [] => by simp [PyData.depthAll]
  | x :: a => by
    have ih := deep_pairs a
    rw [List.map_cons]
    simp [PyData.depthAll, PyData.depth, pairD]
    omega
theorem strd_dp {K : PySem.W.Frag} {H : Hp} : ∀ {xs : List V} {st : Strd}, Paired (SPat H) xs st → DpAll K H xs (st.map pairD)
  | _, _, .nil => .nil
  | _, _, .cons ⟨a, e, h⟩ t => .cons (by rw [e]; exact .tup (.inl (.inl h)) (.cons (.int _) (.cons (.int _) .nil))) (strd_dp t)
def sk (H : Hp) (x : V) : Strd := match x with
  | .ref a => (match H a with
    | some (.tup xs) => xs.map (pk H)
    | _ => [])
  | _ => []
theorem sk_at {H : Hp} {v : V} {st : Strd} (h : SSat H v st) : sk H v = st := by
  obtain ⟨a, xs, rfl, h, p⟩ := h
  show (match H a with
    | some (.tup xs) => xs.map (pk H)
    | _ => []) = st
  rw [h]
  exact pk_map p
theorem sk_map {H : Hp} : ∀ {xs : List V} {way : List Strd}, Paired (SSat H) xs way → xs.map (sk H) = way
  | _, _, .nil => rfl
  | _, _, .cons h t => by rw [List.map_cons, sk_at h, sk_map t]
theorem ss_of {H : Hp} : ∀ zs : List V, (∀ z ∈ zs, ∃ st, SSat H z st) → Paired (SSat H) zs (zs.map (sk H)) := by
  intro zs
  induction zs with
  | nil => exact fun _ => .nil
  | cons z zs ih =>
    intro k
    obtain ⟨st, hs⟩ := k z (List.mem_cons_self ..)
    exact .cons (by rw [sk_at hs]; exact hs) (ih fun y hy => k y (List.mem_cons_of_mem _ hy))
theorem strd_data {K : PySem.W.Frag} {H : Hp} {v : V} {st : Strd} (h : SSat H v st) : Dp K H v (strdD st) := by
  obtain ⟨a, xs, rfl, ha, px⟩ := h
  exact .tup (.inl (.inl ha)) (strd_dp px)
/-! ### sorted(..) of a list of data that are tuples: the very order -/
theorem each_data {X : Cx} {pns : List (Addr × Obj)} {σs : St} {Hh : Hp} {s : Shared} (Iv : L2.Inv X pns σs Hh s) {k : V → PyData} : ∀ {ys : List V} {out : List Value}, Vals ys out → (∀ x ∈ ys, Dp X.K Hh x (k x)) →
    PySem.W.EachIs (fun v b => ∃ as, Reads s.heap v (k b) as) out ys
  | _, _, .nil, _ => .nil
  | y :: ys, u :: out, .cons r t, h => .cons (Dp.reads Iv (k y) y u (h y (List.mem_cons_self ..)) r) (each_data Iv t fun x hx => h x (List.mem_cons_of_mem _ hx))
def srtW (w : List Strd) : List Strd := w.mergeSort (PySem.W.dataLe false strdD)
def rSortW (K : PySem.W.Frag) : List V → Hp → VK → Prop := fun vxs Hh Qq => ∃ (a : Addr) (xs : List V) (way : List Strd), vxs = [.ref a] ∧ SqL K Hh a xs ∧ Paired (SSat Hh) xs way ∧ (∀ st ∈ way, st ≠ []) ∧
  ∀ p ys, ys.Perm xs → Hh p = none → Paired (SSat Hh) ys (srtW way) → Qq (.ref p) (upd Hh p (.lst ys))
/-- an order by data: total, and alike only what is one -/
theorem le_trans' {α : Type} (k : α → PyData) (a b c : α) (h1 : PySem.W.dataLe false k a b = true) (h2 : PySem.W.dataLe false k b c = true) : PySem.W.dataLe false k a c = true := (PySem.W.sortLe_total (PyProof.Rows.listOrd PyProof.Rows.itemOrd) false (fun x => PySem.W.keyToks (k x))).trans a b c h1 h2
theorem le_total' {α : Type} (k : α → PyData) (a b : α) : (PySem.W.dataLe false k a b || PySem.W.dataLe false k b a) = true := Bool.or_eq_true _ _ |>.mpr ((PySem.W.sortLe_total (PyProof.Rows.listOrd PyProof.Rows.itemOrd) false (fun x => PySem.W.keyToks (k x))).total a b)
theorem le_anti {α : Type} {k : α → PyData} (inj : ∀ a b, PySem.W.keyToks (k a) = PySem.W.keyToks (k b) → a = b) {a b : α} (h1 : PySem.W.dataLe false k a b = true) (h2 : PySem.W.dataLe false k b a = true) : a = b := by
  have h1' : (!(PyProof.Rows.listOrd PyProof.Rows.itemOrd).blt (PySem.W.keyToks (k b)) (PySem.W.keyToks (k a))) = true := h1
  have h2' : (!(PyProof.Rows.listOrd PyProof.Rows.itemOrd).blt (PySem.W.keyToks (k a)) (PySem.W.keyToks (k b))) = true := h2
  rw [Bool.not_eq_true'] at h1' h2'
  exact inj _ _ ((PyProof.Rows.listOrd PyProof.Rows.itemOrd).total _ _ h2' h1')
theorem sort_uniq {α : Type} {k : α → PyData} (inj : ∀ a b, PySem.W.keyToks (k a) = PySem.W.keyToks (k b) → a = b) {l m : List α} (p : l.Perm m) (hl : l.Pairwise fun a b => PySem.W.dataLe false k a b = true) : l = m.mergeSort (PySem.W.dataLe false k) :=
  List.Perm.eq_of_pairwise (fun x y _ _ h1 h2 => le_anti inj h1 h2) hl (List.pairwise_mergeSort (le_trans' k) (le_total' k) m) (p.trans (List.mergeSort_perm ..).symm)
theorem strdT_inj : ∀ {l m : Strd} {r t : List (Int ⊕ List Nat)}, PySem.W.keyToksAll (l.map pairD) ++ r = PySem.W.keyToksAll (m.map pairD) ++ t → l = m ∧ r = t
  | [], [], r, t, h => by
    simp only [List.map_nil, PySem.W.keyToksAll, List.singleton_append] at h
    exact ⟨rfl, (List.cons.inj h).2⟩
  | [], y :: m, r, t, h => by
    simp only [List.map_nil, List.map_cons, PySem.W.keyToksAll, List.singleton_append, List.cons_append] at h
    have := Sum.inl.inj (List.cons.inj h).1
    omega
  | x :: l, [], r, t, h => by
    simp only [List.map_nil, List.map_cons, PySem.W.keyToksAll, List.singleton_append, List.cons_append] at h
    have := Sum.inl.inj (List.cons.inj h).1
    omega
  | x :: l, y :: m, r, t, h => by
    simp only [List.map_cons, pairD, PySem.W.keyToksAll, PySem.W.keyToks, List.cons_append, List.append_assoc, List.nil_append] at h
    simp only [List.cons.injEq, Sum.inl.injEq, true_and] at h
    obtain ⟨h1, h2, h3⟩ := h
    obtain ⟨a, b⟩ := strdT_inj (l := l) (m := m) (r := r) (t := t) h3
    exact ⟨by rw [a, Prod.ext h1 h2], b⟩
theorem strd_toks {c e : Strd} (h : PySem.W.keyToks (strdD c) = PySem.W.keyToks (strdD e)) : c = e := by
  unfold strdD at h
  rw [PySem.W.keyToks, PySem.W.keyToks] at h
  have : PySem.W.keyToksAll (c.map pairD) ++ [] = PySem.W.keyToksAll (e.map pairD) ++ [] := by rw [List.append_nil, List.append_nil]; exact h
  exact (strdT_inj this).1
theorem srtW_perm (w : List Strd) : (srtW w).Perm w := List.mergeSort_perm ..
theorem srtW_of_perm {l m : List Strd} (p : l.Perm m) : srtW l = srtW m := sort_uniq (fun _ _ => strd_toks) ((srtW_perm l).trans p) (List.pairwise_mergeSort (le_trans' strdD) (le_total' strdD) l)
theorem map_sortW {k : V → PyData} {f : V → Strd} (h : ∀ x, k x = strdD (f x)) (xs : List V) : (xs.mergeSort (PySem.W.dataLe false k)).map f = srtW (xs.map f) := by
  refine sort_uniq (fun _ _ => strd_toks) ((List.mergeSort_perm ..).map f) ?_
  rw [List.pairwise_map]
  refine (List.pairwise_mergeSort (le_trans' k) (le_total' k) xs).imp fun {a b} z => ?_
  have e : PySem.W.dataLe false k a b = PySem.W.dataLe false strdD (f a) (f b) := by
    show (!(PyProof.Rows.listOrd PyProof.Rows.itemOrd).blt (PySem.W.keyToks (k b)) (PySem.W.keyToks (k a))) = (!(PyProof.Rows.listOrd PyProof.Rows.itemOrd).blt (PySem.W.keyToks (strdD (f b))) (PySem.W.keyToks (strdD (f a))))
    rw [h, h]
  rw [← e]
  exact z
theorem cr_sortW {X : Cx} (hu : X.A.units + 64 < cLine) : CallR X (.builtin "sorted") (rSortW X.K) := by
  rintro pns s σs Hh vxs uvs Qq Iv rr ⟨a, xs, way, rfl, hs, px, hne, qq⟩
  obtain ⟨its, rv, hl, hsz⟩ := Iv.list hs
  rw [Vals.ref1 rr]
  have each : ∀ x ∈ xs, ∃ st, st ≠ [] ∧ SSat Hh x st := fun x hx => by
    obtain ⟨st, m, h⟩ := par_mem px hx
    exact ⟨st, hne st m, h⟩
  refine PySem.W.sorted_data (β := V) (R := fun u x => RelV x u) (enc := fun x => strdD (sk Hh x)) hl.isList (vals_each rv) (each_data Iv rv fun x hx => let ⟨st, _, h⟩ := each x hx; by rw [sk_at h]; exact strd_data h) (PySem.W.AllAlike.of fun b b' => by
    show PySem.W.alike (strdD _) (strdD _) = true
    unfold strdD
    rw [PySem.W.alike]
    exact alike_pairs _ _) (.inl fun d hd => ?_) hsz (fun x _ => ?_) fun out ho heach => ?_
  · obtain ⟨x, hxm, rfl⟩ := List.mem_map.mp hd
    obtain ⟨st, ne, h⟩ := each x hxm
    rw [sk_at h]
    cases st with
    | nil => exact absurd rfl ne
    | cons z zs => exact ⟨pairD z, zs.map pairD, rfl⟩
  · have := deep_pairs (sk Hh x)
    simp only [strdD, PyData.depth]
    omega
  · have hpm : (xs.mergeSort (PySem.W.dataLe false fun x => strdD (sk Hh x))).Perm xs := List.mergeSort_perm ..
    obtain ⟨n, hnn⟩ := PyProof.Rows.sortedAll_at s.heap its out.toArray
    have nf := Iv.hok.fresh (Nat.le_succ s.heap.objs.size)
    refine ⟨.ref _, upd Hh (s.heap.objs.size + 1) (.lst (xs.mergeSort (PySem.W.dataLe false fun x => strdD (sk Hh x)))), Iv.laid (t' := s.toks) (fun _ _ => PyProof.Rows.sortedAll_old) (Nat.le_succ _) ⟨by rw [hpm.length_eq]; exact hsz, out, n, each_vals heach, hnn⟩, rfl, qq _ _ hpm nf ?_⟩
    have h1 := ss_of (xs.mergeSort (PySem.W.dataLe false fun x => strdD (sk Hh x))) fun z hz => let ⟨st, _, h⟩ := each z (hpm.mem_iff.mp hz); ⟨st, h⟩
    rw [map_sortW (f := sk Hh) (fun _ => rfl), sk_map px] at h1
    exact h1
end K
namespace Rg
open PySem PySem.Spec PyProof.Rows L2
/-! ### set(xs) of a list of ints; sorted and len of a set of ints, any number of them -/
/-- an empty set, as the call makes it -/
abbrev mtSet (w : World) : Obj := { cls := .type "set", dict := none, data := .set #[] 0 (.fresh 0 0 (!w.params.followText "set-order")) }
section
variable {P : Program} {w : World} {B : Around} {E : Value → Shared → Prop} {z : Shared}
/-- an empty set is filled from a list of ints -/
theorem fill_set {a l : Addr} {arr : Array Value} (zs : List Int) {R : PySem.Fin → Shared → Prop} (calm : B.handled = none) (ga : z.heap.get? a = some (mtSet w)) (gl : z.heap.IsList l arr) (al : a ≠ l) (iz : IntsAre arr.toList zs) (few : zs.length + 1 < scanBound)
    (fin : ∀ (g : Heap) (tk m : Nat), SetR w g a (fun j => decide (j ∈ zs)) m → m ≤ zs.length → (∀ b u, b ≠ a → z.heap.get? b = some u → g.get? b = some u) → R (.done (.ret .none)) { z with heap := g, toks := tk }) :
    wpAny (model P w) B (Builtin.«set.__init__» ⟨[.ref a, .ref l], []⟩) R E z := by
  have same : arr.size = zs.length := by have q := iz.length; rwa [Array.length_toList] at q
  have la := Heap.lt_size ga
  have kept : ∀ {b : Addr} {u v : Obj}, z.heap.get? b = some u → (z.heap.push v).get? b = some u := fun q => Heap.get?_push_of_some _ q
  obtain ⟨⟨oc, od, ob, os⟩, gob, ec, nl, eb⟩ := id gl
  cases ec
  cases eb
  have ll := Heap.lt_size gob
  have y1 := PySem.F.sub_list_set
  have y2 := PySem.F.sub_list_frozenset
  have y3 : (Value.type "list" == Value.type "dict") = false := by decide
  have y4 := sub_set_self
  have ty : z.TypeIs (.ref a) "set" := ⟨_, ga, rfl⟩
  unfold Builtin.«set.__init__»
  unfold noKeywords
  unfold Builtin.Frozenset.updateFrom
  generalize hold : pyIter = it
  wp_walk
  subst hold
  refine wpAny_pyIter_list gl (wpAny_bind (wpAny_runValue ?_))
  have W := (Walks.list (prog := P) (w := w) (A := B.in1) (by simp [calm]) z.heap.objs.size l (Nat.ne_of_lt ll) arr).toS
  refine set_update_ints W a (by simp only [List.mem_cons, List.not_mem_nil, or_false, not_or]; exact ⟨Nat.ne_of_lt la, al⟩) zs same few (fun i v hv => ?_) (arr.size - 0) 0 _ (by omega) (Nat.zero_le _) ?_ ⟨0, Nat.le_refl 0, ?_⟩ fun t m mv ml R1 => ?_
  · have lt : i < zs.length := same ▸ (Array.getElem?_eq_some_iff.mp hv).1
    obtain ⟨t, q⟩ := PyProof.Rows.IntsAre.int_at iz i v (by rw [Array.getElem?_toList]; exact hv)
    exact ⟨zs[i], t, List.getElem?_eq_getElem lt, by rw [q, List.getD_eq_getElem?_getD, List.getElem?_eq_getElem lt] <;> rfl⟩
  · exact ⟨⟨_, Heap.get?_push_size _ rfl, rfl, rfl⟩, gl.push _⟩
  · exact setR_new_at (Heap.get?_push_of_some _ ga)
  · have g1 : t.gens = z.gens := mv.gens
    have g2 : t.drawn = z.drawn := mv.drawn
    have g3 : t.os = z.os := mv.os
    have same3 : t = { z with heap := t.heap, toks := t.toks } := by
      obtain ⟨t1, t2, t3, t4, t5⟩ := t
      simp only at g1 g2 g3
      subst g1 g2 g3
      rfl
    rw [same3]
    exact wpAny_pure (wpAny_pure (fin _ _ m R1 (same ▸ ml) fun b u ba gb => mv.heap b u (by simp only [List.mem_cons, List.not_mem_nil, or_false, not_or]; exact ⟨ba, Nat.ne_of_lt (Heap.lt_size gb)⟩) (kept gb)))
theorem set_of_list {A : Around} {l : Addr} {arr : Array Value} (zs : List Int) {Q : Value → Shared → Prop} (calm : A.handled = none) (gl : z.heap.IsList l arr) (iz : IntsAre arr.toList zs) (few : zs.length + 1 < scanBound)
    (fin : ∀ (g : Heap) (tk m : Nat), SetR w g z.heap.objs.size (fun j => decide (j ∈ zs)) m → m ≤ zs.length → (∀ b u, z.heap.get? b = some u → g.get? b = some u) → Q (.ref z.heap.objs.size) { z with heap := g, toks := tk }) : wpAny (model P w) A (call (.type "set") [.ref l]) Q E z := by
  have CS := PySem.F.called_set
  obtain ⟨k0, ks, ms⟩ := CS.mro
  have m1 := CS.made
  have m2 := CS.sub
  have m3 := CS.notType
  have m4 := CS.canCreate
  have m5 := PySem.F.typeCall_set_1 (.ref l)
  have m6 := CS.init.lookup
  have m7 := CS.init.bind (.ref z.heap.objs.size)
  have ll : l < z.heap.objs.size := by
    obtain ⟨o, go, _⟩ := gl
    exact Heap.lt_size go
  have new : (z.heap.push (mtSet w)).get? z.heap.objs.size = some (mtSet w) := Heap.get?_push_size _ rfl
  refine wpAny_call (codeAny_of_tree (show wpAny _ _ (callAny (.type "set") _) _ _ _ from wpAny_pure ⟨Code.quiet_builtin _ (by decide +kernel), codeAny_builtin PySem.F.entry_type_call ?_⟩))
  rw [Around.under_plain (weight_type_call_type "set" [.ref l] []) rfl]
  (repeat any_goals first | assumption | wp_step)
  refine codeAny_mono (code_set_led1 (.ref l) (E := E) (Q₁ := fun y t => y = .ref z.heap.objs.size ∧ t = { z with heap := z.heap.push (mtSet w) }) ⟨rfl, rfl⟩) fun r t hr => ?_
  rcases r with e | f
  · exact hr
  rcases f with _ | _ | _ | y
  all_goals first | (exact hr.elim; done) | skip
  obtain ⟨rfl, rfl⟩ := hr
  (repeat any_goals first | assumption | wp_step)
  refine codeAny_mono (codeAny_call_builtin (R := wants (fun y t => y = .none ∧ ∃ g tk m, t = { z with heap := g, toks := tk } ∧ SetR w g z.heap.objs.size (fun j => decide (j ∈ zs)) m ∧ m ≤ zs.length ∧ ∀ b u, z.heap.get? b = some u → g.get? b = some u) E) CS.init.plain PySem.F.entry_set_init (check_set_init_1 ⟨_, new, rfl⟩ ?_)) fun r t hr => ?_
  · exact fill_set (z := { z with heap := z.heap.push (mtSet w) }) zs (by simp [calm]) new (gl.push _) (Nat.ne_of_gt ll) iz few fun g tk m R1 ml k => ⟨rfl, g, tk, m, rfl, R1, ml, fun b u gb => k b u (Nat.ne_of_lt (Heap.lt_size gb)) (Heap.get?_push_of_some _ gb)⟩
  rcases r with e | f
  · exact hr
  rcases f with _ | _ | _ | y
  all_goals first | (exact hr.elim; done) | skip
  obtain ⟨rfl, g, tk, m, rfl, R1, ml, k⟩ := hr
  (repeat any_goals first | assumption | wp_step)
  exact fin g tk m R1 ml k
end

section
variable {P : Program} {w : World} {B : Around} {E : Value → Shared → Prop} {z : Shared}
theorem sort_ofSet {a : Addr} {S : Int → Bool} {n : Nat} {Q : Value → Shared → Prop} (R : SetR w z.heap a S n) (calm : B.handled = none) (few : n ≤ 4000)
    (fin : ∀ t p (out : List Value) (c : Nat) (zs : List Int), (∀ b u, z.heap.get? b = some u → t.heap.get? b = some u) → t.gens = z.gens → t.os = z.os → z.heap.objs.size ≤ p → t.heap.get? p = some (seqObj "list" out.toArray c) →
      IntsAre out zs → zs.Pairwise (· < ·) → (∀ k, k ∈ zs ↔ S k = true) → zs.length = n → Q (.ref p) t) : wpAny (model P w) B (call (.builtin "sorted") [.ref a]) Q E z := by
  rcases R with ⟨ob, es, ep, tb, gob, ex, eb, good, once, mem, small, fits, size, ris, led⟩
  refine Calls.call_function_entry kind_sorted plain_sorted entry_sorted (args_sorted1 (.ref a)) ?_
  unfold Builtin.«sorted»
  refine wpAny_bind (m := checkCount "sorted" 1 1 _) (wpAny_pure (wpAny_bind (collect_set (A := B.in1) calm ⟨ob, gob, ex.1, eb⟩ fits small ris led fun t us keep le tg to perm => ?_)))
  have un : us.length = n := by rw [perm.length_eq, List.length_map, Array.length_toList, size]
  have uz : us.length ≤ sizeLine := un ▸ Nat.le_trans few (by decide)
  have nums : IntsAre us (us.map SrtO.iv) := SrtO.ints_iv fun v hv => by
    obtain ⟨q, hq, rfl⟩ := List.mem_map.mp (perm.mem_iff.mp hv)
    obtain ⟨x, tk, ev, _⟩ := good q hq
    exact ⟨x, tk, ev⟩
  have keys : (us.map SrtO.iv).Perm (es.toList.map keyOf) := by
    refine (perm.map SrtO.iv).trans (List.Perm.of_eq ?_)
    rw [List.map_map]
    exact List.map_congr_left fun q _ => by
      obtain ⟨_, v⟩ := q
      cases v <;> rfl
  have new : (t.heap.push (seqObj "list" us.toArray 0)).get? t.heap.objs.size = some (seqObj "list" us.toArray 0) := Heap.get?_push_size _ rfl
  refine wpAny_bind (wpAny_newList (wpAny_bind (wpAny_holding (wpAny_call_entry slot_list_sort ⟨_, new, rfl⟩ entry_list_sort (SrtO.list_sort_ord SrtO.swo_int new uz (fun two => SrtO.ints_sortable nums two) fun out od st => ⟨_, rfl, ?_⟩) (args_list_sort _)))) uz)
  obtain ⟨i1, i2, i3⟩ := SrtO.ints_out nums od st
  obtain ⟨c, gc⟩ := PyProof.Rows.sortedHeap_at (vs := us) (out := out.toArray) new
  have all := i2.trans keys
  refine wpAny_pure ⟨_, rfl, fin _ t.heap.objs.size out c (out.map SrtO.iv) (fun b u gb => ?_) tg to le gc i1 (lt_of_le_nodup _ i3 (all.nodup_iff.mpr once)) (fun k => by rw [all.mem_iff]; exact (mem k).symm) (by rw [all.length_eq, List.length_map, Array.length_toList, size])⟩
  have old := Heap.lt_size (keep b u gb)
  exact (PyProof.Rows.sortedHeap_old (Nat.ne_of_lt old) (by rw [size_push']; exact Nat.lt_succ_of_lt old)).trans (Heap.get?_push_of_some _ (keep b u gb))
end
/-- set(xs), xs a list of ints -/
def rSetL (w : World) (K : PySem.W.Frag) : List V → Hp → VK → Prop := fun xs Hh Qq => ∃ (a : Addr) (zs : List Int), xs = [V.ref a] ∧ SqL K Hh a (zs.map V.int) ∧ zs.length ≤ 4000 ∧
  ∀ (p : Addr) (ks : List Int), ks.Nodup → (∀ k, k ∈ ks ↔ k ∈ zs) → ks.length ≤ zs.length → Hh p = none → Qq (.ref p) (upd Hh p (SetO w p (fun j => decide (j ∈ zs)) ks.length))
/-- sorted(found) of a set of ints -/
def rSortedSetN (w : World) : List V → Hp → VK → Prop := fun xs Hh Qq => ∃ (a : Addr) (S : Int → Bool) (n : Nat), xs = [V.ref a] ∧ Hh a = some (SetO w a S n) ∧ n ≤ 4000 ∧
  ∀ (zs : List Int) (p : Addr), zs.Pairwise (· < ·) → (∀ k : Int, k ∈ zs ↔ S k = true) → zs.length = n → Hh p = none → Qq (.ref p) (upd Hh p (.lst (zs.map V.int)))
/-- len(found) of a set of ints -/
def rLenSetO (w : World) : List V → Hp → VK → Prop := fun xs Hh Qq => ∃ (a : Addr) (S : Int → Bool) (n : Nat), xs = [V.ref a] ∧ Hh a = some (SetO w a S n) ∧ n ≤ 4000 ∧ Qq (.int n) Hh
section
variable {X : Cx}
theorem cr_setL (calm : X.calm = true) : CallR X (.type "set") (rSetL X.w X.K) := by
  rintro pns t σs Hh xs us Qq Iv rr ⟨a, zs, rfl, seq, few, q⟩
  obtain ⟨its, vals, lst, _⟩ := Iv.list seq
  rw [Vals.ref1 rr]
  refine set_of_list zs (Iv.ok.hd calm) lst.isList (by simpa using vals.ints) (by unfold scanBound; omega) fun g tk m R1 ml keep => ?_
  have free := Iv.hok.fresh (Nat.le_refl t.heap.objs.size)
  obtain ⟨ob, es, ep, tb, gob, ex, eb, good, once, mem, small, fits, size, ris, led⟩ := id R1
  have lk : (es.toList.map keyOf).length = m := by rw [List.length_map, Array.length_toList, size]
  have done := q t.heap.objs.size (es.toList.map keyOf) once (fun j => (mem j).symm.trans decide_eq_true_iff) (by rw [lk]; exact ml) free
  rw [lk] at done
  exact ⟨.ref _, _, Iv.laid (t' := tk) (fun b u gb => keep b u gb) (Nat.le_refl _) (setO_new R1), rfl, done⟩
theorem cr_sortedSetN (calm : X.calm = true) : CallR X (.builtin "sorted") (rSortedSetN X.w) := by
  rintro pns t σs Hh xs us Qq Iv rr ⟨a, S, n, rfl, ha, few, q⟩
  rw [Vals.ref1 rr]
  refine sort_ofSet (setO_get Iv ha) (Iv.ok.hd calm) few fun t2 p out c zs keep tg to le gp nums asc mem size => ?_
  have free : Hh p = none := Iv.hok.fresh le
  have fit : (zs.map V.int).length ≤ sizeLine := by rw [List.length_map, size]; exact Nat.le_trans few (by decide)
  have I2 : L2.Inv X pns σs (upd Hh p (.lst (zs.map V.int))) { t with heap := t2.heap, gens := t2.gens, drawn := t2.drawn, toks := t2.toks } := Iv.call (ch := []) (Un.laid keep le free) (Iv.hok.laid keep le ⟨fit, out, c, vals_of_ints nums, gp⟩) (by rw [tg]; exact Iv.bare) (fun _ x => nomatch x)
  obtain ⟨t21, t22, t23, t24, t25⟩ := t2
  cases to
  exact ⟨.ref p, _, I2, rfl, q zs p asc mem size free⟩
theorem cr_lenSetO : CallR X (.builtin "len") (rLenSetO X.w) := by
  rintro pns t σs Hh xs us Qq Iv rr ⟨a, S, n, rfl, ha, few, q⟩
  rw [Vals.ref1 rr]
  obtain ⟨ob, es, ep, tb, gob, ex, eb, good, once, mem, small, fits, size, ris, led⟩ := setO_get Iv ha
  exact call_len_set gob ex eb fits (by rw [size]; omega) ⟨.int n, Hh, Iv.tok _, ⟨_, by rw [size]⟩, q⟩
end
end Rg
namespace Rg
open PySem PySem.Spec PyProof.Rows L2
/-! ### sorted(t), t a tuple of pairs of ints -/
def rSortedTP (K : PySem.W.Frag) : List V → Hp → VK → Prop := fun xs Hh Qq => ∃ (a : Addr) (ys : List V) (k : V → Int × Int), xs = [V.ref a] ∧ SqT K Hh a ys ∧ (∀ y ∈ ys, ∃ t, y = V.ref t ∧ Hh t = some (.tup [.int (k y).1, .int (k y).2])) ∧
  ∀ (zs : List V) (p : Addr), SrtO.Srtd (ltP k) zs → SrtO.Stb (ltP k) zs ys → Hh p = none → Qq (.ref p) (upd Hh p (.lst zs))
theorem cr_sortedTP {X : Cx} : CallR X (.builtin "sorted") (rSortedTP X.K) := by
  rintro pns s σs Hh xs us Qq Iv rr ⟨a, ys, k, rfl, seq, pairs, q⟩
  obtain ⟨vls, vals, tp, fit⟩ := Iv.tuple seq
  rw [Vals.ref1 rr]
  obtain ⟨back, refs⟩ := refs_back vals fun x m => let ⟨t, e, _⟩ := pairs x m; ⟨t, e⟩
  have two : ∀ {h₁ : Heap}, (∀ b oj, s.heap.get? b = some oj → h₁.get? b = some oj) → ∀ v ∈ vls, Srt.IsPair h₁ v (k (backV v)).1 (k (backV v)).2 := fun keep v m => by
    obtain ⟨t, rfl⟩ := refs v m
    obtain ⟨t', e, at'⟩ := pairs (V.ref t) (by rw [back]; exact List.mem_map.mpr ⟨_, m, rfl⟩)
    cases e
    obtain ⟨_, its, r2, ob, go, cl, n, dat⟩ := Iv.hok _ _ at'
    obtain ⟨u1, u2, rfl, ⟨t1, rfl⟩, t2, rfl⟩ := vals2 r2
    exact ⟨t, ob, t1, t2, n, rfl, keep _ _ go, cl, dat⟩
  refine sorted_tup (SrtO.swo_lex fun u => k (backV u)) (isTuple_of tp) (by rw [← vals.length]; exact fit) (fun h2 h₁ a' new keep => SrtO.pairs_sortableO (by omega) (two fun b oj g => (keep b oj g).2) fun o g c => ?_) fun out ord st => ?_
  · rw [show h₁.get? a' = _ from new] at g
    cases g
    exact absurd (Value.type.inj c) (by decide)
  · have outs : ∀ u ∈ out, ∃ b, u = Value.ref b := fun u m => refs u (st.perm.mem_iff.mp m)
    obtain ⟨ep, gp⟩ := PyProof.Rows.sortedAll_at s.heap vls out.toArray
    have stb : SrtO.Stb (ltP k) (out.map backV) ys := by
      rw [back]
      exact SrtO.Stb.map (ltP_swo k) backV st
    exact ⟨.ref _, upd Hh (s.heap.objs.size + 1) (.lst (out.map backV)), Iv.laid (t' := s.toks) (fun _ _ => PyProof.Rows.sortedAll_old) (Nat.le_succ _) ⟨by rw [stb.len]; exact fit, out, ep, vals_back outs, gp⟩, rfl, q _ _ (SrtO.srtd_map ord) stb (Iv.hok.fresh (Nat.le_succ _))⟩
end Rg
namespace K
open PySem L2 Rg LamX
open Evl (pss_cut)
section
variable {P : Program} {w : World} {K : PySem.W.Frag} {mg : Str → Option Value} {base : Heap}
/-! ### as_strand -/
def spAsS : Sp := fun vs H Q _ => ∃ (v : V) (st : Strd), vs = [v] ∧ SSat H v st ∧ goodS st ∧ ∀ v' H', Same H H' → SSat H' v' (asS st) → Q v' H'
abbrev nAsS : List Str := ["pairs", "rows", "bar", "sign"]
theorem scAsS : FnScope nAsS ["pairs"] (defScope sAsStrand) := ⟨rfl, rfl, rfl, by decide +kernel, rfl, by decide +kernel, by decide +kernel⟩
theorem ok_asS {f : Addr} {fd : FuncData} (F : Fun K "as_strand" "as_strand" sAsStrand f fd) (T : Bi mg) : FnOk P w K mg base CX0 1 f fd ["pairs"] spAsS := by
  refine F.ok scAsS (fun vs H Q E h => ?_) (fun cdv A outer s H vs Q E hr h => ?_)
  · obtain ⟨v, st, rfl, _⟩ := h
    rfl
  · have nd := scAsS.nd
    refine ⟨_, pss_cons (ps_set (i := 1) nd rfl (Or.inr rfl) (pe_callB cr_sortedTP (by rfl) T.sorted (by decide +kernel) (pa_cons (pv 0) pa_nil)))
      (pss_one (ps_ret (pe_callTy call_tuple_of (by rfl) T.tuple (by decide +kernel) (pa_cons (pe_lc (own := [("bar", 2), ("sign", 3)]) (g := gTup K 2 (gCons (gName 2) (gCons (gName 3) gNil))) (tt := tYes) (te := tTup (tCons (tVar 2) (tCons (tOp (rI CMul fun i j => .int (i * j)) (tVar 3) (tOp (rIxT K) (tOp (rIxL K) (tVar 1) (tC (.int 0))) (tC (.int 1)))) tNil))) rfl nd (pi_list (pv 1))
        (blkOk_by (N := nAsS) (sc := defScope sAsStrand) (by decide +kernel)) (fun _ _ _ _ _ => pg_tup rfl (pgs_cons (pg_name (i := 2) nd rfl (Or.inl rfl)) (pgs_cons (pg_name (i := 3) nd rfl (Or.inl rfl)) pgs_nil))) (fun _ _ _ _ _ => pts_nil)
        (fun _ _ _ _ _ => pe_tup (pa_cons (pv 2) (pa_cons (pe_op op_mul (pv 3) (pe_ix (r := rIxT K) ix_tup (pe_ix (r := rIxL K) ix_list (pv 1) pe_int (fun _ _ => rfl)) pe_int (fun _ _ => rfl))) pa_nil)))) pa_nil)))), ?_⟩
    obtain ⟨v, st, rfl, ⟨a, xs, rfl, ha, px⟩, gs, k⟩ := h
    have l8 := gs.2.1
    refine ⟨_, rfl, a, xs, pk H, rfl, .inl (.inl ha), pairs_of px, fun zs p srt stb hp => ?_⟩
    have pz0 := srt_pairs px srt stb.perm
    have s1 : Same H (upd H p (.lst zs)) := (Same.refl H).new hp
    have hp1 : upd H p (.lst zs) p = some (.lst zs) := upd_same
    have pz := par_imp (fun _ _ z => SPat.same z s1) pz0
    generalize upd H p (.lst zs) = H1 at s1 hp1 pz ⊢
    have zl : zs.length = st.length := by rw [par_len pz, (srtQ_perm st).length_eq]
    have ql : (srtQ st).length = st.length := (srtQ_perm st).length_eq
    have z1 : 0 < zs.length := by
      have := List.length_pos_iff.mpr gs.1
      omega
    obtain ⟨y0, hy0⟩ : ∃ y0, zs[0]? = some y0 := ⟨_, List.getElem?_eq_getElem z1⟩
    obtain ⟨q0, hq0, c, rfl, hc⟩ := par_get pz hy0
    have es : sg0 st = q0.2 := by
      unfold sg0
      cases e : srtQ st with
      | nil => rw [e] at hq0; cases hq0
      | cons u r => rw [e] at hq0; cases hq0; rfl
    refine ⟨_, rfl, p, rfl, ⟨_, SqL.of hp1⟩, fun D hD => ?_⟩
    refine lc_list (K := K) (a := p) (xs := zs) (fun j H' => Same H1 H' ∧ ∃ us, H' D = some (.lst us) ∧ Paired (SPat H') us ((asS st).take j)) ⟨(Same.refl H1).new hD, [], upd_same, .nil⟩ (fun j H' _ r => r.1.seq (SqL.of hp1)) ?_ ?_
    · rintro j y H' hj ⟨s2, us, h2, pu⟩
      have hjl : j < zs.length := (List.getElem?_eq_some_iff.mp hj).1
      obtain ⟨q, hq, b, rfl, hb⟩ := par_get pz hj
      have hqs := gs.2.2 q ((srtQ_perm st).mem_iff.mp (List.mem_of_getElem? hq))
      have hq0s := gs.2.2 q0 ((srtQ_perm st).mem_iff.mp (List.mem_of_getElem? hq0))
      have ha' : (asS st)[j]? = some (q.1, q.2 * q0.2) := by
        unfold asS
        rw [List.getElem?_map, hq, es]
        rfl
      refine ⟨b, _, rfl, .inl (.inl (s2 _ _ hb)), rfl, ⟨_, _, rfl, _, _, rfl, rfl, rfl, _, rfl, _, rfl, _, rfl, p, _, _, _, rfl, rfl, SqL.of (s2 _ _ hp1), at_of (j := 0) rfl hy0, c, _, _, _, rfl, rfl, .inl (.inl (s2 _ _ hc)), (rfl : atI [V.int q0.1, V.int q0.2] 1 = some (.int q0.2)), _, _, rfl, rfl, .inr ⟨?_, ?_⟩, (by show 2 ≤ sizeLine; decide), fun t nt => ⟨us, ?_, ?_, (s2.new nt).mut hD, _, upd_same, ?_⟩⟩⟩
      · omega
      · omega
      · rw [upd_ne (ne_of_none h2 nt)]
        exact h2
      · rw [par_len pu, List.length_take]
        exact sm (by omega)
      · have h2t : upd H' t (.tup [.int q.1, .int (q.2 * q0.2)]) D = some (.lst us) := by
          rw [upd_ne (ne_of_none h2 nt)]
          exact h2
        have sp : SPat (upd H' t (.tup [.int q.1, .int (q.2 * q0.2)])) (.ref t) (q.1, q.2 * q0.2) := ⟨t, rfl, upd_same⟩
        rw [← take_snoc ha']
        exact par_app (par_imp (fun _ _ z => (z.same ((Same.refl H').new nt)).mut h2t) pu) (.cons (sp.mut h2t) .nil)
    rintro H2 ⟨s2, us, h2, pu⟩
    rw [show zs.length = (asS st).length by rw [asS_len, zl], List.take_length] at pu
    refine ⟨D, _, rfl, .inl ⟨SqL.of h2, fun t nt => ?_⟩⟩
    exact k _ _ ((s1.trans s2).new nt) ⟨t, us, rfl, upd_same, par_imp (fun _ _ z => z.same ((Same.refl H2).new nt)) pu⟩
end
structure LineC (K : PySem.W.Frag) (mg : Str → Option Value) (C : Addr) : Prop where
  cl : Cls K C
  nS : NoAttr K C "strands"
  nL : NoAttr K C "lots"
  nM : NoAttr K C "many"
  g : mg "LineUp" = some (.ref C)
def rTupOf (K : PySem.W.Frag) : List V → Hp → VK → Prop := fun xs H Q => ∃ p ys, xs = [V.ref p] ∧ ((SqL K H p ys ∧ ∀ l, H l = none → Q (.ref l) (upd H l (.tup ys))) ∨ SqT K H p ys ∧ Q (.ref p) H)
/-- a line-up: its strands, its lots, how many bars -/
def LotT (H : Hp) (v : V) (st : Strd) : Prop := ∃ a, v = .ref a ∧ H a = some (.tup ((st.map (·.1)).map V.int))
def LineF (C : Addr) (H : Hp) (r : Addr) (w : List Strd) : Prop := ∃ (dx t l : Addr) (xs : List V) (n : Int), H r = some (.ins C dx [("strands", .ref t), ("lots", .ref l), ("many", .int n)]) ∧ n = ((w.map fun st => (st.length : Int)).sum) ∧ SWat H (.ref t) w ∧ H l = some (.tup xs) ∧ Paired (LotT H) xs w
theorem LotT.same {H H' : Hp} {v : V} {st : Strd} (h : LotT H v st) (s : Same H H') : LotT H' v st := let ⟨a, e, z⟩ := h; ⟨a, e, s _ _ z⟩
theorem LotT.mut {H : Hp} {D : Addr} {us ws : List V} {v : V} {st : Strd} (h : LotT H v st) (hD : H D = some (.lst us)) : LotT (upd H D (.lst ws)) v st := by
  obtain ⟨a, e, z⟩ := h
  exact ⟨a, e, by rw [upd_ne fun k => by rw [k, hD] at z; cases z]; exact z⟩
theorem LotT.off {H : Hp} {r C dx : Addr} {fs : List (Str × V)} {o : HO} {v : V} {st : Strd} (h : LotT H v st) (hr : H r = some (.ins C dx fs)) : LotT (upd H r o) v st := by
  obtain ⟨a, e, z⟩ := h
  exact ⟨a, e, by rw [upd_ne fun k => by rw [k, hr] at z; cases z]; exact z⟩
theorem LotT.ext {H H' : Hp} {v : V} {st : Strd} (h : LotT H v st) (s : ExtN H H') : LotT H' v st := let ⟨a, e, z⟩ := h; ⟨a, e, s _ _ z (fun _ q => nomatch q)⟩
theorem SPat.ext {H H' : Hp} {v : V} {q : Int × Int} (h : SPat H v q) (s : ExtN H H') : SPat H' v q := let ⟨a, e, z⟩ := h; ⟨a, e, s _ _ z (fun _ q => nomatch q)⟩
theorem SSat.ext {H H' : Hp} {v : V} {q : Strd} (h : SSat H v q) (s : ExtN H H') : SSat H' v q := let ⟨a, xs, e, z, p⟩ := h; ⟨a, xs, e, s _ _ z (fun _ q => nomatch q), par_imp (fun _ _ k => k.ext s) p⟩
theorem SWat.ext {H H' : Hp} {v : V} {q : List Strd} (h : SWat H v q) (s : ExtN H H') : SWat H' v q := let ⟨a, xs, e, z, p⟩ := h; ⟨a, xs, e, s _ _ z (fun _ q => nomatch q), par_imp (fun _ _ k => k.ext s) p⟩
theorem LineF.ext {C : Addr} {H H' : Hp} {r : Addr} {w : List Strd} (h : LineF C H r w) (s : ExtN H H') : LineF C H' r w := by
  obtain ⟨dx, t, l, xs, n, h1, h2, h3, h4, h5⟩ := h
  exact ⟨dx, t, l, xs, n, s _ _ h1 (fun _ q => nomatch q), h2, h3.ext s, s _ _ h4 (fun _ q => nomatch q), par_imp (fun _ _ k => k.ext s) h5⟩
theorem LineF.same {C : Addr} {H H' : Hp} {r : Addr} {w : List Strd} (h : LineF C H r w) (s : Same H H') : LineF C H' r w := h.ext (ExtN.of s)
def dueW (way : List Strd) : List Strd := srtW (way.map asS)
theorem lst_fv {H : Hp} {v : V} {st : Strd} (h : LSt H v st) (l8 : st.length ≤ 8) : FV H true 2 v (strdD st) := by
  obtain ⟨a, xs, rfl, ha, px⟩ := h
  have xl := par_len px
  refine .inr ⟨a, xs, st.map pairD, rfl, .inr ⟨rfl, ha⟩, rfl, by omega, ?_⟩
  clear ha xl l8
  induction px with
  | nil => exact .nil
  | cons h _ ih =>
    obtain ⟨b, rfl, hb⟩ := h
    exact .cons (FV.tup hb (by show 2 ≤ 1000; decide) (.cons (FV.int _) (.cons (FV.int _) .nil))) ih
theorem fv_pairs {H : Hp} : ∀ {xs : List V} {st : Strd}, Paired (FV H false 1) xs (st.map pairD) → Paired (SPat H) xs st
  | _, [], .nil => .nil
  | _, q :: st, .cons h t => by
    refine .cons ?_ (fv_pairs t)
    rcases h with (⟨_, _, z⟩ | ⟨_, z⟩ | ⟨_, _, z⟩) | ⟨a, ys, es, rfl, ha, e, l, p⟩
    · cases z
    · cases z
    · cases z
    · cases e
      rcases ha with ha | ⟨z, _⟩
      · cases p with
        | cons a1 p => cases p with
          | cons a2 p =>
            cases p
            rcases a1 with ⟨i, rfl, e1⟩ | ⟨_, e1⟩ | ⟨_, _, e1⟩
            · cases e1
              rcases a2 with ⟨j, rfl, e2⟩ | ⟨_, e2⟩ | ⟨_, _, e2⟩
              · cases e2
                exact ⟨a, rfl, ha⟩
              · cases e2
              · cases e2
            · cases e1
            · cases e1
      · cases z
theorem fv_ss {H : Hp} {v : V} {st : Strd} (h : FV H false 2 v (strdD st)) : SSat H v st := by
  rcases h with (⟨_, _, z⟩ | ⟨_, z⟩ | ⟨_, _, z⟩) | ⟨a, ys, es, rfl, ha, e, l, p⟩
  · cases z
  · cases z
  · cases z
  · cases e
    rcases ha with ha | ⟨z, _⟩
    · exact ⟨a, ys, rfl, ha, fv_pairs p⟩
    · cases z
theorem SPat.off {H : Hp} {r C dx : Addr} {fs : List (Str × V)} {o : HO} {v : V} {q : Int × Int} (h : SPat H v q) (hr : H r = some (.ins C dx fs)) : SPat (upd H r o) v q := by
  obtain ⟨a, e, z⟩ := h
  exact ⟨a, e, by rw [upd_ne fun k => by rw [k, hr] at z; cases z]; exact z⟩
theorem SSat.off {H : Hp} {r C dx : Addr} {fs : List (Str × V)} {o : HO} {v : V} {q : Strd} (h : SSat H v q) (hr : H r = some (.ins C dx fs)) : SSat (upd H r o) v q := by
  obtain ⟨a, xs, e, z, p⟩ := h
  exact ⟨a, xs, e, by rw [upd_ne fun k => by rw [k, hr] at z; cases z]; exact z, par_imp (fun _ _ k => k.off hr) p⟩
end K
namespace K
open PySem L2 Rg LamX
open Evl (pss_cut)
section
variable {P : Program} {w : World} {K : PySem.W.Frag} {mg : Str → Option Value} {base : Heap}
def spLU (C : Addr) : Sp := fun vs H Q _ => ∃ (r dx : Addr) (v : V) (way : List Strd) (n : Nat), vs = [.ref r, v] ∧ H r = some (.ins C dx []) ∧ LWy H v way ∧ goodV n way ∧ 3 ≤ n ∧ n ≤ 8 ∧
  ∀ H', LineF C H' r (dueW way) → (∀ b o, H b = some o → b ≠ r → H' b = some o) → Q .non H'
abbrev nLU : List Str := ["self", "strands", "strand", "bar", "sign", "lot"]
theorem scLU : FnScope nLU ["self", "strands"] (defScope sLineUpInit) := ⟨rfl, rfl, rfl, by decide +kernel, rfl, by decide +kernel, by decide +kernel⟩
def scLUo : Scope := { kind := .function, names := [(Str.ofString ".0", .local), (Str.ofString "strand", .local), (Str.ofString "tuple", .globalImplicit)], isGenerator := false, isCoroutine := false }
theorem ok_lu {C f fA fS fX : Addr} {fd fdA fdS fdX : FuncData} (F : Fun K "__init__" "LineUp.__init__" sLineUpInit f fd) (T : Bi mg) (R : LineC K mg C) (ARE : DefAt P w K mg base CX0 4 "are_strands" ["value"] (spAre K) fA fdA) (AS : DefAt P w K mg base CX0 1 "as_strand" ["pairs"] spAsS fS fdS) (FX : DefAt P w K mg base CX0 3 "fixed" ["value"] (spFz 2) fX fdX) : FnOk P w K mg base CX0 5 f fd ["self", "strands"] (spLU C) := by
  refine F.ok scLU (fun vs H Q E h => ?_) (fun cdv A outer s H vs Q E hr h => ?_)
  · obtain ⟨r, dx, v, way, n, rfl, _⟩ := h
    rfl
  · have nd := scLU.nd
    refine ⟨_, pss_cons (ps_if (pt_not (pt_val (pe_call ARE.ok hr rfl ARE.g ARE.kp ARE.b .nil pass0 (pa_cons (pv 1) pa_nil)))) (pss_one ps_never) pss_nil)
      (pss_cons (ps_fld (pv 0) (pe_callTy call_tuple_of (by rfl) T.tuple (by decide +kernel) (pa_cons (pe_callB (cr_sortW hr.units) (by rfl) T.sorted (by decide +kernel) (pa_cons (pe_lc (own := [("strand", 2)]) (g := gName 2) (tt := tYes) (te := tCall spAsS [] E0 (tCons (tCall (spFz 2) [] E0 (tCons (tVar 2) tNil)) tNil)) rfl nd (pi_list (pv 1))
          (blkOk_by (N := nLU) (sc := defScope sLineUpInit) (by decide +kernel)) (fun _ _ _ _ _ => pg_name (i := 2) nd rfl (Or.inl rfl)) (fun _ _ _ _ _ => pts_nil) (fun _ _ _ _ _ => pe_call AS.ok (hr.mono (by decide)) rfl AS.g AS.kp AS.b .nil pass0 (pa_cons (pe_call FX.ok (hr.mono (by decide)) rfl FX.g FX.kp FX.b .nil pass0 (pa_cons (pv 2) pa_nil)) pa_nil))) pa_nil)) pa_nil)) rfl)
      (pss_cons (ps_fld (pv 0) (pe_callTy call_tuple_of (by rfl) T.tuple (by decide +kernel) (pa_cons (pe_lc (own := [("strand", 2)]) (g := gName 2) (tt := tYes) (te := tCB (rTupOf K) (tCons (tLc (iTup K (tVar 2)) (gTup K 2 (gCons (gName 3) (gCons (gName 4) gNil))) tYes (tVar 3) [3, 4]) tNil)) rfl nd (pi_tup (pe_fld (pv 0) rfl))
          (blkOk_by (N := nLU) (sc := defScope sLineUpInit) (by decide +kernel)) (fun _ _ _ _ _ => pg_name (i := 2) nd rfl (Or.inl rfl)) (fun _ _ _ _ _ => pts_nil)
          (fun _ _ _ _ _ => pe_callTy (r := rTupOf K) call_tuple_of (by rfl) T.tuple (by decide +kernel) (pa_cons (pe_lc (own := [("bar", 3), ("sign", 4)]) (g := gTup K 2 (gCons (gName 3) (gCons (gName 4) gNil))) (tt := tYes) (te := tVar 3) rfl nd (pi_tup (pv 2))
            (blkOk_by (N := nLU) (sc := relS scLUo (defScope sLineUpInit)) (by decide +kernel)) (fun _ _ _ _ _ => pg_tup rfl (pgs_cons (pg_name (i := 3) nd rfl (Or.inl rfl)) (pgs_cons (pg_name (i := 4) nd rfl (Or.inl rfl)) pgs_nil))) (fun _ _ _ _ _ => pts_nil) (fun _ _ _ _ _ => pv 3)) pa_nil))) pa_nil)) rfl)
      (pss_one (ps_fld (pv 0) (pe_callB (cr_sum rfl) (by rfl) T.sum (by decide +kernel) (pa_cons (pe_lc (own := [("lot", 5)]) (g := gName 5) (tt := tYes) (te := tCB (rLenS K) (tCons (tVar 5) tNil)) rfl nd (pi_tup (pe_fld (pv 0) rfl))
          (blkOk_by (N := nLU) (sc := defScope sLineUpInit) (by decide +kernel)) (fun _ _ _ _ _ => pg_name (i := 5) nd rfl (Or.inl rfl)) (fun _ _ _ _ _ => pts_nil) (fun _ _ _ _ _ => pe_callB (r := rLenS K) call_len_seq (by rfl) T.len PySem.boot_len (pa_cons (pv 5) pa_nil))) pa_nil)) rfl)))), ?_⟩
    obtain ⟨r, dx, v, way, n, rfl, hr0, sw, gw, n3, n8, k⟩ := h
    refine ⟨_, rfl, v, way, n, rfl, sw, gw, n3, n8, fun H1 s1 => ⟨_, rfl, iteF ?_⟩⟩
    obtain ⟨a, xs, rfl, ha, px⟩ := sw
    have ha1 := s1 _ _ ha
    have xl : xs.length = way.length := par_len px
    have w8 := gw.ln
    -- the strands
    refine ⟨_, rfl, a, rfl, ⟨_, SqL.of ha1⟩, fun D hD => ?_⟩
    refine lc_list (K := K) (a := a) (xs := xs) (fun j H' => Same H1 H' ∧ ∃ us, H' D = some (.lst us) ∧ Paired (SSat H') us ((way.map asS).take j)) ⟨(Same.refl H1).new hD, [], upd_same, .nil⟩ (fun j H' _ q => SqL.of (q.1 _ _ ha1)) ?_ ?_
    · rintro j y H' hj ⟨s2, us, h2, pu⟩
      obtain ⟨st, hst, rs⟩ := par_get px hj
      have ks := gw.st st (List.mem_of_getElem? hst)
      have jl : j < xs.length := (List.getElem?_eq_some_iff.mp hj).1
      have hst' : (way.map asS)[j]? = some (asS st) := by rw [List.getElem?_map, hst]; rfl
      refine ⟨rfl, _, rfl, y, _, rfl, lst_fv (rs.same (s1.trans s2)) ks.2.1, fun v1 H3 s3 r3 => ⟨v1, st, rfl, fv_ss r3, ks, fun v2 H4 s4 r4 => ?_⟩⟩
      have s34 := s3.trans s4
      refine ⟨us, s34 _ _ h2, ?_, (s2.trans s34).mut hD, _, upd_same, ?_⟩
      · rw [par_len pu, List.length_take]
        exact sm (by omega)
      · rw [← take_snoc hst']
        exact par_app (par_imp (fun _ _ z => (z.same s34).mut (s34 _ _ h2)) pu) (.cons (r4.mut (s34 _ _ h2)) .nil)
    rintro H2 ⟨s2, us, h2, pu⟩
    rw [show xs.length = (way.map asS).length by rw [List.length_map, xl], List.take_length] at pu
    have gA : ∀ st ∈ way.map asS, goodS st := fun st m => by
      obtain ⟨q, hq, rfl⟩ := List.mem_map.mp m
      exact asS_good (gw.st q hq)
    have gD : ∀ st ∈ dueW way, goodS st := fun st m => gA st ((srtW_perm _).mem_iff.mp m)
    have wl0 : (dueW way).length = way.length := by
      unfold dueW
      rw [(srtW_perm _).length_eq, List.length_map]
    refine ⟨D, us, way.map asS, rfl, SqL.of h2, pu, fun st m => (gA st m).1, fun p ys pm np py => ?_⟩
    have py : Paired (SSat H2) ys (dueW way) := py
    have s3 : Same H2 (upd H2 p (.lst ys)) := (Same.refl H2).new np
    have hp : upd H2 p (.lst ys) p = some (.lst ys) := upd_same
    generalize upd H2 p (.lst ys) = H3 at s3 hp ⊢
    refine ⟨p, _, rfl, .inl ⟨SqL.of hp, fun t nt => ?_⟩⟩
    have s4 : Same H3 (upd H3 t (.tup ys)) := (Same.refl H3).new nt
    have ht : upd H3 t (.tup ys) t = some (.tup ys) := upd_same
    generalize upd H3 t (.tup ys) = H4 at s4 ht ⊢
    have s14 := (s2.trans s3).trans s4
    have hr4 := s14 _ _ (s1 _ _ hr0)
    have py4 : Paired (SSat H4) ys (dueW way) := par_imp (fun _ _ z => z.same (s3.trans s4)) py
    have nrt : t ≠ r := fun z => by rw [z, hr4] at ht; cases ht
    refine ⟨_, rfl, r, C, dx, [], rfl, hr4, R.cl, R.nS, (by show 0 < 1000; decide), ?_⟩
    have fresh_ne : ∀ {H' : Hp} {b : Addr} {o : HO}, H' b = some o → ∀ {l : Addr}, H' l = none → b ≠ l := fun h _ n z => by rw [z, n] at h; cases h
    have off1 : ∀ b o, H b = some o → b ≠ r → upd H4 r (.ins C dx (putF ("strands" : Str) (.ref t) [])) b = some o := fun b o hb nb => by rw [upd_ne nb]; exact s14 _ _ (s1 _ _ hb)
    have hr5 : upd H4 r (.ins C dx (putF ("strands" : Str) (.ref t) [])) r = some (.ins C dx [(("strands" : Str), .ref t)]) := upd_same
    have ht5 : upd H4 r (.ins C dx (putF ("strands" : Str) (.ref t) [])) t = some (.tup ys) := by rw [upd_ne nrt]; exact ht
    have py5 : Paired (SSat (upd H4 r (.ins C dx (putF ("strands" : Str) (.ref t) [])))) ys (dueW way) := par_imp (fun _ _ z => z.off hr4) py4
    generalize upd H4 r (.ins C dx (putF ("strands" : Str) (.ref t) [])) = H5 at off1 hr5 ht5 py5 ⊢
    have yl : ys.length = (dueW way).length := par_len py5
    have wl : (dueW way).length = way.length := wl0
    -- the lots
    refine ⟨_, rfl, r, C, dx, _, _, rfl, hr5, R.cl, R.nS, rfl, t, rfl, ⟨_, .inl (.inl ht5)⟩, fun D2 hD2 => ?_⟩
    refine lc_tup (K := K) (a := t) (xs := ys) (fun j H' => Same H5 H' ∧ ∃ us, H' D2 = some (.lst us) ∧ Paired (LotT H') us ((dueW way).take j)) ⟨(Same.refl H5).new hD2, [], upd_same, .nil⟩ (fun j H' _ q => .inl (.inl (q.1 _ _ ht5))) ?_ ?_
    · rintro j y H' hj ⟨s6, us6, h6, pu6⟩
      obtain ⟨st, hst, rs⟩ := par_get py5 hj
      obtain ⟨b, zs, rfl, hb, pz⟩ := rs.same s6
      have zl : zs.length = st.length := par_len pz
      have st8 : st.length ≤ 8 := (gD st (List.mem_of_getElem? hst)).2.1
      refine ⟨rfl, _, rfl, b, rfl, ⟨_, .inl (.inl hb)⟩, fun D3 hD3 => ?_⟩
      refine lc_tup (K := K) (a := b) (xs := zs) (fun i G => Same H' G ∧ G D3 = some (.lst (((st.take i).map (·.1)).map V.int))) ⟨(Same.refl H').new hD3, upd_same⟩ (fun i G _ q => .inl (.inl (q.1 _ _ hb))) ?_ ?_
      · rintro i z G hi ⟨s7, h7⟩
        have hil : i < zs.length := (List.getElem?_eq_some_iff.mp hi).1
        obtain ⟨q, hq, c, rfl, hc⟩ := par_get pz hi
        refine ⟨c, _, rfl, .inl (.inl (s7 _ _ hc)), rfl, _, _, rfl, _, _, rfl, rfl, rfl, _, rfl, _, h7, ?_, s7.mut hD3, ?_⟩
        · rw [List.length_map, List.length_map, List.length_take]
          exact sm (by omega)
        · rw [upd_same, ← take_snoc hq, List.map_append, List.map_append]
          rfl
      rintro G1 ⟨s7, h7⟩
      rw [zl, List.take_length] at h7
      refine ⟨D3, _, rfl, .inl ⟨SqL.of h7, fun l nl => ?_⟩⟩
      have s8 : Same H' (upd G1 l (.tup ((st.map (·.1)).map V.int))) := s7.new nl
      have hl8 : upd G1 l (.tup ((st.map (·.1)).map V.int)) l = some (.tup ((st.map (·.1)).map V.int)) := upd_same
      generalize upd G1 l (.tup ((st.map (·.1)).map V.int)) = G2 at s8 hl8 ⊢
      refine ⟨us6, s8 _ _ h6, ?_, (s6.trans s8).mut hD2, _, upd_same, ?_⟩
      · rw [par_len pu6, List.length_take]
        exact sm (by omega)
      · have lr : LotT G2 (.ref l) st := ⟨l, rfl, hl8⟩
        rw [← take_snoc hst]
        exact par_app (par_imp (fun _ _ z => (z.same s8).mut (s8 _ _ h6)) pu6) (.cons (lr.mut (s8 _ _ h6)) .nil)
    rintro H6 ⟨s6, us6, h6, pu6⟩
    rw [yl, List.take_length] at pu6
    have u6l : us6.length = (dueW way).length := par_len pu6
    refine ⟨D2, _, rfl, .inl ⟨SqL.of h6, fun t2 nt2 => ?_⟩⟩
    have s7 : Same H5 (upd H6 t2 (.tup us6)) := s6.new nt2
    have ht2 : upd H6 t2 (.tup us6) t2 = some (.tup us6) := upd_same
    have pu7 : Paired (LotT (upd H6 t2 (.tup us6))) us6 (dueW way) := par_imp (fun _ _ z => z.same ((Same.refl H6).new nt2)) pu6
    generalize upd H6 t2 (.tup us6) = H7 at s7 ht2 pu7 ⊢
    have hr7 := s7 _ _ hr5
    have nrt2 : t2 ≠ r := fun z => by rw [z, hr7] at ht2; cases ht2
    refine ⟨_, rfl, r, C, dx, _, rfl, hr7, R.cl, R.nL, (by show 1 < 1000; decide), ?_⟩
    have off2 : ∀ b o, H b = some o → b ≠ r → upd H7 r (.ins C dx (putF ("lots" : Str) (.ref t2) [(("strands" : Str), .ref t)])) b = some o := fun b o hb nb => by rw [upd_ne nb]; exact s7 _ _ (off1 b o hb nb)
    have hr8 : upd H7 r (.ins C dx (putF ("lots" : Str) (.ref t2) [(("strands" : Str), .ref t)])) r = some (.ins C dx [(("strands" : Str), .ref t), (("lots" : Str), .ref t2)]) := upd_same
    have ht8 : upd H7 r (.ins C dx (putF ("lots" : Str) (.ref t2) [(("strands" : Str), .ref t)])) t = some (.tup ys) := by rw [upd_ne nrt]; exact s7 _ _ ht5
    have ht28 : upd H7 r (.ins C dx (putF ("lots" : Str) (.ref t2) [(("strands" : Str), .ref t)])) t2 = some (.tup us6) := by rw [upd_ne nrt2]; exact ht2
    have py8 : Paired (SSat (upd H7 r (.ins C dx (putF ("lots" : Str) (.ref t2) [(("strands" : Str), .ref t)])))) ys (dueW way) := par_imp (fun _ _ z => (z.same s7).off hr7) py5
    have pu8 : Paired (LotT (upd H7 r (.ins C dx (putF ("lots" : Str) (.ref t2) [(("strands" : Str), .ref t)])))) us6 (dueW way) := par_imp (fun _ _ z => z.off hr7) pu7
    generalize upd H7 r (.ins C dx (putF ("lots" : Str) (.ref t2) [(("strands" : Str), .ref t)])) = H8 at off2 hr8 ht8 ht28 py8 pu8 ⊢
    -- how many
    refine ⟨_, rfl, r, C, dx, _, _, rfl, hr8, R.cl, R.nL, rfl, t2, rfl, ⟨_, .inl (.inl ht28)⟩, fun D4 hD4 => ?_⟩
    refine lc_tup (K := K) (a := t2) (xs := us6) (fun j H' => Same H8 H' ∧ H' D4 = some (.lst ((((dueW way).take j).map fun st => (st.length : Int)).map V.int))) ⟨(Same.refl H8).new hD4, upd_same⟩ (fun j H' _ q => .inl (.inl (q.1 _ _ ht28))) ?_ ?_
    · rintro j y H' hj ⟨s9, h9⟩
      obtain ⟨st, hst, b, rfl, hb⟩ := par_get pu8 hj
      refine ⟨rfl, _, rfl, b, _, rfl, .inr (.inl (.inl (s9 _ _ hb))), _, h9, ?_, s9.mut hD4, ?_⟩
      · rw [List.length_map, List.length_map, List.length_take]
        exact sm (by omega)
      · rw [upd_same, ← take_snoc hst, List.map_append, List.map_append, List.length_map, List.length_map]
        rfl
    rintro H9 ⟨s9, h9⟩
    refine ⟨D4, _, rfl, SqL.of h9, ?_⟩
    have hr9 := s9 _ _ hr8
    refine ⟨_, rfl, r, C, dx, _, rfl, hr9, R.cl, R.nM, (by show 2 < 1000; decide), ?_⟩
    rw [u6l, List.take_length]
    refine k _ ⟨dx, t, t2, us6, _, upd_same, rfl, ⟨t, ys, rfl, ?_, par_imp (fun _ _ z => (z.same s9).off hr9) py8⟩, ?_, par_imp (fun _ _ z => (z.same s9).off hr9) pu8⟩ fun b o hb nb => ?_
    · rw [upd_ne nrt]
      exact s9 _ _ ht8
    · rw [upd_ne nrt2]
      exact s9 _ _ ht28
    · rw [upd_ne nb]
      exact s9 _ _ (off2 b o hb nb)
end
end K
namespace K
open PySem L2 Rg LamX
open Evl (pss_cut)
/-- a line-up, of which nothing is known but its strands -/
def LineW (C : Addr) (H : Hp) (r : Addr) (way : List Strd) : Prop := ∃ (dx t : Addr) (fs : List (Str × V)), H r = some (.ins C dx fs) ∧ fs.lookup ("strands" : Str) = some (.ref t) ∧ SWat H (.ref t) way
theorem LineF.w {C : Addr} {H : Hp} {r : Addr} {w : List Strd} (h : LineF C H r w) : LineW C H r w := by
  obtain ⟨dx, t, l, xs, n, h1, _, h3, _, _⟩ := h
  exact ⟨dx, t, _, h1, rfl, h3⟩
theorem first_at {m : Int} : ∀ {ns : List Int}, m ∈ ns → ∃ j, ns[j]? = some m ∧ ∀ (i : Nat) (z : Int), i < j → ns[i]? = some z → z ≠ m
  | [], h => nomatch h
  | a :: r, h => by
    by_cases e : a = m
    · exact ⟨0, by rw [e]; rfl, fun i z hi => absurd hi (Nat.not_lt_zero i)⟩
    · have h' : m ∈ r := by
        rcases List.mem_cons.mp h with x | x
        · exact absurd x.symm e
        · exact x
      obtain ⟨j, hj, q⟩ := first_at h'
      refine ⟨j + 1, hj, fun i z hi hz => ?_⟩
      cases i with
      | zero => cases hz; exact e
      | succ i => exact q i z (by omega) hz
def hadN (ns : List Int) : Bool := ns.all fun m => decide (2 * m ≤ ns.sum)
theorem had_max {ns : List Int} {m : Int} (hm : m ∈ ns) (hx : ∀ y, y ∈ ns → y ≤ m) : hadN ns = decide (2 * m ≤ ns.sum) := by
  unfold hadN
  by_cases h : 2 * m ≤ ns.sum
  · rw [decide_eq_true h]
    refine List.all_eq_true.mpr fun y hy => decide_eq_true ?_
    have := hx y hy
    omega
  · rw [decide_eq_false h]
    refine Bool.eq_false_iff.mpr fun k => h ?_
    exact of_decide_eq_true (List.all_eq_true.mp k m hm)
theorem sum_nn : ∀ {ns : List Int}, (∀ y ∈ ns, 0 ≤ y) → 0 ≤ ns.sum
  | [], _ => by simp
  | x :: ns, nn => by
    have ih := sum_nn (ns := ns) fun y hy => nn y (List.mem_cons_of_mem _ hy)
    have := nn x (List.mem_cons_self ..)
    rw [List.sum_cons]
    omega
theorem sum_ge : ∀ {ns : List Int} (_ : ∀ y ∈ ns, 0 ≤ y) {j : Nat} {b : Int}, ns[j]? = some b → b ≤ ns.sum ∧ 0 ≤ ns.sum
  | x :: ns, nn, 0, b, h => by
    cases h
    rw [List.sum_cons]
    have z : 0 ≤ ns.sum := sum_nn fun y hy => nn y (List.mem_cons_of_mem _ hy)
    have := nn x (List.mem_cons_self ..)
    omega
  | x :: ns, nn, j + 1, b, h => by
    have ih := sum_ge (ns := ns) (fun y hy => nn y (List.mem_cons_of_mem _ hy)) (j := j) (b := b) (by simpa using h)
    have := nn x (List.mem_cons_self ..)
    rw [List.sum_cons]
    omega
theorem sum_two : ∀ {ns : List Int} (_ : ∀ y ∈ ns, 0 ≤ y) {i j : Nat} {a b : Int}, ns[i]? = some a → ns[j]? = some b → i ≠ j → a + b ≤ ns.sum
  | x :: ns, nn, 0, 0, a, b, _, _, ne => absurd rfl ne
  | x :: ns, nn, 0, j + 1, a, b, ha, hb, _ => by
    cases ha
    have := (sum_ge (ns := ns) (fun y hy => nn y (List.mem_cons_of_mem _ hy)) (j := j) (b := b) (by simpa using hb)).1
    rw [List.sum_cons]
    omega
  | x :: ns, nn, i + 1, 0, a, b, ha, hb, _ => by
    cases hb
    have := (sum_ge (ns := ns) (fun y hy => nn y (List.mem_cons_of_mem _ hy)) (j := i) (b := a) (by simpa using ha)).1
    rw [List.sum_cons]
    omega
  | x :: ns, nn, i + 1, j + 1, a, b, ha, hb, ne => by
    have ih := sum_two (ns := ns) (fun y hy => nn y (List.mem_cons_of_mem _ hy)) (i := i) (j := j) (by simpa using ha) (by simpa using hb) (by omega)
    have := nn x (List.mem_cons_self ..)
    rw [List.sum_cons]
    omega
/-- the index of the net that is too great -/
def atN (ns : List Int) : Nat := ns.findIdx fun m => decide (ns.sum < 2 * m)
theorem atN_of {ns : List Int} (nn : ∀ y ∈ ns, 0 ≤ y) {j : Nat} {m : Int} (hj : ns[j]? = some m) (g : ns.sum < 2 * m) : atN ns = j := by
  have hm := List.mem_of_getElem? hj
  have lt : atN ns < ns.length := List.findIdx_lt_length_of_exists ⟨m, hm, decide_eq_true g⟩
  have k : ns.sum < 2 * ns[atN ns] := of_decide_eq_true (List.findIdx_getElem (w := lt))
  by_cases e : atN ns = j
  · exact e
  · have := sum_two nn (List.getElem?_eq_getElem lt) hj e
    omega
theorem get_lenX {ls : List Int} {b : Int} (h0 : 0 ≤ b) (h1 : b < (ls.length : Int)) : atI (ls.map V.int) b = some (V.int (ls.getD b.toNat 0)) := by
  have hb : b.toNat < ls.length := by omega
  refine at_of (j := b.toNat) (by omega) ?_
  rw [int_get hb, List.getD_eq_getElem?_getD, List.getElem?_eq_getElem hb]
  rfl
def fitW (m : Nat) (way : List Strd) : Prop := way.length ≤ 8 ∧ ∀ st ∈ way, st.length ≤ 8 ∧ ∀ q ∈ st, 0 ≤ q.1 ∧ q.1 < (m : Int) ∧ (q.2 = 1 ∨ q.2 = -1)
theorem LineW.same {C : Addr} {H H' : Hp} {r : Addr} {way : List Strd} (h : LineW C H r way) (s : Same H H') : LineW C H' r way := by
  obtain ⟨dx, t, fs, h1, h2, h3⟩ := h
  exact ⟨dx, t, fs, s _ _ h1, h2, h3.same s⟩
section
variable {P : Program} {w : World} {K : PySem.W.Frag} {mg : Str → Option Value} {base : Heap}
def spNets (K : PySem.W.Frag) (CR CL : Addr) : Sp := fun vs H Q _ => ∃ (r l : Addr) (ls : List Int) (way : List Strd), vs = [.ref r, .ref l] ∧ RingAt K CR H r ls ∧ LineW CL H l way ∧ fitW ls.length way ∧
  ∀ p H', Same H H' → H p = none → H' p = some (.lst ((way.map fun st => absI (net ls st)).map V.int)) → Q (.ref p) H'
abbrev nNets : List Str := ["ring", "lineup", "strands", "strand", "bar", "sign"]
theorem scNets : FnScope nNets ["ring", "lineup"] (defScope sNetsOf) := ⟨rfl, rfl, rfl, by decide +kernel, rfl, by decide +kernel, by decide +kernel⟩
def rAb : List V → Hp → VK → Prop := fun xs H Q => ∃ i, xs = [.int i] ∧ Q (.int (if i < 0 then -i else i)) H
def scNo : Scope := { kind := .function, names := [(Str.ofString ".0", .local), (Str.ofString "strand", .local), (Str.ofString "abs", .globalImplicit), (Str.ofString "sum", .globalImplicit), (Str.ofString "ring", .free)], isGenerator := false, isCoroutine := false }
abbrev teN (K : PySem.W.Frag) : TE := tCB rAb (tCons (tCB (rSum K) (tCons (tLc (iTup K (tVar 3)) (gTup K 2 (gCons (gName 4) (gCons (gName 5) gNil))) tYes (tOp (rI CMul fun i j => .int (i * j)) (tOp (rIxT K) (tFld K (tVar 0) "lengths") (tVar 4)) (tVar 5)) [4, 5]) tNil)) tNil)
theorem ok_nets {CR CL f : Addr} {fd : FuncData} (F : Fun K "nets_of" "nets_of" sNetsOf f fd) (T : Bi mg) (RR : RingC K mg CR) (RL : LineC K mg CL) : FnOk P w K mg base CX0 1 f fd ["ring", "lineup"] (spNets K CR CL) := by
  refine F.ok scNets (fun vs H Q E h => ?_) (fun cdv A outer s H vs Q E hr h => ?_)
  · obtain ⟨r, l, ls, way, rfl, _⟩ := h
    rfl
  · have nd := scNets.nd
    refine ⟨_, pss_cons (ps_set (i := 2) nd rfl (Or.inl rfl) (pe_fld (pv 1) rfl))
      (pss_one (ps_ret (pe_lc (own := [("strand", 3)]) (g := gName 3) (tt := tYes) (te := teN K) rfl nd (pi_tup (pv 2))
        (blkOk_by (N := nNets) (sc := defScope sNetsOf) (by decide +kernel)) (fun _ _ _ _ _ => pg_name (i := 3) nd rfl (Or.inl rfl)) (fun _ _ _ _ _ => pts_nil)
        (fun _ _ _ _ _ => pe_callB (r := rAb) call_abs (by rfl) T.abs (by decide +kernel) (pa_cons (pe_callB (cr_sum rfl) (by rfl) T.sum (by decide +kernel) (pa_cons (pe_lc (own := [("bar", 4), ("sign", 5)]) (g := gTup K 2 (gCons (gName 4) (gCons (gName 5) gNil))) (tt := tYes) (te := tOp (rI CMul fun i j => .int (i * j)) (tOp (rIxT K) (tFld K (tVar 0) "lengths") (tVar 4)) (tVar 5)) rfl nd (pi_tup (pv 3))
          (blkOk_by (N := nNets) (sc := relS scNo (defScope sNetsOf)) (by decide +kernel)) (fun _ _ _ _ _ => pg_tup rfl (pgs_cons (pg_name (i := 4) nd rfl (Or.inl rfl)) (pgs_cons (pg_name (i := 5) nd rfl (Or.inl rfl)) pgs_nil))) (fun _ _ _ _ _ => pts_nil)
          (fun _ _ _ _ _ => pe_op op_mul (pe_ix (r := rIxT K) ix_tup (pe_fld (pv 0) rfl) (pv 4) (fun _ _ => rfl)) (pv 5))) pa_nil)) pa_nil))))), ?_⟩
    obtain ⟨r, l, ls, way, rfl, ⟨dx, t, hr0, ht, _⟩, ⟨dl, a, fs, hl0, fl, sw⟩, ⟨w8, fit⟩, k⟩ := h
    obtain ⟨b0, xs, e0, ha, px⟩ := sw
    obtain rfl : a = b0 := V.ref.inj e0
    have xl : xs.length = way.length := par_len px
    refine ⟨_, rfl, l, CL, dl, fs, _, rfl, hl0, RL.cl, RL.nS, fl, ?_⟩
    refine ⟨_, rfl, a, rfl, ⟨_, .inl (.inl ha)⟩, fun D hD => ?_⟩
    refine lc_tup (K := K) (a := a) (xs := xs) (fun j H' => Same H H' ∧ H' D = some (.lst (((way.take j).map fun st => absI (net ls st)).map V.int))) ⟨(Same.refl H).new hD, upd_same⟩ (fun j H' _ q => .inl (.inl (q.1 _ _ ha))) ?_ ?_
    · rintro j y H' hj ⟨s1, h1⟩
      obtain ⟨st, hst, rs⟩ := par_get px hj
      have hm := fit st (List.mem_of_getElem? hst)
      obtain ⟨b, zs, rfl, hb, pz⟩ := rs.same s1
      have zl : zs.length = st.length := par_len pz
      refine ⟨rfl, _, rfl, b, rfl, ⟨_, .inl (.inl hb)⟩, fun D3 hD3 => ?_⟩
      refine lc_tup (K := K) (a := b) (xs := zs) (fun i G => Same H' G ∧ G D3 = some (.lst (((st.take i).map fun q => ls.getD q.1.toNat 0 * q.2).map V.int))) ⟨(Same.refl H').new hD3, upd_same⟩ (fun i G _ q => .inl (.inl (q.1 _ _ hb))) ?_ ?_
      · rintro i z G hi ⟨s7, h7⟩
        have hil : i < zs.length := (List.getElem?_eq_some_iff.mp hi).1
        obtain ⟨q, hq, c, rfl, hc⟩ := par_get pz hi
        have hqb := hm.2 q (List.mem_of_getElem? hq)
        have s17 := s1.trans s7
        refine ⟨c, _, rfl, .inl (.inl (s7 _ _ hc)), rfl, _, _, rfl, _, _, rfl, rfl, rfl, ?_⟩
        refine ⟨_, rfl, r, CR, dx, _, _, rfl, s17 _ _ hr0, RR.cl, RR.nL, rf_lengths _ _, _, rfl, t, _, q.1, _, rfl, rfl, s17.tup ht, get_lenX hqb.1 hqb.2.1, _, rfl, _, _, rfl, rfl, .inr ⟨?_, ?_⟩, _, h7, ?_, s7.mut hD3, ?_⟩
        · have z := hqb.2.2
          omega
        · have z := hqb.2.2
          omega
        · rw [List.length_map, List.length_map, List.length_take]
          exact sm (by omega)
        · rw [upd_same, ← take_snoc hq, List.map_append, List.map_append]
          rfl
      rintro G1 ⟨s7, h7⟩
      rw [zl, List.take_length] at h7
      have s8 := s1.trans s7
      refine ⟨D3, _, rfl, SqL.of h7, _, rfl, ?_⟩
      refine ⟨_, s7 _ _ h1, ?_, s8.mut hD, ?_⟩
      · rw [List.length_map, List.length_map, List.length_take]
        exact sm (by omega)
      · rw [upd_same, ← take_snoc hst, List.map_append, List.map_append]
        rfl
    rintro H6 ⟨s6, h6⟩
    rw [xl, List.take_length] at h6
    exact k D H6 s6 hD h6
def spTG (K : PySem.W.Frag) : Sp := fun vs H Q _ => ∃ (a : Addr) (ns : List Int), vs = [.ref a] ∧ H a = some (.lst (ns.map V.int)) ∧ 0 < ns.length ∧ ns.length ≤ 1000 ∧ (∀ y ∈ ns, 0 ≤ y) ∧ (hadN ns = true → Q .non H) ∧ (hadN ns = false → Q (.int (atN ns)) H)
theorem scTG : FnScope ["nets", "most"] ["nets"] (defScope sTooGreat) := ⟨rfl, rfl, rfl, by decide +kernel, rfl, by decide +kernel, by decide +kernel⟩
theorem ok_tg {f : Addr} {fd : FuncData} (F : Fun K "too_great" "too_great" sTooGreat f fd) (T : Bi mg) : FnOk P w K mg base CX0 1 f fd ["nets"] (spTG K) := by
  refine F.ok scTG (fun vs H Q E h => ?_) (fun cdv A outer s H vs Q E hr h => ?_)
  · obtain ⟨a, ns, rfl, _⟩ := h
    rfl
  · have nd := scTG.nd
    refine ⟨_, pss_cons (ps_set (i := 1) nd rfl (Or.inl rfl) (pe_callB (cr_max rfl) (by rfl) T.max (by decide +kernel) (pa_cons (pv 0) pa_nil)))
      (pss_one (ps_ret (pe_ifExp (pt_cmpR op_gt (pe_op op_mul pe_int (pv 1)) (pe_callB (cr_sum rfl) (by rfl) T.sum (by decide +kernel) (pa_cons (pv 0) pa_nil)) (nomark _)) (pe_bm PySem.F.plainAttrs_list PySem.F.slot_list_index PySem.F.type_list_index mt_index (pv 0) (pa_cons (pv 1) pa_nil)) pe_non))), ?_⟩
    obtain ⟨a, ns, rfl, ha, pos, n1, nn, k1, k2⟩ := h
    refine ⟨_, rfl, a, ns, rfl, SqL.of ha, pos, fun m hm hx => ?_⟩
    have e := had_max hm hx
    refine ⟨_, rfl, _, _, rfl, rfl, .inl ⟨by decide, by decide⟩, _, rfl, a, ns, rfl, SqL.of ha, _, _, rfl, rfl, ?_⟩
    refine ⟨_, rfl, ?_⟩
    by_cases q : ns.sum < 2 * m
    · rw [decide_eq_false (by omega)] at e
      obtain ⟨j, hj, no⟩ := first_at hm
      refine Eq.mpr (if_pos (decide_eq_true q)) ?_
      refine ⟨_, rfl, .inl ⟨rfl, _, SqL.of ha⟩, _, rfl, a, ns.map V.int, V.int m, j, V.int m, rfl, rfl, SqL.of ha, rfl, ?_, ?_, ?_, ?_, by have z := k2 e; rw [atN_of nn hj q] at z; exact z⟩
      · refine List.all_eq_true.mpr fun y hy => ?_
        obtain ⟨z, _, rfl⟩ := List.mem_map.mp hy
        rfl
      · rw [List.getElem?_map, hj]
        rfl
      · exact beq_self_eq_true m
      · intro i z hi hz
        obtain ⟨z', hz', rfl⟩ := int_at hz
        exact beq_eq_false_iff_ne.mpr (no i z' hi hz')
    · rw [decide_eq_true (by omega)] at e
      refine Eq.mpr (if_neg (by rw [decide_eq_false q]; exact Bool.false_ne_true)) ?_
      exact k1 e
end
end K
namespace K
open PySem L2 Rg LamX
open Evl (pss_cut)
theorem fv_int {H : Hp} {f : Bool} {n : Nat} {v : V} {b : Int} (h : FV H f n v (.int b)) : v = .int b := by
  have z : Atm v (.int b) := by
    cases n with
    | zero => exact h
    | succ n =>
      rcases h with h | ⟨_, _, _, _, _, e, _⟩
      · exact h
      · cases e
  rcases z with ⟨i, rfl, e⟩ | ⟨_, e⟩ | ⟨_, _, e⟩
  · cases e; rfl
  · cases e
  · cases e
theorem fv_par {H : Hp} {f : Bool} {n : Nat} : ∀ {xs : List V} {l : List Int}, Paired (FV H f n) xs (l.map PyData.int) → xs = l.map V.int
  | [], [], _ => rfl
  | _ :: _, [], h => nomatch h
  | [], _ :: _, h => nomatch h
  | x :: xs, i :: l, .cons h t => by
    rw [fv_int h, fv_par t]
    rfl
theorem fv_lot {H : Hp} {n : Nat} {v : V} {l : List Int} (h : FV H false (n + 1) v (.tuple (l.map PyData.int))) : ∃ t, v = .ref t ∧ H t = some (.tup (l.map V.int)) := by
  rcases h with (⟨_, _, z⟩ | ⟨_, z⟩ | ⟨_, _, z⟩) | ⟨t, xs, es, rfl, ht, e2, l2, p2⟩
  · cases z
  · cases z
  · cases z
  · cases e2
    rcases ht with ht | ⟨z, _⟩
    · exact ⟨t, rfl, by rw [← fv_par p2]; exact ht⟩
    · cases z
/-- the nets of a line-up, in order -/
def netsW (ls : List Int) (w : List Strd) : List Int := w.map fun st => absI (net ls st)
theorem netsW_nn (ls : List Int) (w : List Strd) : ∀ y ∈ netsW ls w, 0 ≤ y := fun y hy => by
  obtain ⟨st, _, rfl⟩ := List.mem_map.mp hy
  rw [absI_nat]
  omega
def manyW (w : List Strd) : Int := (w.map fun st => (st.length : Int)).sum
def lotI (st : Strd) : List Int := st.map (·.1)
section
variable {P : Program} {w : World} {K : PySem.W.Frag} {mg : Str → Option Value} {base : Heap}
theorem madeU {C : Addr} {E : XK} {H : Hp} {v : V} {way : List Strd} {n : Nat} {R : Addr → VK} (sw : LWy H v way) (gw : goodV n way) (n3 : 3 ≤ n) (n8 : n ≤ 8) (h : ∀ x H', LineF C H' x (dueW way) → Same H H' → R x .non H') :
    ∀ x dx, H x = none → H dx = none → dx ≠ x → spLU C (.ref x :: ([v] ++ [])) (upd (upd H dx (.own x)) x (.ins C dx [])) (R x) E := by
  intro x dx hx hdx _
  have s0 : Same H (upd (upd H dx (.own x)) x (.ins C dx [])) := fun b o q => by
    rw [upd_ne (ne_of_none q hx), upd_ne (ne_of_none q hdx)]
    exact q
  exact ⟨x, dx, v, way, n, rfl, upd_same, sw.same s0, gw, n3, n8, fun H' l kp => h x H' l fun b o e => kp b o (s0 b o e) (ne_of_none e hx)⟩
theorem madeN {C : Addr} {E : XK} {H : Hp} {v : V} {d : PyData} {R : Addr → VK} (fv : FV H true 1 v d) (h : ∀ x w1 H', Same H H' → FV H' false 1 w1 d → PapG C "nets" (fsNI w1) H' x → R x .non H') :
    ∀ x dx, H x = none → H dx = none → dx ≠ x → spNI K C 1 (.ref x :: ([v] ++ [])) (upd (upd H dx (.own x)) x (.ins C dx [])) (R x) E := by
  intro x dx hx hdx _
  have s0 : Same H (upd (upd H dx (.own x)) x (.ins C dx [])) := fun b o q => by
    rw [upd_ne (ne_of_none q hx), upd_ne (ne_of_none q hdx)]
    exact q
  exact ⟨x, dx, v, d, rfl, upd_same, fv.same s0, fun w1 H' kp f1 pg => h x w1 H' (fun b o e => kp b o (ne_of_none e hx) (s0 b o e)) f1 pg⟩
theorem madeG {C : Addr} {E : XK} {H : Hp} {v1 v2 v3 : V} {d1 d2 d3 : PyData} {R : Addr → VK} (fv1 : FV H true 1 v1 d1) (fv2 : FV H true 1 v2 d2) (fv3 : FV H true 1 v3 d3) (h : ∀ x w1 w2 w3 H', Same H H' → FV H' false 1 w1 d1 → FV H' false 1 w2 d2 → FV H' false 1 w3 d3 → PapG C "toogreat" (fsGI w1 w2 w3) H' x → R x .non H') :
    ∀ x dx, H x = none → H dx = none → dx ≠ x → spGI K C 1 (.ref x :: ([v1, v2, v3] ++ [])) (upd (upd H dx (.own x)) x (.ins C dx [])) (R x) E := by
  intro x dx hx hdx _
  have s0 : Same H (upd (upd H dx (.own x)) x (.ins C dx [])) := fun b o q => by
    rw [upd_ne (ne_of_none q hx), upd_ne (ne_of_none q hdx)]
    exact q
  exact ⟨x, dx, v1, v2, v3, d1, d2, d3, rfl, upd_same, fv1.same s0, fv2.same s0, fv3.same s0, fun w1 w2 w3 H' kp f1 f2 f3 pg => h x w1 w2 w3 H' (fun b o e => kp b o (ne_of_none e hx) (s0 b o e)) f1 f2 f3 pg⟩
structure LineP (P : Program) (w : World) (K : PySem.W.Frag) (mg : Str → Option Value) (base : Heap) (C fI : Addr) (fdI : FuncData) : Prop where
  made : Mk K C fI
  ok : FnOk P w K mg base CX0 5 fI fdI ["self", "strands"] (spLU C)
  b : Binds K fdI ["self", "strands"] []
structure NetsP (P : Program) (w : World) (K : PySem.W.Frag) (mg : Str → Option Value) (base : Heap) (C fI : Addr) (fdI : FuncData) : Prop where
  made : Mk K C fI
  ok : FnOk P w K mg base CX0 5 fI fdI ["self", "nets"] (spNI K C 1)
  b : Binds K fdI ["self", "nets"] []
structure TooGreatP (P : Program) (w : World) (K : PySem.W.Frag) (mg : Str → Option Value) (base : Heap) (C fI : Addr) (fdI : FuncData) : Prop where
  made : Mk K C fI
  ok : FnOk P w K mg base CX0 5 fI fdI ["self", "lot", "net", "others"] (spGI K C 1)
  b : Binds K fdI ["self", "lot", "net", "others"] []
/-! ### want_as_many -/
def spAsM (cM : Addr) : Sp := fun vs H Q E => ∃ a b : Int, vs = [.int a, .int b] ∧ ((a = b ∧ Q .non H) ∨ (a ≠ b ∧ Errs E cM "part" (.str "bars") H))
theorem scAsM : FnScope ["one", "other"] ["one", "other"] (defScope sWantAsMany) := ⟨rfl, rfl, rfl, by decide +kernel, rfl, by decide +kernel, by decide +kernel⟩
theorem ok_asM {f cM fI : Addr} {fd fdI : FuncData} (F : Fun K "want_as_many" "want_as_many" sWantAsMany f fd) (B : ErrAt P w K mg base "Misfit" "part" cM fI fdI) : FnOk P w K mg base (L2.CX P w) 3 f fd ["one", "other"] (spAsM cM) := by
  refine F.okX scAsM (fun vs H Q E h => ?_) (fun cdv A outer s H vs Q E hr h => ?_)
  · obtain ⟨a, b, rfl, _⟩ := h
    rfl
  · refine ⟨_, pss_one (ps_if (pt_cmpR op_ne (pv 0) (pv 1) (nomark _))
      (pss_one (ps_raise rfl (takes_of rfl rfl rfl rfl) (pmk_oex B.oex B.ic B.ti B.ok hr B.b .nil pass0 rfl B.g (pa_cons pe_str pa_nil)))) pss_nil), ?_⟩
    obtain ⟨a, b, rfl, h⟩ := h
    refine ⟨_, rfl, _, rfl, rfl, _, rfl, ?_⟩
    rcases h with ⟨e, q⟩ | ⟨e, q⟩
    · rw [e, decide_eq_true rfl]; exact iteF q
    · rw [decide_eq_false fun z => e (V.int.inj z)]
      exact iteT (err_made B.oex B.nf q)
/-! ### want_lineup -/
def spWantU (K : PySem.W.Frag) (C cL : Addr) : Sp := fun vs H Q E => ∃ (v : V) (part : Str), vs = [v, .str part] ∧ ((∃ r W, v = .ref r ∧ LineF C H r W ∧ Q .non H) ∨ (NoR K C H v ∧ Errs E cL "part" (.str part) H))
theorem scWantU : FnScope ["value", "part"] ["value", "part"] (defScope sWantLineup) := ⟨rfl, rfl, rfl, by decide +kernel, rfl, by decide +kernel, by decide +kernel⟩
theorem ok_wantU {C cL f fI : Addr} {fd fdI : FuncData} (F : Fun K "want_lineup" "want_lineup" sWantLineup f fd) (T : Bi mg) (G : mg "LineUp" = some (.ref C)) (EI : C8.InsC K C) (B : ErrAt P w K mg base "BadLineUp" "part" cL fI fdI) : FnOk P w K mg base (L2.CX P w) 3 f fd ["value", "part"] (spWantU K C cL) := by
  refine F.okX scWantU (fun vs H Q E h => ?_) (fun cdv A outer s H vs Q E hr h => ?_)
  · obtain ⟨v, part, rfl, _⟩ := h
    rfl
  · refine ⟨_, pss_one (ps_if (pt_not (pt_val (pe_callB call_isi (by rfl) T.isinstance (by decide +kernel) (pa_cons (pv 0) (pa_cons (pe_glob (v := .ref C) rfl G rfl) pa_nil)))))
      (pss_one (ps_raise rfl (takes_of rfl rfl rfl rfl) (pmk_oex B.oex B.ic B.ti B.ok hr B.b .nil pass0 rfl B.g (pa_cons (pv 1) pa_nil)))) pss_nil), ?_⟩
    obtain ⟨v, part, rfl, h⟩ := h
    rcases h with ⟨r, W, rfl, ⟨dx, t, l, xs, n, hr0, _⟩, q⟩ | ⟨⟨k, ty, kit⟩, er⟩
    · refine ⟨_, rfl, .ref r, .ref C, _, _, _, rfl, .own C, .base (.ins hr0 EI.cl EI.ha EI.hn EI.htk EI.hm), kit_self, ?_⟩
      exact ⟨_, rfl, iteF q⟩
    · refine ⟨_, rfl, v, .ref C, _, _, _, rfl, .own C, ty, kit, ?_⟩
      exact ⟨_, rfl, iteT ⟨_, rfl, err_made B.oex B.nf er⟩⟩
/-! ### want_lined -/
/-- what is asked of a ring and a line-up, and what comes else -/
def AskU (K : PySem.W.Frag) (CR CL cR cL cM : Addr) (H : Hp) (E : XK) (v u : V) (q : Addr → Addr → List Int → List Strd → Prop) : Prop :=
  (NoR K CR H v ∧ Errs E cR "part" (.str "ring") H) ∨ ∃ (r : Addr) (ls : List Int), v = .ref r ∧ RingAt K CR H r ls ∧ 3 ≤ ls.length ∧ ls.length ≤ 8 ∧
    ((NoR K CL H u ∧ Errs E cL "part" (.str "lineup") H) ∨ ∃ (l : Addr) (W : List Strd), u = .ref l ∧ LineF CL H l W ∧
      ((manyW W ≠ ls.length ∧ Errs E cM "part" (.str "bars") H) ∨ (manyW W = ls.length ∧ q r l ls W)))
def spWLd (K : PySem.W.Frag) (CR CL cR cL cM : Addr) : Sp := fun vs H Q E => ∃ v u : V, vs = [v, u] ∧ AskU K CR CL cR cL cM H E v u fun _ _ _ _ => Q .non H
theorem scWLd : FnScope ["ring", "lineup"] ["ring", "lineup"] (defScope sWantLined) := ⟨rfl, rfl, rfl, by decide +kernel, rfl, by decide +kernel, by decide +kernel⟩
theorem ok_wld {CR CL cR cL cM f fR fL fM fN : Addr} {fd fdR fdL fdM fdN : FuncData} (F : Fun K "want_lined" "want_lined" sWantLined f fd) (T : Bi mg) (RL : LineC K mg CL)
    (NM : Meth K CR "__len__" fN) (NL : FnOk P w K mg base CX0 1 fN fdN ["self"] (spRLen K CR)) (NB : Binds K fdN ["self"] [])
    (WR : DefAt P w K mg base (L2.CX P w) 3 "want_ring" ["value", "part"] (spWantR K CR cR) fR fdR) (WU : DefAt P w K mg base (L2.CX P w) 3 "want_lineup" ["value", "part"] (spWantU K CL cL) fL fdL) (WM : DefAt P w K mg base (L2.CX P w) 3 "want_as_many" ["one", "other"] (spAsM cM) fM fdM) :
    FnOk P w K mg base (L2.CX P w) 4 f fd ["ring", "lineup"] (spWLd K CR CL cR cL cM) := by
  refine F.okX scWLd (fun vs H Q E h => ?_) (fun cdv A outer s H vs Q E hr h => ?_)
  · obtain ⟨v, u, rfl, _⟩ := h
    rfl
  · refine ⟨_, pss_cons (ps_expr (pe_call WR.ok (hr.mono (by decide)) rfl WR.g WR.kp WR.b .nil (passes_call (takes_of rfl rfl rfl rfl) (fun _ _ _ _ h => h)) (pa_cons (pv 0) (pa_cons pe_str pa_nil))))
      (pss_cons (ps_expr (pe_call WU.ok (hr.mono (by decide)) rfl WU.g WU.kp WU.b .nil (passes_call (takes_of rfl rfl rfl rfl) (fun _ _ _ _ h => h)) (pa_cons (pv 1) (pa_cons pe_str pa_nil))))
      (pss_one (ps_expr (pe_call WM.ok (hr.mono (by decide)) rfl WM.g WM.kp WM.b .nil (passes_call (takes_of rfl rfl rfl rfl) (fun _ _ _ _ h => h)) (pa_cons (pe_callB (call_lenO NL (hr.mono (by decide)) NB) (by rfl) T.len PySem.boot_len (pa_cons (pv 0) pa_nil)) (pa_cons (pe_fld (pv 1) rfl) pa_nil)))))), ?_⟩
    obtain ⟨v, u, rfl, ⟨no, er⟩ | ⟨r, ls, rfl, ra, l3, l8, h⟩⟩ := h
    · exact ⟨_, rfl, v, "ring", rfl, .inr ⟨no, er⟩⟩
    refine ⟨_, rfl, _, "ring", rfl, .inl ⟨r, ls, rfl, ra.weak, ?_⟩⟩
    rcases h with ⟨no, er⟩ | ⟨l, W, rfl, lf, h⟩
    · exact ⟨_, rfl, u, "lineup", rfl, .inr ⟨no, er⟩⟩
    refine ⟨_, rfl, _, "lineup", rfl, .inl ⟨l, W, rfl, lf, ?_⟩⟩
    obtain ⟨dx, t, hr0, ht⟩ := id ra.weak
    obtain ⟨dl, t2, l2, xs, n, hl0, en, _⟩ := id lf
    refine ⟨_, rfl, r, CR, dx, _, rfl, hr0, NM.at_, NM.fn, r, ls, rfl, ra.weak, _, rfl, by omega, by omega, _, rfl, l, CL, dl, _, _, rfl, hl0, RL.cl, RL.nM, rfl, _, _, rfl, ?_⟩
    have en' : n = manyW W := en
    rcases h with ⟨ne, er⟩ | ⟨e, q⟩
    · exact .inr ⟨by omega, er⟩
    · exact .inl ⟨by omega, q⟩
end
end K
namespace K
open PySem L2 Rg LamX
open Evl (pss_cut)
theorem atN_lt {ns : List Int} (h : hadN ns = false) : ∃ e : atN ns < ns.length, ns.sum < 2 * ns[atN ns] := by
  unfold hadN at h
  obtain ⟨m, hm, g⟩ := List.all_eq_false.mp h
  have g : ns.sum < 2 * m := by
    have := of_decide_eq_false (Bool.eq_false_iff.mpr g)
    omega
  have lt : atN ns < ns.length := List.findIdx_lt_length_of_exists ⟨m, hm, decide_eq_true g⟩
  exact ⟨lt, of_decide_eq_true (List.findIdx_getElem (w := lt))⟩
theorem getD_at {α : Type} {l : List α} {i : Nat} {d : α} (h : i < l.length) : l[i]? = some (l.getD i d) := by
  rw [List.getD_eq_getElem?_getD, List.getElem?_eq_getElem h]
  rfl
/-- the papers on a line-up -/
def NetsR (C : Addr) (H : Hp) (p : Addr) (ns : List Int) : Prop := ∃ v, PapG C "nets" (fsNI v) H p ∧ FV H false 1 v (.tuple (ns.map PyData.int))
def GreatR (C : Addr) (H : Hp) (p : Addr) (W : List Strd) (ns : List Int) : Prop := ∃ v, PapG C "toogreat" (fsGI v (.int (ns.getD (atN ns) 0)) (.int (ns.sum - ns.getD (atN ns) 0))) H p ∧ FV H false 1 v (.tuple ((lotI (W.getD (atN ns) [])).map PyData.int))
theorem NetsR.ext {C : Addr} {H H' : Hp} {p : Addr} {ns : List Int} (h : NetsR C H p ns) (s : ExtN H H') : NetsR C H' p ns := let ⟨v, a, b⟩ := h; ⟨v, a.ext s, b.ext s⟩
theorem GreatR.ext {C : Addr} {H H' : Hp} {p : Addr} {W : List Strd} {ns : List Int} (h : GreatR C H p W ns) (s : ExtN H H') : GreatR C H' p W ns := let ⟨v, a, b⟩ := h; ⟨v, a.ext s, b.ext s⟩
theorem lot_at {H : Hp} : ∀ {xs : List V} {w : List Strd} {i : Nat}, Paired (LotT H) xs w → i < w.length → ∃ y, xs[i]? = some y ∧ LotT H y (w.getD i [])
  | _, _, i, p, h => by
    have e := getD_at (d := ([] : Strd)) h
    rw [← par_len p] at h
    obtain ⟨y, hy⟩ : ∃ y, _ = some y := ⟨_, List.getElem?_eq_getElem h⟩
    obtain ⟨st, hst, r⟩ := par_get p hy
    rw [e] at hst
    cases hst
    exact ⟨y, hy, r⟩
section
variable {P : Program} {w : World} {K : PySem.W.Frag} {mg : Str → Option Value} {base : Heap}
def spCL (K : PySem.W.Frag) (CR CL CN CG cR cL cM : Addr) : Sp := fun vs H Q E => ∃ v u : V, vs = [v, u] ∧ AskU K CR CL cR cL cM H E v u fun r l ls W => fitW ls.length W ∧ 0 < W.length ∧
  (hadN (netsW ls W) = true → ∀ p H', Same H H' → NetsR CN H' p (netsW ls W) → Q (.ref p) H') ∧ (hadN (netsW ls W) = false → ∀ p H', Same H H' → GreatR CG H' p W (netsW ls W) → Q (.ref p) H')
abbrev nCL : List Str := ["ring", "lineup", "nets", "at"]
theorem scCL : FnScope nCL ["ring", "lineup"] (defScope sCanLine) := ⟨rfl, rfl, rfl, by decide +kernel, rfl, by decide +kernel, by decide +kernel⟩
theorem ok_cl {CR CL CN CG cR cL cM f fW fN fT fIN fIG : Addr} {fd fdW fdN fdT fdIN fdIG : FuncData} (F : Fun K "can_line" "can_line" sCanLine f fd) (T : Bi mg) (RL : LineC K mg CL) (RN : NetsC K mg CN) (RG : TooGreatC K mg CG) (NP : NetsP P w K mg base CN fIN fdIN) (GP : TooGreatP P w K mg base CG fIG fdIG)
    (WL : DefAt P w K mg base (L2.CX P w) 4 "want_lined" ["ring", "lineup"] (spWLd K CR CL cR cL cM) fW fdW) (NE : DefAt P w K mg base CX0 1 "nets_of" ["ring", "lineup"] (spNets K CR CL) fN fdN) (TG : DefAt P w K mg base CX0 1 "too_great" ["nets"] (spTG K) fT fdT) :
    FnOk P w K mg base (L2.CX P w) 7 f fd ["ring", "lineup"] (spCL K CR CL CN CG cR cL cM) := by
  refine F.okX scCL (fun vs H Q E h => ?_) (fun cdv A outer s H vs Q E hr h => ?_)
  · obtain ⟨v, u, rfl, _⟩ := h
    rfl
  · have nd := scCL.nd
    refine ⟨_, pss_cons (ps_expr (pe_call WL.ok (hr.mono (by decide)) rfl WL.g WL.kp WL.b .nil (passes_call (takes_of rfl rfl rfl rfl) (fun _ _ _ _ h => h)) (pa_cons (pv 0) (pa_cons (pv 1) pa_nil))))
      (pss_cons (ps_set (i := 2) nd rfl (Or.inl rfl) (pe_call NE.ok (hr.mono (by decide)) rfl NE.g NE.kp NE.b .nil pass0 (pa_cons (pv 0) (pa_cons (pv 1) pa_nil))))
      (pss_cons (ps_set (i := 3) nd rfl (Or.inl rfl) (pe_call TG.ok (hr.mono (by decide)) rfl TG.g TG.kp TG.b .nil pass0 (pa_cons (pv 2) pa_nil)))
      (pss_cons (ps_if (pt_cmpR op_isN (pv 3) pe_non (nomark _)) (pss_one (ps_ret (pe_make NP.made NP.ok (hr.mono (by decide)) (by rfl) RN.g NP.b .nil pass0 (pa_cons (pv 2) pa_nil)))) pss_nil)
      (pss_one (ps_ret (pe_make GP.made GP.ok (hr.mono (by decide)) (by rfl) RG.g GP.b .nil pass0 (pa_cons (pe_ix (r := rIxT K) ix_tup (pe_fld (pv 1) rfl) (pv 3) (fun _ _ => rfl)) (pa_cons (pe_ix (r := rIxL K) ix_list (pv 2) (pv 3) (fun _ _ => rfl)) (pa_cons (pe_op op_sub (pe_callB (cr_sum rfl) (by rfl) T.sum (by decide +kernel) (pa_cons (pv 2) pa_nil)) (pe_ix (r := rIxL K) ix_list (pv 2) (pv 3) (fun _ _ => rfl))) pa_nil))))))))), ?_⟩
    obtain ⟨v, u, rfl, ⟨no, er⟩ | ⟨r, ls, rfl, ra, l3, l8, h⟩⟩ := h
    · exact ⟨_, rfl, _, rfl, v, u, rfl, .inl ⟨no, er⟩⟩
    refine ⟨_, rfl, _, rfl, _, u, rfl, .inr ⟨r, ls, rfl, ra, l3, l8, ?_⟩⟩
    rcases h with ⟨no, er⟩ | ⟨l, W, rfl, lf, h⟩
    · exact .inl ⟨no, er⟩
    refine .inr ⟨l, W, rfl, lf, ?_⟩
    rcases h with ⟨ne, er⟩ | ⟨e, fit, pos, k1, k2⟩
    · exact .inl ⟨ne, er⟩
    refine .inr ⟨e, ?_⟩
    have nl : (netsW ls W).length = W.length := by
      unfold netsW
      rw [List.length_map]
    have w8 := fit.1
    refine ⟨_, rfl, _, rfl, r, l, ls, W, rfl, ra, lf.w, fit, fun p H1 s1 np h1 => ?_⟩
    have h1 : H1 p = some (.lst ((netsW ls W).map V.int)) := h1
    have lf1 := lf.same s1
    refine ⟨_, rfl, p, netsW ls W, rfl, h1, by omega, by omega, netsW_nn ls W, fun e1 => ?_, fun e1 => ?_⟩
    · refine ⟨_, rfl, rfl, _, rfl, iteDT rfl ?_⟩
      refine ⟨_, rfl, madeN (v := .ref p) (d := .tuple ((netsW ls W).map PyData.int)) (.inr ⟨p, _, _, rfl, .inr ⟨rfl, h1⟩, rfl, by rw [List.length_map]; omega, fv_ints _⟩) fun x w1 H2 s2 f1 pg => ⟨rfl, ?_⟩⟩
      exact k1 e1 x H2 (s1.trans s2) ⟨w1, pg, f1⟩
    · obtain ⟨lt, _⟩ := atN_lt e1
      refine ⟨_, rfl, rfl, _, rfl, iteDF (fun z => nomatch z) ?_⟩
      obtain ⟨dl, t2, l2, xs, n, hl1, en, sw, hl2, px⟩ := id lf1
      obtain ⟨y, hy, la⟩ := lot_at (i := atN (netsW ls W)) px (by omega)
      obtain ⟨b, rfl, hb⟩ := id la
      have gn := getD_at (d := (0 : Int)) lt
      have gv : ((netsW ls W).map V.int)[atN (netsW ls W)]? = some (.int ((netsW ls W).getD (atN (netsW ls W)) 0)) := by
        rw [List.getElem?_map, gn]
        rfl
      have st8 : (lotI (W.getD (atN (netsW ls W)) [])).length ≤ 8 := by
        unfold lotI
        rw [List.length_map]
        exact (fit.2 _ (List.mem_of_getElem? (getD_at (by omega)))).1
      refine ⟨_, rfl, l, CL, dl, _, _, rfl, hl1, RL.cl, RL.nL, rfl, _, rfl, l2, xs, (atN (netsW ls W) : Nat), .ref b, rfl, rfl, .inl (.inl hl2), atI_nat hy, ?_⟩
      refine ⟨_, rfl, _, rfl, p, _, _, _, rfl, rfl, SqL.of h1, atI_nat gv, _, rfl, p, _, rfl, SqL.of h1, _, rfl, _, rfl, p, _, _, _, rfl, rfl, SqL.of h1, atI_nat gv, _, _, rfl, rfl, ?_⟩
      refine madeG (d1 := .tuple ((lotI (W.getD (atN (netsW ls W)) [])).map PyData.int)) (.inr ⟨b, _, _, rfl, .inl hb, rfl, by rw [List.length_map]; unfold lotI at st8; omega, fv_ints _⟩) (FV.int _) (FV.int _) fun x w1 w2 w3 H2 s2 f1 f2 f3 pg => ⟨rfl, ?_⟩
      obtain rfl := fv_int f2
      obtain rfl := fv_int f3
      exact k2 e1 x H2 (s1.trans s2) ⟨w1, pg, f1⟩
end
end K
/-! bool(x) of an own instance with __bool__ -/
namespace Rg
open PySem PySem.Spec PyProof.Rows L2
open PySem.Sem (wp)
theorem bool_newO {prog : Program} {w : World} (a : Addr) : MeetsIn prog w (Builtin.«bool.__new__» ⟨[.type "bool", .ref a], []⟩) (fun A R s => wpAny (model prog w) A.in1 (truthy (.ref a)) (fun b s' => R (.ok (.ret (.bool b))) s') (fun e s' => R (.error e) s') s) := by
  intro A R s h
  have f1 := PySem.F.conv_sub_bool
  unfold Builtin.«bool.__new__»
  refine wpAny_bind ?_
  have e1 : isType (Value.type "bool") = pure true := by first | rfl | kernel_rfl
  rw [e1]
  refine wpAny_pure ?_
  rw [f1]
  refine wpAny_bind (wpAny_pure ?_)
  have e2 : someArgs "bool" 0 1 { pos := [Value.ref a] } = pure [Value.ref a] := by first | rfl | kernel_rfl
  rw [e2]
  refine wpAny_bind (wpAny_pure ?_)
  refine wpAny_bind (wpAny_mono h (fun b s' q => wpAny_pure q) fun _ _ x => x)
section
variable {X : Cx} {k : Nat} {f : Addr} {fd : FuncData} {sp : Sp}
def rBoolO (K : PySem.W.Frag) (f : Addr) (sp : Sp) : List V → Hp → VK → Prop := fun vxs Hh Qq => ∃ a C dx fs, vxs = [.ref a] ∧ Hh a = some (.ins C dx fs) ∧ PySem.W.findIn K (.ref C) "__bool__" = some (some (.ref f)) ∧ PySem.W.isFn K (.ref f) = true ∧
  sp [.ref a] Hh (fun v H' => ∃ b, v = .bl b ∧ Qq (.bl b) H') E0
theorem call_boolO (F : FnOk X.prog X.w X.K X.mg X.base CX0 k f fd ["self"] sp) (hr : Room (k + 2) X.A) (hb : Binds X.K fd ["self"] []) : CallR X (.type "bool") (rBoolO X.K f sp) := by
  intro pns s σs Hh vxs uvs Qq Iv r h
  obtain ⟨a, C, dx, fs, rfl, eqa, hs, hf, qq⟩ := h
  obtain ⟨u, rfl, rlu⟩ := vals1 r
  obtain rfl : u = Value.ref a := rlu
  obtain ⟨mA, O, _⟩ := ins_get Iv.hok eqa
  obtain ⟨od, J, _⟩ := O.look
  obtain ⟨m, hF⟩ := Iv.fr
  refine callType_newIn PySem.F.called_bool PySem.F.newNe_bool (PySem.F.typeCall_bool_1 _) (PySem.F.newCall_bool_1 _) (fun obj => PySem.F.args_object_init_2 obj _) PySem.F.entry_bool_new (bool_newO a) ?_
  refine PySem.W.truthy_K hF Iv.ok.mod.kin J hs hf ?_
  have hlst : ([Value.ref a] ++ []).length = (["self"] : List Str).length := rfl
  refine wpAny_call (codeAny_mono (F.run X.A.in1.in1 X.stack s Hh ⟨[.ref a], []⟩ [.ref a] [.ref a] _ E0 hr.in1.in1 Iv.env0.in1.in1 (hb s [.ref a] Iv.kIn hlst) (.cons rfl .nil) qq) fun r s' hsq => ?_)
  cases r with
  | error e => exact hsq.elim
  | ok fl =>
    cases fl with
    | ret u =>
      obtain ⟨v, H', I3, rlv, b, ev, q3⟩ := Iv.after hsq
      subst ev
      cases rlv
      exact ⟨rfl, ⟨.bl b, H', I3, rfl, q3⟩⟩
    | next => exact False.elim hsq
    | brk => exact False.elim hsq
    | cont => exact False.elim hsq
end
end Rg
namespace K
open PySem L2 Rg LamX
open Evl (pss_cut)
/-- a def whose code object stands at c -/
structure FunC (K : PySem.W.Frag) (x qual : Str) (st : Stmt) (f : Addr) (fd : FuncData) (c : Addr) : Prop where
  ex : ∃ (oc : Value) (od : Option Addr) (kV doc pm : Value) (an : Option Addr) (ct : Value) (osl : Array (Option Value)),
    fd = PySem.W.fnOf x qual (defArgs st) (defBody st) (defScope st) .none kV doc pm an (.ref c) ct ∧ K.lookup f = some ⟨oc, od, .func fd, osl⟩ ∧ PySem.W.codeIn K (.ref c) qual = true
theorem FunC.ok {P : Program} {w : World} {K : PySem.W.Frag} {mg : Str → Option Value} {base : Heap} {x qual : Str} {st : Stmt} {f c : Addr} {fd : FuncData} {N ps : List Str} {k : Nat} {sp : Sp} (F : FunC K x qual st f fd c) (S : FnScope N ps (defScope st)) (len : ∀ vs H Q E, sp vs H Q E → vs.length = ps.length)
    (hbody : ∀ (A : Around) (outer : List Env) (s : Shared) (H : Hp) (vs : List V) (Q : VK) (E : XK), Room k (A.deeper (PyProof.Rows.envOfC qual (defScope st) s.heap.objs.size f (.ref c))) → sp vs H Q E →
      ∃ t, PSs (cxOf CX0 P w K mg base N qual (defScope st) f (.ref c) A outer s H E).nox (defBody st) t ∧ t { nx := fun _ H' => Q .non H', rt := Q } (L2.start N vs) H) : FnOk P w K mg base CX0 (k + 1) f fd ps sp := by
  obtain ⟨oc, od, kV, doc, pm, an, ct, osl, rfl, lk, hcd⟩ := F.ex
  exact fn_of lk hcd S len fun A outer s H vs Q E hr hsp => by
    obtain ⟨t, h, q⟩ := hbody A outer s H vs Q E hr hsp
    exact ⟨t, h.nox, q⟩
/-- a promise that no error is told in -/
theorem fn_calm {P : Program} {w : World} {K : PySem.W.Frag} {mg : Str → Option Value} {base : Heap} {k : Nat} {f : Addr} {fd : FuncData} {ps : List Str} {sp : Sp} (F : FnOk P w K mg base (L2.CX P w) k f fd ps sp) : FnOk P w K mg base CX0 k f fd ps (fun vs H Q _ => sp vs H Q fun _ _ _ => False) :=
  ⟨fun vs H Q E h => F.len _ _ _ _ h, fun A outer s H args us vs Q E hr e0 hb hv h => codeAny_mono (F.run A outer s H args us vs Q (fun _ _ _ => False) hr e0 hb hv h) fun r s' hq => by
    cases r with
    | ok fl => cases fl <;> exact hq
    | error e =>
      obtain ⟨_, _, _, _, _, _, _, _, _, _, _, _, z⟩ := hq
      exact z⟩
theorem had_iff {ns : List Int} : hadN ns = true ↔ ∀ m ∈ ns, 2 * m ≤ ns.sum := by
  unfold hadN
  rw [List.all_eq_true]
  exact ⟨fun h m hm => of_decide_eq_true (h m hm), fun h m hm => decide_eq_true (h m hm)⟩
theorem had_perm {a b : List Int} (p : a.Perm b) : hadN a = hadN b := by
  rw [Bool.eq_iff_iff, had_iff, had_iff, sum_perm p]
  exact ⟨fun h m hm => h m (p.mem_iff.mpr hm), fun h m hm => h m (p.mem_iff.mp hm)⟩
theorem netsW_app (ls : List Int) (a b : List Strd) : netsW ls (a ++ b) = netsW ls a ++ netsW ls b := by
  unfold netsW
  rw [List.map_append]
theorem net_app (ls : List Int) (a b : Strd) : net ls (a ++ b) = net ls a + net ls b := by
  unfold net
  rw [List.map_append, List.sum_append]
theorem flat_perm {a b : List Strd} (p : a.Perm b) : (flatB a).Perm (flatB b) := by
  induction p with
  | nil => exact List.Perm.refl _
  | cons x _ ih => exact List.Perm.append_left _ ih
  | swap x y l =>
    unfold flatB
    simp only [List.flatMap_cons, ← List.append_assoc]
    exact List.Perm.append_right _ List.perm_append_comm
  | trans _ _ h1 h2 => exact h1.trans h2
theorem flat_asS : ∀ way : List Strd, (flatB (way.map asS)).Perm (flatB way)
  | [] => List.Perm.refl _
  | st :: way => by
    unfold flatB
    simp only [List.map_cons, List.flatMap_cons]
    exact (asS_bars st).append (flat_asS way)
theorem due_good {n : Nat} {way : List Strd} (g : goodV n way) : goodV n (dueW way) := by
  have p : (dueW way).Perm (way.map asS) := srtW_perm _
  refine ⟨fun st m => ?_, ?_, ?_⟩
  · obtain ⟨q, hq, rfl⟩ := List.mem_map.mp (p.mem_iff.mp m)
    exact asS_good (g.st q hq)
  · rw [p.length_eq, List.length_map]
    exact g.ln
  · exact ((flat_perm p).trans (flat_asS way)).trans g.pm
theorem flat_len : ∀ w : List Strd, ((flatB w).length : Int) = manyW w
  | [] => rfl
  | st :: w => by
    have ih := flat_len w
    unfold flatB at ih ⊢
    unfold manyW at ih ⊢
    rw [List.flatMap_cons, List.length_append, List.length_map, List.map_cons, List.sum_cons, ← ih]
    omega
theorem good_many {n : Nat} {w : List Strd} (g : goodV n w) : manyW w = n := by
  rw [← flat_len, g.pm.length_eq, rngI_len]
theorem good_pos {n : Nat} {w : List Strd} (g : goodV n w) (h : 0 < n) : 0 < w.length := by
  cases w with
  | nil =>
    have := good_many g
    unfold manyW at this
    simp at this
    omega
  | cons x l => simp
theorem good_fit {n : Nat} {w : List Strd} (g : goodV n w) : fitW n w := by
  refine ⟨g.ln, fun st m => ⟨(g.st st m).2.1, fun q hq => ?_⟩⟩
  have h1 : q.1 ∈ flatB w := List.mem_flatMap.mpr ⟨st, m, List.mem_map.mpr ⟨q, hq, rfl⟩⟩
  have h2 := g.pm.mem_iff.mp h1
  unfold rngI at h2
  obtain ⟨i, hi, e⟩ := List.mem_map.mp h2
  have := List.mem_range.mp hi
  exact ⟨by omega, by omega, (g.st st m).2.2 q hq⟩
/-- just one net is too great -/
theorem at_only {ns : List Int} (nn : ∀ y ∈ ns, 0 ≤ y) (h : hadN ns = false) {j : Nat} {m : Int} (hj : ns[j]? = some m) : (ns.sum - m < m) ↔ j = atN ns := by
  obtain ⟨lt, g⟩ := atN_lt h
  refine ⟨fun q => (atN_of nn hj (by omega)).symm, fun e => ?_⟩
  subst e
  rw [List.getElem?_eq_getElem lt] at hj
  cases hj
  omega
theorem had_due {ls : List Int} {n : Nat} {way : List Strd} (g : goodV n way) : hadN (netsW ls (dueW way)) = hadN (netsW ls way) := by
  have p : (dueW way).Perm (way.map asS) := srtW_perm _
  rw [show netsW ls (dueW way) = (dueW way).map (fun st => absI (net ls st)) from rfl, had_perm (p.map fun st => absI (net ls st))]
  have e : (way.map asS).map (fun st => absI (net ls st)) = netsW ls way := by
    unfold netsW
    rw [List.map_map]
    exact List.map_congr_left fun st m => net_asS (g.st st m)
  rw [e]
section
variable {P : Program} {w : World} {K : PySem.W.Frag} {mg : Str → Option Value} {base : Heap}
/-! ### can_line, where no error comes -/
def spCLc (K : PySem.W.Frag) (CR CL CN CG : Addr) : Sp := fun vs H Q _ => ∃ (r l : Addr) (ls : List Int) (W : List Strd), vs = [.ref r, .ref l] ∧ RingAt K CR H r ls ∧ 3 ≤ ls.length ∧ ls.length ≤ 8 ∧ LineF CL H l W ∧ goodV ls.length W ∧
  (hadN (netsW ls W) = true → ∀ p H', Same H H' → NetsR CN H' p (netsW ls W) → Q (.ref p) H') ∧ (hadN (netsW ls W) = false → ∀ p H', Same H H' → GreatR CG H' p W (netsW ls W) → Q (.ref p) H')
theorem ok_clc {CR CL CN CG cR cL cM f : Addr} {fd : FuncData} {k : Nat} (F : FnOk P w K mg base (L2.CX P w) k f fd ["ring", "lineup"] (spCL K CR CL CN CG cR cL cM)) : FnOk P w K mg base CX0 k f fd ["ring", "lineup"] (spCLc K CR CL CN CG) :=
  (fn_calm F).imp fun vs H Q E ⟨r, l, ls, W, hv, ra, l3, l8, lf, g, k1, k2⟩ => ⟨.ref r, .ref l, hv, .inr ⟨r, ls, rfl, ra, l3, l8, .inr ⟨l, W, rfl, lf, .inr ⟨good_many g, good_fit g, good_pos g (by omega), k1, k2⟩⟩⟩⟩
/-- the truth of the papers of a class -/
structure PapB (P : Program) (w : World) (K : PySem.W.Frag) (mg : Str → Option Value) (base : Heap) (C fB : Addr) (fdB : FuncData) (b : Bool) : Prop where
  ok : FnOk P w K mg base CX0 1 fB fdB ["self"] (fun vs H Q _ => ∃ v, vs = [v] ∧ Q (.bl b) H)
  b : Binds K fdB ["self"] []
  f : PySem.W.findIn K (.ref C) "__bool__" = some (some (.ref fB))
  fn : PySem.W.isFn K (.ref fB) = true
end
end K
namespace K
open PySem L2 Rg LamX
open Evl (pss_cut)
def max3 (i j k : Int) : Int := if (if i < j then j else i) < k then k else (if i < j then j else i)
def rMax3 : List V → Hp → VK → Prop := fun xs H Q => ∃ i j k : Int, xs = [.int i, .int j, .int k] ∧ Q (.int (max3 i j k)) H
theorem cr_max3 {X : Cx} (hc : X.calm = true) : CallR X (.builtin "max") rMax3 := by
  intro pins s σ H xs us Q I r h
  obtain ⟨i, j, k, rfl, q⟩ := h
  refine call_max3Nu hc pins s σ H _ us Q I r ⟨.int i, .int j, .int k, .int (max3 i j k), rfl, ?_, q⟩
  unfold nuMax3 nuMax2 nuLt nuCB max3
  by_cases h1 : i < j
  · by_cases h2 : j < k <;> simp [h1, h2]
  · by_cases h2 : i < k <;> simp [h1, h2]
theorem cut_last (xs : List V) (h : 1 ≤ xs.length) : cutV xs none (some (-1)) = xs.take (xs.length - 1) := by
  unfold cutV
  show (List.take (HT.sIx xs.length xs.length (some (-1))) xs).drop 0 = _
  rw [List.drop_zero]
  congr 1
  unfold HT.sIx
  simp
  omega
/-- the least reach of nets, end to end -/
structure LowAt (ns : List Int) (low : Int) : Prop where
  nn : 0 ≤ low
  ge : ∀ m ∈ ns, 2 * m - ns.sum ≤ low
  is : low = 0 ∨ ∃ m ∈ ns, low = 2 * m - ns.sum
theorem LowAt.step {ns : List Int} {low n : Int} (h : LowAt ns low) (hn : 0 ≤ n) : LowAt (ns ++ [n]) (max3 0 (n - ns.sum) (low - n)) := by
  have es : (ns ++ [n]).sum = ns.sum + n := by rw [List.sum_append]; simp
  have e3 : ∀ a b c : Int, a ≤ max3 a b c ∧ b ≤ max3 a b c ∧ c ≤ max3 a b c ∧ (max3 a b c = a ∨ max3 a b c = b ∨ max3 a b c = c) := fun a b c => by
    unfold max3
    split <;> split <;> omega
  obtain ⟨k1, k2, k3, k4⟩ := e3 0 (n - ns.sum) (low - n)
  generalize max3 0 (n - ns.sum) (low - n) = low' at k1 k2 k3 k4 ⊢
  refine ⟨k1, fun m hm => ?_, ?_⟩
  · rw [es]
    rcases List.mem_append.mp hm with hm | hm
    · have := h.ge m hm
      omega
    · rw [List.mem_singleton.mp hm]
      omega
  · rw [es]
    rcases k4 with e | e | e
    · exact .inl e
    · exact .inr ⟨n, List.mem_append_right _ (List.mem_singleton_self _), by omega⟩
    · rcases h.is with z | ⟨m, hm, z⟩
      · exact .inl (by omega)
      · exact .inr ⟨m, List.mem_append_left _ hm, by omega⟩
theorem LowAt.had {ns : List Int} {low n : Int} (h : LowAt ns low) (hn : 0 ≤ n) : (decide (low ≤ n) && decide (n ≤ ns.sum)) = hadN (ns ++ [n]) := by
  have es : (ns ++ [n]).sum = ns.sum + n := by rw [List.sum_append]; simp
  rw [Bool.eq_iff_iff, Bool.and_eq_true, decide_eq_true_iff, decide_eq_true_iff]
  unfold hadN
  rw [List.all_eq_true]
  refine ⟨fun ⟨h1, h2⟩ m hm => decide_eq_true ?_, fun q => ⟨?_, ?_⟩⟩
  · rw [es]
    rcases List.mem_append.mp hm with hm | hm
    · have := h.ge m hm
      omega
    · rw [List.mem_singleton.mp hm]
      omega
  · rcases h.is with z | ⟨m, hm, z⟩
    · omega
    · have := of_decide_eq_true (q m (List.mem_append_left _ hm))
      rw [es] at this
      omega
  · have := of_decide_eq_true (q n (List.mem_append_right _ (List.mem_singleton_self _)))
    rw [es] at this
    omega
section
variable {P : Program} {w : World} {K : PySem.W.Frag} {mg : Str → Option Value} {base : Heap}
/-! ### _law_is_home -/
def spHM : Sp := fun vs H Q _ => ∃ (a : Addr) (ns : List Int), vs = [.ref a] ∧ H a = some (.lst (ns.map V.int)) ∧ 0 < ns.length ∧ ns.length ≤ 1000 ∧ (∀ y ∈ ns, 0 ≤ y) ∧ ∀ H', Same H H' → Q (.bl (hadN ns)) H'
abbrev nHM : List Str := ["_law_nets", "_law_low", "_law_high", "_law_net"]
theorem scHM : FnScope nHM ["_law_nets"] (defScope sLwIsHome) := ⟨rfl, rfl, rfl, by decide +kernel, rfl, by decide +kernel, by decide +kernel⟩
theorem ok_hm {f : Addr} {fd : FuncData} (F : Fun K "_law_is_home" "_law_is_home" sLwIsHome f fd) (T : Bi mg) : FnOk P w K mg base CX0 1 f fd ["_law_nets"] spHM := by
  refine F.ok scHM (fun vs H Q E h => ?_) (fun cdv A outer s H vs Q E hr h => ?_)
  · obtain ⟨a, ns, rfl, _⟩ := h
    rfl
  · have nd := scHM.nd
    refine ⟨_, (pss_cons (ps_asg (pe_tup (pa_cons pe_int (pa_cons pe_int pa_nil))) (pg_tup (by rfl) (pgs_cons (pg_name (i := 1) nd rfl (Or.inl rfl)) (pgs_cons (pg_name (i := 2) nd rfl (Or.inl rfl)) pgs_nil))))
      (pss_cons (ps_for PassesOwn.never rfl (pi_list (pe_slice sl_list (pv 0) po_none (po_some (pe_un un_neg pe_int)))) (pg_name (i := 3) nd rfl (Or.inl rfl)) (pss_cons (ps_set (i := 1) nd rfl (Or.inl rfl) (pe_callB (cr_max3 rfl) (by rfl) T.max (by decide +kernel) (pa_cons pe_int (pa_cons (pe_op op_sub (pv 3) (pv 2)) (pa_cons (pe_op op_sub (pv 1) (pv 3)) pa_nil)))))
      (pss_one (ps_set (i := 2) nd rfl (Or.inl rfl) (pe_op op_add (pv 2) (pv 3))))))
      (pss_one (ps_ret (pe_chain op_le op_le (pv 1) (pe_ix (r := rIxL K) ix_list (pv 0) (pe_un un_neg pe_int) (fun _ _ => rfl)) (pv 2)))))), ?_⟩
    obtain ⟨a, ns, rfl, ha, pos, l1, nn, k⟩ := h
    refine ⟨(by show 2 ≤ sizeLine; decide), fun t0 nt0 => ?_⟩
    have s0 : Same H (upd H t0 (.tup [.int 0, .int 0])) := (Same.refl H).new nt0
    refine ⟨t0, _, rfl, .inl (.inl upd_same), rfl, _, _, rfl, _, _, rfl, rfl, ?_⟩
    generalize upd H t0 (.tup [.int 0, .int 0]) = H0 at s0 ⊢
    have ha0 := s0 _ _ ha
    refine ⟨_, rfl, _, rfl, _, rfl, a, _, rfl, SqL.of ha0, fun p hp => ?_⟩
    rw [cut_last _ (by rw [List.length_map]; omega), List.length_map, ← List.map_take]
    have s1 : Same H0 (upd H0 p (.lst ((ns.take (ns.length - 1)).map V.int))) := (Same.refl H0).new hp
    have hp1 : upd H0 p (.lst ((ns.take (ns.length - 1)).map V.int)) p = some (.lst ((ns.take (ns.length - 1)).map V.int)) := upd_same
    generalize upd H0 p (.lst ((ns.take (ns.length - 1)).map V.int)) = H1 at s1 hp1 ⊢
    refine ⟨p, rfl, ⟨_, SqL.of hp1⟩, for_list (K := K) (a := p) (xs := (ns.take (ns.length - 1)).map V.int) (fun i σ H' => ∃ (low : Int) (z : Option V), σ = [some (.ref a), some (.int low), some (.int ((ns.take i).sum)), z] ∧ H' = H1 ∧ LowAt (ns.take i) low)
      ⟨0, none, by rw [List.take_zero]; rfl, rfl, by rw [List.take_zero]; exact ⟨Int.le_refl _, fun m hm => (nomatch hm), .inl rfl⟩⟩ (fun i σ H' _ ⟨_, _, _, e, _⟩ => by rw [e]; exact SqL.of hp1) ?_ ?_⟩
    · rintro i x σ H' hi ⟨low, z, rfl, rfl, la⟩
      obtain ⟨n, hn, rfl⟩ := int_at hi
      have hn' : ns[i]? = some n := by
        rw [List.getElem?_take] at hn
        split at hn
        · exact hn
        · cases hn
      refine ⟨_, rfl, _, rfl, _, _, rfl, rfl, _, rfl, _, rfl, _, _, rfl, rfl, _, _, _, rfl, _, rfl, _, rfl, _, _, rfl, rfl, max3 0 (n - (ns.take i).sum) (low - n), some (.int n), ?_, rfl, ?_⟩
      · rw [← take_snoc hn', List.sum_append, List.sum_cons, List.sum_nil, Int.add_zero]
        rfl
      · rw [← take_snoc hn']
        exact la.step (nn n (List.mem_of_getElem? hn'))
    · rintro σ H' ⟨low, z, rfl, rfl, la⟩
      rw [List.length_map, List.length_take, Nat.min_eq_left (by omega)] at la ⊢
      obtain ⟨n, hn⟩ : ∃ n, ns[ns.length - 1]? = some n := ⟨_, List.getElem?_eq_getElem (by omega)⟩
      have en : ns.take (ns.length - 1) ++ [n] = ns := by
        rw [take_snoc hn, show ns.length - 1 + 1 = ns.length by omega, List.take_length]
      have z1 := la.had (nn n (List.mem_of_getElem? hn))
      rw [en] at z1
      have hb : atI (ns.map V.int) (-1) = some (.int n) := at_back (by rw [List.length_map]; omega) (by rw [List.length_map, List.getElem?_map, hn]; rfl)
      have hk := k H' (s0.trans s1)
      rw [← z1] at hk
      refine ⟨_, rfl, _, rfl, _, rfl, a, _, _, _, rfl, rfl, SqL.of (s1 _ _ ha0), hb, _, _, rfl, rfl, _, rfl, ?_⟩
      by_cases q : low ≤ n
      · rw [decide_eq_true q, Bool.true_and] at hk
        exact iteDT q ⟨_, rfl, _, _, rfl, rfl, hk⟩
      · rw [decide_eq_false q, Bool.false_and] at hk
        exact iteDF q hk
end
end K
namespace K
open PySem L2 Rg LamX
open Evl (pss_cut)
section
variable {P : Program} {w : World} {K : PySem.W.Frag} {mg : Str → Option Value} {base : Heap}
/-! ### is_had -/
def spIH (K : PySem.W.Frag) (CR CL : Addr) : Sp := fun vs H Q _ => ∃ (r l : Addr) (ls : List Int) (W : List Strd), vs = [.ref r, .ref l] ∧ RingAt K CR H r ls ∧ LineF CL H l W ∧ goodV ls.length W ∧ 0 < ls.length ∧ ∀ H', Same H H' → Q (.bl (hadN (netsW ls W))) H'
theorem scIH : FnScope ["ring", "lineup"] ["ring", "lineup"] (defScope sIsHad) := ⟨rfl, rfl, rfl, by decide +kernel, rfl, by decide +kernel, by decide +kernel⟩
theorem ok_ih {CR CL f fN fT : Addr} {fd fdN fdT : FuncData} (F : Fun K "is_had" "is_had" sIsHad f fd) (T : Bi mg)
    (NE : DefAt P w K mg base CX0 1 "nets_of" ["ring", "lineup"] (spNets K CR CL) fN fdN) (TG : DefAt P w K mg base CX0 1 "too_great" ["nets"] (spTG K) fT fdT) : FnOk P w K mg base CX0 2 f fd ["ring", "lineup"] (spIH K CR CL) := by
  refine F.ok scIH (fun vs H Q E h => ?_) (fun cdv A outer s H vs Q E hr h => ?_)
  · obtain ⟨r, l, ls, W, rfl, _⟩ := h
    rfl
  · refine ⟨_, pss_one (ps_ret (pe_cmpR op_isN (pe_call TG.ok (hr.mono (by decide)) rfl TG.g TG.kp TG.b .nil pass0 (pa_cons (pe_call NE.ok (hr.mono (by decide)) rfl NE.g NE.kp NE.b .nil pass0 (pa_cons (pv 0) (pa_cons (pv 1) pa_nil))) pa_nil)) pe_non (nomark _))), ?_⟩
    obtain ⟨r, l, ls, W, rfl, ra, lf, gw, l0, k⟩ := h
    have fit := good_fit gw
    have pos := good_pos gw l0
    have w8 := fit.1
    have nl : (netsW ls W).length = W.length := by
      unfold netsW
      rw [List.length_map]
    refine ⟨_, rfl, _, rfl, r, l, ls, W, rfl, ra, lf.w, fit, fun p H1 s1 np h1 => ?_⟩
    have h1 : H1 p = some (.lst ((netsW ls W).map V.int)) := h1
    refine ⟨p, netsW ls W, rfl, h1, by omega, by omega, netsW_nn ls W, fun e1 => ?_, fun e1 => ?_⟩
    · have z := k H1 s1
      rw [e1] at z
      exact ⟨rfl, z⟩
    · have z := k H1 s1
      rw [e1] at z
      exact ⟨rfl, z⟩
/-! ### want_lot, what it gives in order -/
def spWSL (K : PySem.W.Frag) (c : Cs) : Sp := fun vs H Q E => ∃ (a : Addr) (xs : List V) (kf : V → String) (many : Int) (part : Str), vs = [.ref a, .int many, .str part] ∧ Knd K H (.ref a) "list" ∧ SqL K H a xs ∧ xs.length ≤ 1000 ∧ (∀ x ∈ xs, Knd K H x (kf x)) ∧
  (((xs.all fun x => decide (kf x = "int")) = false ∧ Errs E c.l "part" (.str part) H) ∨
   ∃ ns, xs = ns.map V.int ∧ (xs.all fun x => decide (kf x = "int")) = true ∧ LotFin E c part H (res many ns) fun ns => ∀ (p : Addr) (ms : List Int) (H' : Hp), ms.Perm ns → ms.Pairwise (· ≤ ·) → Same H H' → H' p = some (.tup (ms.map V.int)) → Q (.ref p) H')
def spWST (K : PySem.W.Frag) (c : Cs) : Sp := fun vs H Q E => ∃ (a : Addr) (ns : List Int) (many : Int) (part : Str), vs = [.ref a, .int many, .str part] ∧ Knd K H (.ref a) "tuple" ∧ SqT K H a (ns.map V.int) ∧ ns.length ≤ 1000 ∧
  LotFin E c part H (res many ns) fun ns => ∀ (p : Addr) (ms : List Int) (H' : Hp), ms.Perm ns → ms.Pairwise (· ≤ ·) → Same H H' → H' p = some (.tup (ms.map V.int)) → Q (.ref p) H'
theorem ok_wsL {f fN fB fT : Addr} {c : Cs} {fL fTI : Addr} {fd fdN fdB fdT fdL fdTI : FuncData} (F : Fun K "want_lot" "want_lot" sWantLot f fd) (T : Bi mg) (N : DefAt P w K mg base CX0 2 "is_numbers" ["value"] (spNumsL K) fN fdN) (B : DefAt P w K mg base (L2.CX P w) 3 "want_bar" ["value", "many"] (spWantBar c.n) fB fdB)
    (Tw : DefAt P w K mg base CX0 3 "first_twice" ["values"] (spTwL K) fT fdT) (L : ErrAt P w K mg base "BadLot" "part" c.l fL fdL) (TI : ErrAt P w K mg base "Twice" "value" c.t fTI fdTI) : FnOk P w K mg base (L2.CX P w) 4 f fd ["value", "many", "part"] (spWSL K c) := by
  refine F.okX scWL (fun vs H Q E h => ?_) (fun cdv A outer s H vs Q E hr h => ?_)
  · obtain ⟨a, xs, kf, many, part, rfl, _⟩ := h
    rfl
  · have nd := scWL.nd
    have hr2 : Room 2 (A.deeper (PyProof.Rows.envOfC "want_lot" (defScope sWantLot) s.heap.objs.size f cdv)) := hr.mono (by decide)
    refine ⟨_, pss_cons (ps_if (pt_not (pt_val (pe_call N.ok hr2 rfl N.g N.kp N.b .nil pass0 (pa_cons (pv 0) pa_nil)))) (pss_one (ps_raise rfl (takes_of rfl rfl rfl rfl) (pmk_oex L.oex L.ic L.ti L.ok hr2 L.b .nil pass0 rfl L.g (pa_cons (pv 2) pa_nil)))) pss_nil)
      (pss_cons (ps_for (passes_of rfl) rfl (pi_list (pv 0)) (pg_name (i := 3) nd rfl (Or.inl rfl)) (pss_one (ps_expr (pe_call B.ok hr rfl B.g B.kp B.b .nil (passes_call (takes_of rfl rfl rfl rfl) (fun _ _ _ _ h => h)) (pa_cons (pv 3) (pa_cons (pv 1) pa_nil))))))
      (pss_cons (ps_set (i := 4) nd rfl (Or.inl rfl) (pe_call Tw.ok hr rfl Tw.g Tw.kp Tw.b .nil pass0 (pa_cons (pv 0) pa_nil)))
      (pss_cons (ps_if (pt_cmpR op_notN (pv 4) pe_non (nomark _)) (pss_one (ps_raise rfl (takes_of rfl rfl rfl rfl) (pmk_oex TI.oex TI.ic TI.ti TI.ok hr2 TI.b .nil pass0 rfl TI.g (pa_cons (pv 4) pa_nil)))) pss_nil)
      (pss_one (ps_ret (pe_callTy call_tuple_of (by rfl) T.tuple (by decide +kernel) (pa_cons (pe_callB cr_sortedI (by rfl) T.sorted (by decide +kernel) (pa_cons (pv 0) pa_nil)) pa_nil))))))), ?_⟩
    obtain ⟨a, xs, kf, many, part, rfl, hk, hs, hl, hx, q⟩ := h
    refine ⟨_, rfl, a, xs, kf, rfl, hk, hs, hl, hx, fun H1 s1 => ⟨_, rfl, ?_⟩⟩
    rcases q with ⟨e, q⟩ | ⟨ns, rfl, e, q⟩
    · rw [e]
      exact iteT ⟨_, rfl, err_made L.oex L.nf (q.later s1)⟩
    · rw [e]
      refine iteF ?_
      refine ⟨_, rfl, a, rfl, ⟨_, s1.seq hs⟩, for_list (K := K) (a := a) (xs := ns.map V.int) (fun i σ H' => ∃ (b : Option V), σ = [some (.ref a), some (.int many), some (.str part), b, none] ∧ Same H H' ∧ ∀ x ∈ ns.take i, isBar many x = true)
        ⟨none, rfl, s1, fun x hx => nomatch hx⟩ (fun i σ H' _ ⟨_, _, s, _⟩ => s.seq hs) ?_ ?_⟩
      · rintro i x σ H' hi ⟨b, rfl, s2, al⟩
        obtain ⟨z, hz, rfl⟩ := int_at hi
        refine ⟨_, rfl, _, rfl, z, many, rfl, ?_⟩
        by_cases c : isBar many z = true
        · obtain ⟨c1, c2⟩ := isBar_iff.mp c
          refine .inl ⟨c1, c2, fun H3 s3 => ⟨_, rfl, s2.trans s3, fun y hy => ?_⟩⟩
          rw [← take_snoc hz] at hy
          rcases List.mem_append.mp hy with m | m
          · exact al y m
          · rw [List.mem_singleton.mp m]
            exact c
        · refine .inr ⟨fun z => c (isBar_iff.mpr z), ?_⟩
          rw [res_bar al hz c] at q
          exact Errs.later q s2
      · rintro σ H' ⟨b, rfl, s2, al⟩
        rw [List.length_map, List.take_length] at al
        rw [res_all al] at q
        rw [List.length_map] at hl
        refine ⟨_, rfl, a, ns, rfl, s2.seq hs, hl, fun H3 s3 => ?_⟩
        have s23 := s2.trans s3
        cases e2 : ft [] ns with
        | some z =>
          rw [e2] at q
          exact ⟨_, rfl, rfl, _, rfl, iteT ⟨_, rfl, err_made TI.oex TI.nf (Errs.later q s23)⟩⟩
        | none =>
          rw [e2] at q
          refine ⟨_, rfl, rfl, _, rfl, iteF ?_⟩
          refine ⟨_, rfl, a, ns, rfl, s23.seq hs, fun ms p pm od hp => ⟨p, _, rfl, .inl ⟨SqL.of upd_same, fun t ht => ?_⟩⟩⟩
          exact q t ms _ pm od ((s23.new hp).new ht) upd_same
theorem ok_wsT {f fN fB fT : Addr} {c : Cs} {fL fTI : Addr} {fd fdN fdB fdT fdL fdTI : FuncData} (F : Fun K "want_lot" "want_lot" sWantLot f fd) (T : Bi mg) (N : DefAt P w K mg base CX0 2 "is_numbers" ["value"] (spNumsT K) fN fdN) (B : DefAt P w K mg base (L2.CX P w) 3 "want_bar" ["value", "many"] (spWantBar c.n) fB fdB)
    (Tw : DefAt P w K mg base CX0 3 "first_twice" ["values"] (spTwT K) fT fdT) (L : ErrAt P w K mg base "BadLot" "part" c.l fL fdL) (TI : ErrAt P w K mg base "Twice" "value" c.t fTI fdTI) : FnOk P w K mg base (L2.CX P w) 4 f fd ["value", "many", "part"] (spWST K c) := by
  refine F.okX scWL (fun vs H Q E h => ?_) (fun cdv A outer s H vs Q E hr h => ?_)
  · obtain ⟨a, ns, many, part, rfl, _⟩ := h
    rfl
  · have nd := scWL.nd
    have hr2 : Room 2 (A.deeper (PyProof.Rows.envOfC "want_lot" (defScope sWantLot) s.heap.objs.size f cdv)) := hr.mono (by decide)
    refine ⟨_, pss_cons (ps_if (pt_not (pt_val (pe_call N.ok hr2 rfl N.g N.kp N.b .nil pass0 (pa_cons (pv 0) pa_nil)))) (pss_one (ps_raise rfl (takes_of rfl rfl rfl rfl) (pmk_oex L.oex L.ic L.ti L.ok hr2 L.b .nil pass0 rfl L.g (pa_cons (pv 2) pa_nil)))) pss_nil)
      (pss_cons (ps_for (passes_of rfl) rfl (pi_tup (pv 0)) (pg_name (i := 3) nd rfl (Or.inl rfl)) (pss_one (ps_expr (pe_call B.ok hr rfl B.g B.kp B.b .nil (passes_call (takes_of rfl rfl rfl rfl) (fun _ _ _ _ h => h)) (pa_cons (pv 3) (pa_cons (pv 1) pa_nil))))))
      (pss_cons (ps_set (i := 4) nd rfl (Or.inl rfl) (pe_call Tw.ok hr rfl Tw.g Tw.kp Tw.b .nil pass0 (pa_cons (pv 0) pa_nil)))
      (pss_cons (ps_if (pt_cmpR op_notN (pv 4) pe_non (nomark _)) (pss_one (ps_raise rfl (takes_of rfl rfl rfl rfl) (pmk_oex TI.oex TI.ic TI.ti TI.ok hr2 TI.b .nil pass0 rfl TI.g (pa_cons (pv 4) pa_nil)))) pss_nil)
      (pss_one (ps_ret (pe_callTy call_tuple_of (by rfl) T.tuple (by decide +kernel) (pa_cons (pe_callB cr_sortedT (by rfl) T.sorted (by decide +kernel) (pa_cons (pv 0) pa_nil)) pa_nil))))))), ?_⟩
    obtain ⟨a, ns, many, part, rfl, hk, hs, hl, q⟩ := h
    refine ⟨_, rfl, a, _, (fun _ => "int"), rfl, hk, hs, (by rw [List.length_map]; exact hl), (fun x hx => ?_), fun H1 s1 => ⟨_, rfl, ?_⟩⟩
    · obtain ⟨z, _, rfl⟩ := List.mem_map.mp hx
      exact Knd.int
    · have e : ((ns.map V.int).all fun x => decide (("int" : String) = "int")) = true := List.all_eq_true.mpr fun _ _ => rfl
      rw [e]
      refine iteF ?_
      refine ⟨_, rfl, a, rfl, ⟨_, s1.tup hs⟩, for_tup (K := K) (a := a) (xs := ns.map V.int) (fun i σ H' => ∃ (b : Option V), σ = [some (.ref a), some (.int many), some (.str part), b, none] ∧ Same H H' ∧ ∀ x ∈ ns.take i, isBar many x = true)
        ⟨none, rfl, s1, fun x hx => nomatch hx⟩ (fun i σ H' _ ⟨_, _, s, _⟩ => s.tup hs) ?_ ?_⟩
      · rintro i x σ H' hi ⟨b, rfl, s2, al⟩
        obtain ⟨z, hz, rfl⟩ := int_at hi
        refine ⟨_, rfl, _, rfl, z, many, rfl, ?_⟩
        by_cases c : isBar many z = true
        · obtain ⟨c1, c2⟩ := isBar_iff.mp c
          refine .inl ⟨c1, c2, fun H3 s3 => ⟨_, rfl, s2.trans s3, fun y hy => ?_⟩⟩
          rw [← take_snoc hz] at hy
          rcases List.mem_append.mp hy with m | m
          · exact al y m
          · rw [List.mem_singleton.mp m]
            exact c
        · refine .inr ⟨fun z => c (isBar_iff.mpr z), ?_⟩
          rw [res_bar al hz c] at q
          exact Errs.later q s2
      · rintro σ H' ⟨b, rfl, s2, al⟩
        rw [List.length_map, List.take_length] at al
        rw [res_all al] at q
        refine ⟨_, rfl, a, ns, rfl, s2.tup hs, hl, fun H3 s3 => ?_⟩
        have s23 := s2.trans s3
        cases e2 : ft [] ns with
        | some z =>
          rw [e2] at q
          exact ⟨_, rfl, rfl, _, rfl, iteT ⟨_, rfl, err_made TI.oex TI.nf (Errs.later q s23)⟩⟩
        | none =>
          rw [e2] at q
          refine ⟨_, rfl, rfl, _, rfl, iteF ?_⟩
          refine ⟨_, rfl, a, ns, rfl, s23.tup hs, fun ms p pm od hp => ⟨p, _, rfl, .inl ⟨SqL.of upd_same, fun t ht => ?_⟩⟩⟩
          exact q t ms _ pm od ((s23.new hp).new ht) upd_same
/-! ### what is told as a lot: some: a list or tuple of ints; none: what is none -/
def TLot (K : PySem.W.Frag) (H : Hp) (v : V) : Option (List Int) → Prop
  | some ns => ns.length ≤ 1000 ∧ ∃ a, v = V.ref a ∧ (H a = some (.lst (ns.map V.int)) ∨ H a = some (.tup (ns.map V.int)))
  | none => (∃ k, Knd K H v k ∧ k ≠ "list" ∧ k ≠ "tuple") ∨ ∃ (a : Addr) (xs : List V) (kf : V → String), v = V.ref a ∧ H a = some (.lst xs) ∧ xs.length ≤ 1000 ∧ (∀ x ∈ xs, Knd K H x (kf x)) ∧ (xs.all fun x => decide (kf x = "int")) = false
theorem TLot.same {H H' : Hp} {v : V} : ∀ {r : Option (List Int)}, TLot K H v r → Same H H' → TLot K H' v r
  | some ns, ⟨l, a, e, z⟩, s => ⟨l, a, e, z.imp (s _ _) (s _ _)⟩
  | none, .inl ⟨k, h, a, b⟩, s => .inl ⟨k, h.same s, a, b⟩
  | none, .inr ⟨a, xs, kf, e, z, l, h, n⟩, s => .inr ⟨a, xs, kf, e, s _ _ z, l, fun x m => (h x m).same s, n⟩
theorem SqT.of {H : Hp} {a : Addr} {xs : List V} (h : H a = some (.tup xs)) : SqT K H a xs := .inl (.inl h)
theorem knd_list {H : Hp} {a : Addr} {xs : List V} (h : H a = some (.lst xs)) : Knd K H (.ref a) "list" := ⟨.base (.lst h), by decide⟩
theorem knd_tup {H : Hp} {a : Addr} {xs : List V} (h : H a = some (.tup xs)) : Knd K H (.ref a) "tuple" := ⟨.base (.tup h), by decide⟩
def spNumsA (K : PySem.W.Frag) : Sp := fun vs H Q _ => ∃ (v : V) (r : Option (List Int)), vs = [v] ∧ TLot K H v r ∧ ∀ H', Same H H' → Q (.bl r.isSome) H'
theorem all_int (l : List Int) : ((l.map V.int).all fun _ => decide (("int" : String) = "int")) = true := List.all_eq_true.mpr fun _ _ => rfl
theorem ok_numsA {k : Nat} {f : Addr} {fd : FuncData} (F1 : FnOk P w K mg base CX0 k f fd ["value"] (spNumsO K)) (F2 : FnOk P w K mg base CX0 k f fd ["value"] (spNumsL K)) (F3 : FnOk P w K mg base CX0 k f fd ["value"] (spNumsT K)) : FnOk P w K mg base CX0 k f fd ["value"] (spNumsA K) :=
  (fn_or F1 (fn_or F2 F3)).imp fun vs H Q E ⟨v, r, ev, t, q⟩ => by
    cases r with
    | none =>
      rcases t with ⟨k, h, a, b⟩ | ⟨a, xs, kf, rfl, h, l, hk, n⟩
      · exact .inl ⟨v, k, ev, h, a, b, q⟩
      · refine .inr (.inl ⟨a, xs, kf, ev, knd_list h, SqL.of h, l, hk, ?_⟩)
        rw [n]
        exact q
    | some ns =>
      obtain ⟨l, a, rfl, h | h⟩ := t
      · refine .inr (.inl ⟨a, _, fun _ => "int", ev, knd_list h, SqL.of h, by rw [List.length_map]; exact l, fun x m => ?_, ?_⟩)
        · obtain ⟨i, _, rfl⟩ := List.mem_map.mp m
          exact Knd.int
        · rw [all_int]
          exact q
      · refine .inr (.inr ⟨a, _, fun _ => "int", ev, knd_tup h, .inl (.inl h), by rw [List.length_map]; exact l, fun x m => ?_, ?_⟩)
        · obtain ⟨i, _, rfl⟩ := List.mem_map.mp m
          exact Knd.int
        · rw [all_int]
          exact q
def spWSA (K : PySem.W.Frag) (c : Cs) : Sp := fun vs H Q E => ∃ (v : V) (ns : List Int) (many : Int) (part : Str), vs = [v, .int many, .str part] ∧ TLot K H v (some ns) ∧
  LotFin E c part H (res many ns) fun ns => ∀ (p : Addr) (ms : List Int) (H' : Hp), ms.Perm ns → ms.Pairwise (· ≤ ·) → Same H H' → H' p = some (.tup (ms.map V.int)) → Q (.ref p) H'
theorem ok_wsA {CX : CXT} {k : Nat} {f : Addr} {fd : FuncData} {c : Cs} (F2 : FnOk P w K mg base CX k f fd ["value", "many", "part"] (spWSL K c)) (F3 : FnOk P w K mg base CX k f fd ["value", "many", "part"] (spWST K c)) : FnOk P w K mg base CX k f fd ["value", "many", "part"] (spWSA K c) :=
  (fn_or F2 F3).imp fun vs H Q E ⟨v, ns, many, part, ev, t, q⟩ => by
    obtain ⟨l, a, rfl, h | h⟩ := t
    · refine .inl ⟨a, _, fun _ => "int", many, part, ev, knd_list h, SqL.of h, by rw [List.length_map]; exact l, fun x m => ?_, .inr ⟨ns, rfl, all_int ns, q⟩⟩
      obtain ⟨i, _, rfl⟩ := List.mem_map.mp m
      exact Knd.int
    · exact .inr ⟨a, ns, many, part, ev, knd_tup h, .inl (.inl h), l, q⟩
/-! ### want_lots -/
/-- what is told for a lot of n bars -/
def AskLot (K : PySem.W.Frag) (c : Cs) (E : XK) (n : Int) (part : Str) (H : Hp) (u : V) (q : List Int → Prop) : Prop :=
  (TLot K H u none ∧ Errs E c.l "part" (.str part) H) ∨ ∃ ns, TLot K H u (some ns) ∧ LotFin E c part H (res n ns) q
def spWLA (K : PySem.W.Frag) (c : Cs) : Sp := fun vs H Q E => ∃ (v : V) (many : Int) (part : Str), vs = [v, .int many, .str part] ∧
  AskLot K c E many part H v fun ns => ∀ (p : Addr) (ms : List Int) (H' : Hp), ms.Perm ns → ms.Pairwise (· ≤ ·) → Same H H' → H' p = some (.tup (ms.map V.int)) → Q (.ref p) H'
theorem ok_wla {CX : CXT} {k : Nat} {f : Addr} {fd : FuncData} {c : Cs} (F1 : FnOk P w K mg base CX k f fd ["value", "many", "part"] (spWLO K c)) (F2 : FnOk P w K mg base CX k f fd ["value", "many", "part"] (spWSL K c)) (F3 : FnOk P w K mg base CX k f fd ["value", "many", "part"] (spWST K c)) : FnOk P w K mg base CX k f fd ["value", "many", "part"] (spWLA K c) :=
  (fn_or F1 (fn_or F2 (ok_wsA F2 F3))).imp fun vs H Q E ⟨v, many, part, ev, h⟩ => by
    rcases h with ⟨⟨kd, h1, h2, h3⟩ | ⟨a, xs, kf, rfl, h1, h2, h3, h4⟩, er⟩ | ⟨ns, t, q⟩
    · exact .inl ⟨v, kd, many, part, ev, h1, h2, h3, er⟩
    · exact .inr (.inl ⟨a, xs, kf, many, part, ev, knd_list h1, SqL.of h1, h2, h3, .inl ⟨h4, er⟩⟩)
    · exact .inr (.inr ⟨v, ns, many, part, ev, t, q⟩)
end
end K
namespace K
open PySem L2 Rg LamX
/-! ### a lot on one line, all others alone: the mathematics -/
def restI (n : Nat) (ns : List Int) : List Int := (rngI n).filter fun b => !ns.contains b
def lensI (ls ns : List Int) : List Int := ns.map fun b => ls.getD b.toNat 0
def aloneW (n : Nat) (ns : List Int) : List Strd := (restI n ns).map fun b => [(b, 1)]
def withA (n : Nat) (st : Strd) : List Strd := (if 0 < st.length then [st] else []) ++ aloneW n (st.map (·.1))
/-- what can point -/
def ptB (ls ns : List Int) : Bool := closesB ls && decide (2 * lsum ls ns ≤ ls.sum)
structure LotOk (n : Nat) (ns : List Int) : Prop where
  nd : ns.Nodup
  rg : ∀ b ∈ ns, 0 ≤ b ∧ b < (n : Int)
theorem rngI_mem {n : Nat} {b : Int} : b ∈ rngI n ↔ 0 ≤ b ∧ b < (n : Int) := by
  unfold rngI
  rw [List.mem_map]
  refine ⟨fun ⟨j, hj, e⟩ => ?_, fun h => ⟨b.toNat, ?_, by omega⟩⟩
  · have := List.mem_range.mp hj
    omega
  · rw [List.mem_range]
    omega
theorem rngI_nodup (n : Nat) : (rngI n).Nodup := by
  unfold rngI
  refine List.pairwise_map.mpr (List.Pairwise.imp (fun {a b} h => ?_) List.pairwise_lt_range)
  omega
theorem restI_mem {n : Nat} {ns : List Int} {b : Int} : b ∈ restI n ns ↔ (0 ≤ b ∧ b < (n : Int)) ∧ b ∉ ns := by
  unfold restI
  rw [List.mem_filter, rngI_mem]
  simp
theorem restI_len (n : Nat) (ns : List Int) : (restI n ns).length ≤ n := by
  have := List.length_filter_le (fun b => !ns.contains b) (rngI n)
  rw [rngI_len] at this
  exact this
theorem LotOk.perm {n : Nat} {ns : List Int} (h : LotOk n ns) : (ns ++ restI n ns).Perm (rngI n) := by
  refine (List.perm_ext_iff_of_nodup ?_ (rngI_nodup n)).mpr fun b => ?_
  · refine List.nodup_append.mpr ⟨h.nd, (rngI_nodup n).filter _, fun a ha b hb => ?_⟩
    intro e
    rw [e] at ha
    exact (restI_mem.mp hb).2 ha
  · rw [List.mem_append, rngI_mem, restI_mem]
    refine ⟨fun q => q.elim (h.rg b) (·.1), fun q => ?_⟩
    by_cases c : b ∈ ns
    · exact .inl c
    · exact .inr ⟨q, c⟩
theorem LotOk.len {n : Nat} {ns : List Int} (h : LotOk n ns) : ns.length + (restI n ns).length = n := by
  have := h.perm.length_eq
  rw [List.length_append, rngI_len] at this
  exact this
theorem lens_rng (ls : List Int) : lensI ls (rngI ls.length) = ls := by
  unfold lensI rngI
  rw [List.map_map]
  refine List.ext_getElem (by simp) fun i h1 h2 => ?_
  simp only [List.getElem_map, List.getElem_range, Function.comp_apply, Int.toNat_natCast, List.getD_eq_getElem?_getD, List.getElem?_eq_getElem h2, Option.getD_some]
theorem LotOk.sum {ls ns : List Int} (h : LotOk ls.length ns) : lsum ls ns + (lensI ls (restI ls.length ns)).sum = ls.sum := by
  have p : (lensI ls (ns ++ restI ls.length ns)).Perm (lensI ls (rngI ls.length)) := h.perm.map _
  have e := sum_perm p
  rw [lens_rng] at e
  unfold lensI at e
  rw [List.map_append, List.sum_append] at e
  exact e
theorem lens_nn {ls : List Int} {M : Int} (bd : Bd M ls) (ns : List Int) : ∀ y ∈ lensI ls ns, 0 ≤ y := fun y hy => by
  obtain ⟨b, _, rfl⟩ := List.mem_map.mp hy
  rw [List.getD_eq_getElem?_getD]
  cases q : ls[b.toNat]? with
  | none => exact Int.le_refl 0
  | some x => exact Int.le_of_lt (bd x (List.mem_of_getElem? q)).1
theorem LotOk.had {ls ns : List Int} {M : Int} (h : LotOk ls.length ns) (bd : Bd M ls) : hadN (lensI ls (restI ls.length ns) ++ [lsum ls ns]) = ptB ls ns := by
  have e := h.sum
  have nn := lens_nn bd ns
  have l0 : 0 ≤ lsum ls ns := sum_nn nn
  have es : (lensI ls (restI ls.length ns) ++ [lsum ls ns]).sum = ls.sum := by
    rw [List.sum_append]
    simp
    omega
  rw [Bool.eq_iff_iff, had_iff, es]
  unfold ptB closesB
  rw [Bool.and_eq_true, List.all_eq_true, decide_eq_true_iff]
  refine ⟨fun q => ⟨fun x hx => decide_eq_true ?_, q _ (List.mem_append_right _ (List.mem_singleton_self _))⟩, fun ⟨q1, q2⟩ m hm => ?_⟩
  · obtain ⟨i, hi⟩ := List.mem_iff_getElem?.mp hx
    have il : i < ls.length := (List.getElem?_eq_some_iff.mp hi).1
    have ex : ls.getD ((i : Int)).toNat 0 = x := by rw [Int.toNat_natCast, List.getD_eq_getElem?_getD, hi]; rfl
    by_cases c : (i : Int) ∈ ns
    · have hm : x ∈ lensI ls ns := List.mem_map.mpr ⟨_, c, ex⟩
      obtain ⟨j, hj⟩ := List.mem_iff_getElem?.mp hm
      have := (sum_ge nn hj).1
      have q3 := q _ (List.mem_append_right _ (List.mem_singleton_self _))
      have e3 : (lensI ls ns).sum = lsum ls ns := rfl
      omega
    · exact q x (List.mem_append_left _ (List.mem_map.mpr ⟨_, restI_mem.mpr ⟨⟨by omega, by omega⟩, c⟩, ex⟩))
  · rcases List.mem_append.mp hm with hm | hm
    · obtain ⟨b, hb, rfl⟩ := List.mem_map.mp hm
      obtain ⟨⟨b0, b1⟩, _⟩ := restI_mem.mp hb
      have bl : b.toNat < ls.length := by omega
      rw [List.getD_eq_getElem?_getD, List.getElem?_eq_getElem bl]
      exact of_decide_eq_true (q1 _ (List.getElem_mem bl))
    · rw [List.mem_singleton.mp hm]
      exact q2
theorem flat_alone : ∀ l : List Int, flatB (l.map fun b => [(b, (1 : Int))]) = l
  | [] => rfl
  | b :: l => by
    have := flat_alone l
    unfold flatB at this ⊢
    rw [List.map_cons, List.flatMap_cons, this]
    rfl
theorem withA_good {n : Nat} {st : Strd} (h : LotOk n (st.map (·.1))) (sg : ∀ q ∈ st, q.2 = 1 ∨ q.2 = -1) (n8 : n ≤ 8) : goodV n (withA n st) := by
  have l := h.len
  rw [List.length_map] at l
  refine ⟨fun s hs => ?_, ?_, ?_⟩
  · unfold withA at hs
    rcases List.mem_append.mp hs with hs | hs
    · split at hs
      · rename_i c
        rw [List.mem_singleton.mp hs]
        exact ⟨fun z => by rw [z] at c; exact absurd c (by decide), by omega, sg⟩
      · cases hs
    · obtain ⟨b, _, rfl⟩ := List.mem_map.mp hs
      exact ⟨fun z => (nomatch z), by show 1 ≤ 8; decide, fun q hq => by rw [List.mem_singleton.mp hq]; exact .inl rfl⟩
  · unfold withA aloneW
    rw [List.length_append, List.length_map]
    split
    · rw [List.length_singleton]; omega
    · rw [List.length_nil]; omega
  · have : flatB (withA n st) = st.map (·.1) ++ restI n (st.map (·.1)) := by
      unfold withA aloneW
      have ap : ∀ a b : List Strd, flatB (a ++ b) = flatB a ++ flatB b := fun a b => by unfold flatB; rw [List.flatMap_append]
      rw [ap, flat_alone]
      split
      · unfold flatB
        simp
      · rename_i c
        have : st = [] := List.eq_nil_of_length_eq_zero (by omega)
        rw [this]
        rfl
    rw [this]
    exact h.perm
theorem nets_alone {ls : List Int} {M : Int} (bd : Bd M ls) (l : List Int) : netsW ls (l.map fun b => [(b, (1 : Int))]) = lensI ls l := by
  unfold netsW lensI
  rw [List.map_map]
  refine List.map_congr_left fun b hb => ?_
  have : 0 ≤ ls.getD b.toNat 0 := lens_nn bd [b] _ (List.mem_singleton_self _)
  show absI (net ls [(b, 1)]) = _
  have e : net ls [(b, 1)] = ls.getD b.toNat 0 := by
    unfold net
    simp
  rw [e]
  unfold absI
  rw [if_neg (by omega)]
/-- had with a strand, all others alone -/
theorem withA_had {ls : List Int} {M : Int} (bd : Bd M ls) (st : Strd) : hadN (netsW ls (withA ls.length st)) = hadN (lensI ls (restI ls.length (st.map (·.1))) ++ [absI (net ls st)]) := by
  unfold withA aloneW
  rw [netsW_app, nets_alone bd]
  split
  · exact had_perm List.perm_append_comm
  · rename_i c
    have e : st = [] := List.eq_nil_of_length_eq_zero (by omega)
    rw [e]
    show hadN ([] ++ _) = hadN (_ ++ [(0 : Int)])
    rw [List.nil_append]
    generalize hr : lensI ls (restI ls.length (([] : Strd).map (·.1))) = R
    have nn : 0 ≤ R.sum := by rw [← hr]; exact sum_nn (lens_nn bd _)
    have es : (R ++ [(0 : Int)]).sum = R.sum := by rw [List.sum_append]; simp
    rw [Bool.eq_iff_iff, had_iff, had_iff, es]
    refine ⟨fun q m hm => ?_, fun q m hm => q m (List.mem_append_left _ hm)⟩
    rcases List.mem_append.mp hm with hm | hm
    · exact q m hm
    · rw [List.mem_singleton.mp hm]; omega
/-- the lot's strand -/
def oneS (ns : List Int) : Strd := ns.map fun b => (b, 1)
theorem oneS_bars (ns : List Int) : (oneS ns).map (·.1) = ns := by
  unfold oneS
  rw [List.map_map]
  exact (List.map_congr_left fun _ _ => rfl).trans (List.map_id _)
theorem oneS_net (ls ns : List Int) : net ls (oneS ns) = lsum ls ns := by
  unfold net oneS lsum
  rw [List.map_map]
  congr 1
  refine List.map_congr_left fun b _ => ?_
  show ls.getD b.toNat 0 * 1 = _
  rw [Int.mul_one]
theorem point_had {ls ns : List Int} {M : Int} (h : LotOk ls.length ns) (bd : Bd M ls) (n8 : ls.length ≤ 8) : hadN (netsW ls (dueW (withA ls.length (oneS ns)))) = ptB ls ns := by
  have g : goodV ls.length (withA ls.length (oneS ns)) := withA_good (by rw [oneS_bars]; exact h) (fun q hq => by
    obtain ⟨b, _, rfl⟩ := List.mem_map.mp hq
    exact .inl rfl) n8
  rw [had_due g, withA_had bd, oneS_bars, oneS_net, absI, if_neg (by have := sum_nn (lens_nn bd ns); unfold lensI at this; unfold lsum; omega)]
  exact h.had bd
/-- one against another -/
def agB (ls : List Int) (i j : Int) : Bool := hadN (lensI ls (restI ls.length [i, j]) ++ [absI (ls.getD i.toNat 0 - ls.getD j.toNat 0)])
theorem against_had {ls : List Int} {M i j : Int} (h : LotOk ls.length [i, j]) (bd : Bd M ls) (n8 : ls.length ≤ 8) : goodV ls.length (withA ls.length [(i, 1), (j, -1)]) ∧ hadN (netsW ls (dueW (withA ls.length [(i, 1), (j, -1)]))) = agB ls i j := by
  have g : goodV ls.length (withA ls.length [(i, 1), (j, -1)]) := withA_good h (fun q hq => by
    rcases List.mem_cons.mp hq with rfl | hq
    · exact .inl rfl
    · rw [List.mem_singleton.mp hq]
      exact .inr rfl) n8
  refine ⟨g, ?_⟩
  rw [had_due g, withA_had bd]
  unfold agB
  have e : net ls [(i, 1), (j, -1)] = ls.getD i.toNat 0 - ls.getD j.toNat 0 := by
    unfold net
    simp
    omega
  rw [e]
  rfl
end K
namespace K
open PySem L2 Rg LamX
open Evl (pss_cut)
theorem inI_has (z : Int) (ns : List Int) : inV (.int z) (ns.map V.int) = ns.contains z := by
  unfold inV
  rw [List.any_map]
  show (ns.any fun y => decide (y = z)) = _
  induction ns with
  | nil => rfl
  | cons a l ih =>
    rw [List.any_cons, ih, List.contains_cons]
    congr 1
    by_cases h : a = z
    · rw [h]; simp
    · rw [decide_eq_false h]
      symm
      rw [beq_eq_false_iff_ne]
      exact fun e => h e.symm
theorem LSt.mut {H : Hp} {D : Addr} {us ws : List V} {v : V} {q : Strd} (h : LSt H v q) (hD : H D = some (.lst us)) (n : v ≠ .ref D) : LSt (upd H D (.lst ws)) v q := by
  obtain ⟨a, xs, e, z, p⟩ := h
  exact ⟨a, xs, e, by rw [upd_ne fun k => n (by rw [e, k])]; exact z, par_imp (fun _ _ k => k.mut hD) p⟩
theorem rest_snoc (j : Nat) (ns : List Int) : restI (j + 1) ns = restI j ns ++ (if ns.contains (j : Int) = true then [] else [(j : Int)]) := by
  unfold restI rngI
  rw [List.range_succ, List.map_append, List.filter_append]
  congr 1
  show List.filter _ [(j : Int)] = _
  rw [List.filter_cons]
  cases ns.contains (j : Int) <;> rfl
section
variable {P : Program} {w : World} {K : PySem.W.Frag} {mg : Str → Option Value} {base : Heap}
/-! ### with_alone -/
def spWA (K : PySem.W.Frag) : Sp := fun vs H Q _ => ∃ (n : Nat) (a : Addr) (v : V) (st : Strd), vs = [.int (n : Nat), .ref a] ∧ H a = some (.lst [v]) ∧ LSt H v st ∧ st.length ≤ 8 ∧ n ≤ 8 ∧ ∀ p H', Same H H' → LWy H' (.ref p) (withA n st) → Q (.ref p) H'
abbrev nWA : List Str := ["many", "strands", "told", "alone", "strand", "bar", "sign"]
theorem scWA : FnScope nWA ["many", "strands"] (defScope sWithAlone) := ⟨rfl, rfl, rfl, by decide +kernel, rfl, by decide +kernel, by decide +kernel⟩
theorem ok_wa {f : Addr} {fd : FuncData} (F : Fun K "with_alone" "with_alone" sWithAlone f fd) (T : Bi mg) : FnOk P w K mg base CX0 1 f fd ["many", "strands"] (spWA K) := by
  refine F.ok scWA (fun vs H Q E h => ?_) (fun cdv A outer s H vs Q E hr h => ?_)
  · obtain ⟨n, a, v, st, rfl, _⟩ := h
    rfl
  · have nd := scWA.nd
    refine ⟨_, pss_cons (ps_set (i := 2) nd rfl (Or.inr rfl) (pe_lc2 (own := [("strand", 4), ("bar", 5), ("sign", 6)]) (vs1 := [5, 6]) (g := gName 4) (g1 := gTup K 2 (gCons (gName 5) (gCons (gName 6) gNil))) (tt := tYes) (tt1 := tYes) (wi1 := iList K (tVar 4)) (te := tVar 5) rfl nd (pi_list (pv 1)) (blkOk_by (N := nWA) (sc := defScope sWithAlone) (by decide +kernel)) (by decide)
          (fun _ _ _ _ _ => pg_name (i := 4) nd rfl (Or.inl rfl)) (fun _ _ _ _ _ => pts_nil) (fun _ _ _ _ _ => pi_list (pv 4)) (fun _ _ _ _ _ => pg_tup rfl (pgs_cons (pg_name (i := 5) nd rfl (Or.inl rfl)) (pgs_cons (pg_name (i := 6) nd rfl (Or.inl rfl)) pgs_nil))) (fun _ _ _ _ _ => pts_nil) (fun _ _ _ _ _ => pv 5)))
      (pss_cons (ps_setLc (i := 3) (own := [("bar", 5)]) (g := gName 5) (tt := tTest (tOp (rIn K true) (tVar 5) (tVar 2))) (te := tLst (tCons (tTup (tCons (tVar 5) (tCons (tC (.int 1)) tNil))) tNil)) rfl nd rfl rfl (sw_true rfl rfl rfl (by decide +kernel)) (pi_range1 (by rfl) T.range (pa_cons (pv 0) pa_nil))
          (blkOk_by (N := nWA) (sc := defScope sWithAlone) (by decide +kernel)) (fun _ _ _ _ _ => pg_name (i := 5) nd rfl (Or.inl rfl)) (fun _ _ _ _ _ => pts_one (pt_cmpR op_notIn_seq (pv 5) (pv 2) (by rfl))) (fun _ _ _ _ _ => pe_lst (pa_cons (pe_tup (pa_cons (pv 5) (pa_cons pe_int pa_nil))) pa_nil)))
      (pss_one (ps_ret (pe_op op_cat (pe_lc (own := [("strand", 4)]) (g := gName 4) (tt := tTest (tOp (rI0 fun i j => .bl (decide (j < i))) (tCB (rLenS K) (tCons (tVar 4) tNil)) (tC (.int 0)))) (te := tVar 4) rfl nd (pi_list (pv 1))
          (blkOk_by (N := nWA) (sc := defScope sWithAlone) (by decide +kernel)) (fun _ _ _ _ _ => pg_name (i := 4) nd rfl (Or.inl rfl)) (fun _ _ _ _ _ => pts_one (pt_cmpR op_gt (pe_callB (r := rLenS K) call_len_seq (by rfl) T.len PySem.boot_len (pa_cons (pv 4) pa_nil)) pe_int (nomark _))) (fun _ _ _ _ _ => pv 4)) (pv 3))))), ?_⟩
    obtain ⟨n, a, v, st, rfl, ha, ls, s8, n8, k⟩ := h
    refine ⟨_, rfl, a, rfl, ⟨_, SqL.of ha⟩, fun D hD => ?_⟩
    refine walk_any walk_list (fun j H' => Same H H' ∧ H' D = some (.lst ((flatB ([st].take j)).map V.int))) ⟨(Same.refl H).new hD, upd_same⟩ (fun j H' _ q => SqL.of (q.1 _ _ ha)) ?_ ?_
    · rintro j x H' H'' hj ⟨s3, h3'⟩ ⟨rfl, hx⟩
      have j0 : j = 0 := by
        have : j < 1 := hj
        omega
      subst j0
      obtain rfl : v = x := Option.some.inj hx
      obtain ⟨sa, ys, rfl, hsa, py⟩ := ls
      have hsa3 := s3 _ _ hsa
      refine ⟨rfl, _, rfl, sa, rfl, ⟨_, SqL.of hsa3⟩, ?_⟩
      refine walk_any walk_list (fun i H4 => Same H H4 ∧ H4 D = some (.lst (((st.take i).map (·.1)).map V.int))) ⟨s3, h3'⟩ (fun i H4 _ q => SqL.of (q.1 _ _ hsa)) ?_ ?_
      · rintro i y H4 H5 hi ⟨s4, h4⟩ ⟨rfl, hy⟩
        obtain ⟨q, hq, b, rfl, hb⟩ := par_get py hy
        have hil : i < st.length := (List.getElem?_eq_some_iff.mp hq).1
        refine ⟨b, _, rfl, .inl (.inl (s4 _ _ hb)), rfl, _, _, rfl, _, _, rfl, rfl, rfl, _, rfl, _, h4, ?_, s4.mut hD, ?_⟩
        · rw [List.length_map, List.length_map, List.length_take]
          exact sm (by omega)
        · rw [upd_same, ← take_snoc hq, List.map_append, List.map_append]
          rfl
      · rintro H4 ⟨s4, h4⟩
        refine ⟨s4, ?_⟩
        rw [par_len py, List.take_length] at h4
        rw [h4]
        show _ = some (HO.lst ((flatB [st]).map V.int))
        unfold flatB
        simp
    rintro H1 ⟨s1, h1⟩
    have h1 : H1 D = some (.lst ((st.map (·.1)).map V.int)) := by
      rw [h1]
      show some (HO.lst ((flatB [st]).map V.int)) = _
      unfold flatB
      simp
    generalize hns : st.map (·.1) = ns at h1
    have ln : ns.length ≤ 8 := by rw [← hns, List.length_map]; exact s8
    have ha1 := s1 _ _ ha
    refine ⟨_, rfl, _, rfl, by omega, by omega, fun D2 hD2 => ?_⟩
    refine lc_range (lo := 0) (n := ((n : Nat) : Int).toNat) (fun j H' => Same H1 H' ∧ ∃ us, H' D2 = some (.lst us) ∧ Paired (fun v s => LSt H' v s ∧ v ≠ .ref D2) us (aloneW j ns)) ⟨(Same.refl H1).new hD2, [], upd_same, .nil⟩ ?_ ?_
    · rintro j H' hj ⟨s2, us, h2, pu⟩
      rw [Int.toNat_natCast] at hj
      rw [Int.zero_add]
      refine ⟨rfl, _, rfl, _, rfl, D, _, rfl, .inl (SqL.of (s2 _ _ h1)), rfl, flat_ints _, _, rfl, ?_⟩
      show (if (!inV (.int (j : Int)) (ns.map V.int)) = true then _ else _)
      rw [inI_has]
      have st1 : aloneW (j + 1) ns = aloneW j ns ++ (if ns.contains (j : Int) = true then [] else [[((j : Int), (1 : Int))]]) := by
        unfold aloneW
        rw [rest_snoc, List.map_append]
        split <;> rfl
      rw [st1]
      cases c : ns.contains (j : Int) with
      | true => exact iteF ⟨s2, us, h2, by rw [if_pos rfl, List.append_nil]; exact pu⟩
      | false =>
        refine iteT ⟨_, rfl, (by show 2 ≤ sizeLine; decide), fun t nt => ⟨(by show 1 ≤ sizeLine; decide), fun b nb => ?_⟩⟩
        have s3 : Same H' (upd H' t (.tup [.int (j : Int), .int 1])) := (Same.refl H').new nt
        have ht : upd H' t (.tup [.int (j : Int), .int 1]) t = some (.tup [.int (j : Int), .int 1]) := upd_same
        generalize upd H' t (.tup [.int (j : Int), .int 1]) = H3 at s3 ht nb ⊢
        have s4 : Same H3 (upd H3 b (.lst [.ref t])) := (Same.refl H3).new nb
        have hb : upd H3 b (.lst [.ref t]) b = some (.lst [.ref t]) := upd_same
        have h23 := s3 _ _ h2
        have bD : b ≠ D2 := fun z => by rw [z, h23] at nb; cases nb
        generalize upd H3 b (.lst [.ref t]) = H4 at s4 hb ⊢
        have s34 := s3.trans s4
        have h24 := s34 _ _ h2
        refine ⟨us, h24, ?_, (s2.trans s34).mut hD2, _, upd_same, ?_⟩
        · have := restI_len j ns
          rw [par_len pu]
          unfold aloneW
          rw [List.length_map]
          exact sm (by omega)
        · refine par_app (par_imp (fun _ _ z => ⟨(z.1.same s34).mut h24 z.2, z.2⟩) pu) ?_
          rw [if_neg (by decide)]
          have ne : V.ref b ≠ .ref D2 := fun z => bD (V.ref.inj z)
          exact .cons ⟨LSt.mut ⟨b, _, rfl, hb, .cons ⟨t, rfl, s4 _ _ ht⟩ .nil⟩ h24 ne, ne⟩ .nil
    rintro H2 ⟨s2, us, h2, pu⟩
    rw [Int.toNat_natCast] at pu
    have s02 := s1.trans s2
    have ha2 := s02 _ _ ha
    refine ⟨_, rfl, a, rfl, ⟨_, SqL.of ha2⟩, fun D3 hD3 => ?_⟩
    refine lc_list (K := K) (a := a) (xs := [v]) (fun j H' => Same H2 H' ∧ H' D3 = some (.lst (if 0 < st.length then [v].take j else []))) ⟨(Same.refl H2).new hD3, by rw [upd_same]; split <;> rfl⟩ (fun j H' _ q => SqL.of (q.1 _ _ ha2)) ?_ ?_
    · rintro j x H' hj ⟨s3, h3⟩
      have j0 : j = 0 := by
        have : j < [v].length := (List.getElem?_eq_some_iff.mp hj).1
        have : j < 1 := this
        omega
      subst j0
      obtain rfl : v = x := Option.some.inj hj
      obtain ⟨sa, ys, rfl, hsa, py⟩ := ls
      refine ⟨rfl, _, rfl, sa, _, rfl, .inl (SqL.of (s3 _ _ (s02 _ _ hsa))), _, _, rfl, rfl, _, rfl, ?_⟩
      have yl := par_len py
      by_cases c : 0 < st.length
      · rw [if_pos c] at h3
        rw [decide_eq_true (show (0 : Int) < (ys.length : Nat) by omega)]
        exact iteT ⟨_, rfl, [], h3, (by show 0 < sizeLine; decide), s3.mut hD3, by rw [if_pos c]; exact upd_same⟩
      · rw [if_neg c] at h3
        rw [decide_eq_false (show ¬ (0 : Int) < (ys.length : Nat) by omega)]
        exact iteF ⟨s3, by rw [if_neg c]; exact h3⟩
    rintro H3 ⟨s3, h3⟩
    have h3 : H3 D3 = some (.lst (if 0 < st.length then [v] else [])) := h3
    have l1 : (if 0 < st.length then [v] else []).length ≤ 1 := by split <;> simp
    have ul : us.length ≤ 8 := by
      have := restI_len n ns
      rw [par_len pu]
      unfold aloneW
      rw [List.length_map]
      omega
    refine ⟨_, rfl, D3, D2, _, _, rfl, rfl, h3, s3 _ _ h2, Nat.le_of_lt (sm (by omega)), fun p np => ?_⟩
    have s4 := (s02.trans s3).new (o := .lst ((if 0 < st.length then [v] else []) ++ us)) np
    refine k p _ s4 ⟨p, _, rfl, upd_same, ?_⟩
    unfold withA
    rw [hns]
    have lsF := ls.same s4
    refine par_app ?_ (par_imp (fun _ _ z => z.1.same (s3.new np)) pu)
    generalize upd H3 p (HO.lst ((if 0 < st.length then [v] else []) ++ us)) = HF at lsF ⊢
    split
    · exact .cons lsF .nil
    · exact .nil
end
end K
namespace K
open PySem L2 Rg LamX
open Evl (pss_cut)
theorem ft_nil : ∀ (xs seen : List Int), ft seen xs = none ↔ (∀ x ∈ xs, x ∉ seen) ∧ xs.Nodup
  | [], seen => by simp [ft]
  | x :: xs, seen => by
    unfold ft
    split
    · rename_i h
      refine ⟨fun z => (nomatch z), fun ⟨q, _⟩ => absurd h (q x (List.mem_cons_self ..))⟩
    · rename_i h
      rw [ft_nil xs (seen ++ [x])]
      refine ⟨fun ⟨a, b⟩ => ⟨fun y hy => ?_, List.nodup_cons.mpr ⟨fun z => a x z (by simp), b⟩⟩, fun ⟨a, b⟩ => ?_⟩
      · rcases List.mem_cons.mp hy with rfl | hy
        · exact h
        · exact fun z => a y hy (List.mem_append_left _ z)
      · obtain ⟨b1, b2⟩ := List.nodup_cons.mp b
        refine ⟨fun y hy z => ?_, b2⟩
        rcases List.mem_append.mp z with z | z
        · exact a y (List.mem_cons_of_mem _ hy) z
        · rw [List.mem_singleton.mp z] at hy
          exact b1 hy
theorem lot_res {n : Nat} {ns : List Int} (h : LotOk n ns) : res n ns = .ok ns := by
  rw [res_all fun x hx => isBar_iff.mpr (h.rg x hx), (ft_nil ns []).mpr ⟨fun _ _ z => (nomatch z), h.nd⟩]
theorem res_lot {n : Nat} {ns ms : List Int} (h : res n ns = .ok ms) : ms = ns ∧ LotOk n ns := by
  obtain ⟨e, a, b⟩ := res_ok h
  exact ⟨e, ((ft_nil ns []).mp b).2, fun x hx => isBar_iff.mp (a x hx)⟩
theorem LotOk.of_perm {n : Nat} {ns ms : List Int} (h : LotOk n ns) (p : ms.Perm ns) : LotOk n ms := ⟨p.nodup_iff.mpr h.nd, fun b hb => h.rg b (p.mem_iff.mp hb)⟩
theorem pt_perm {ls ns ms : List Int} (p : ms.Perm ns) : ptB ls ms = ptB ls ns := by
  unfold ptB
  rw [lsum_perm p]
theorem pt_sort (ls ns : List Int) : (!decide (sortV ls ns = "long")) = decide (2 * lsum ls ns ≤ ls.sum) := by
  unfold sortV
  split
  · rename_i h
    rw [decide_eq_true (show 2 * lsum ls ns ≤ ls.sum by omega)]
    rfl
  · split
    · rename_i h1 h2
      rw [decide_eq_true (show 2 * lsum ls ns ≤ ls.sum by omega)]
      rfl
    · rename_i h1 h2
      rw [decide_eq_false (show ¬ 2 * lsum ls ns ≤ ls.sum by omega)]
      rfl
section
variable {P : Program} {w : World} {K : PySem.W.Frag} {mg : Str → Option Value} {base : Heap}
theorem KndI.int {H : Hp} {i : Int} : KndI K H (.int i) "int" := ⟨Knd.int, fun _ => ⟨i, rfl⟩⟩
theorem winB_int {lo hi i : Int} : winB "int" lo hi (.int i) = (decide (lo ≤ i) && decide (i ≤ hi)) := rfl
/-! ### want_number without an error, want_bar of anything -/
def spNumC : Sp := fun vs H Q _ => ∃ (i lo hi : Int) (part : Str), vs = [.int i, .int lo, .int hi, .str part] ∧ lo ≤ i ∧ i ≤ hi ∧ Q .non H
theorem scWantNum : FnScope ["value", "least", "most", "part"] ["value", "least", "most", "part"] (defScope sWantNumber) := ⟨rfl, rfl, rfl, by decide +kernel, rfl, by decide +kernel, by decide +kernel⟩
theorem ok_numC {f fW : Addr} {fd fdW : FuncData} (F : Fun K "want_number" "want_number" sWantNumber f fd) (W : DefAt P w K mg base CX0 2 "is_within" ["value", "least", "most"] spWithin fW fdW) :
    FnOk P w K mg base CX0 3 f fd ["value", "least", "most", "part"] spNumC := by
  refine F.ok scWantNum (fun vs H Q E h => ?_) (fun cdv A outer s H vs Q E hr h => ?_)
  · obtain ⟨i, lo, hi, part, rfl, _⟩ := h
    rfl
  · refine ⟨_, pss_one (ps_if (pt_not (pt_val (pe_call W.ok hr rfl W.g W.kp W.b .nil pass0 (pa_cons (pv 0) (pa_cons (pv 1) (pa_cons (pv 2) pa_nil))))))
      (pss_one ps_never) pss_nil), ?_⟩
    obtain ⟨i, lo, hi, part, rfl, h1, h2, q⟩ := h
    refine ⟨_, rfl, _, rfl, _, rfl, i, lo, hi, rfl, _, rfl, ?_⟩
    rw [decide_eq_true h1, decide_eq_true h2]
    exact iteF q
def spBarG (K : PySem.W.Frag) (C : Addr) : Sp := fun vs H Q E => ∃ (v : V) (k : String) (many : Int), vs = [v, .int many] ∧ KndI K H v k ∧ ((winB k 0 (many - 1) v = true ∧ Q .non H) ∨ (winB k 0 (many - 1) v = false ∧ Errs E C "value" v H))
theorem scBarG : FnScope ["value", "many"] ["value", "many"] (defScope sWantBar) := ⟨rfl, rfl, rfl, by decide +kernel, rfl, by decide +kernel, by decide +kernel⟩
theorem ok_barG {f fW C fI : Addr} {fd fdW fdI : FuncData} (F : Fun K "want_bar" "want_bar" sWantBar f fd) (W : DefAt P w K mg base CX0 2 "is_within" ["value", "least", "most"] (spWithinG K) fW fdW) (B : ErrAt P w K mg base "NoBar" "value" C fI fdI) :
    FnOk P w K mg base (L2.CX P w) 3 f fd ["value", "many"] (spBarG K C) := by
  refine F.okX scBarG (fun vs H Q E h => ?_) (fun cdv A outer s H vs Q E hr h => ?_)
  · obtain ⟨v, k, many, rfl, _⟩ := h
    rfl
  · refine ⟨_, pss_one (ps_if (pt_not (pt_val (pe_call W.ok hr rfl W.g W.kp W.b .nil pass0 (pa_cons (pv 0) (pa_cons pe_int (pa_cons (pe_op op_sub (pv 1) pe_int) pa_nil))))))
      (pss_one (ps_raise rfl (takes_of rfl rfl rfl rfl) (pmk_oex B.oex B.ic B.ti B.ok hr B.b .nil pass0 rfl B.g (pa_cons (pv 0) pa_nil)))) pss_nil), ?_⟩
    obtain ⟨v, k, many, rfl, hk, h⟩ := h
    refine ⟨_, rfl, _, rfl, _, _, rfl, rfl, v, k, 0, many - 1, rfl, hk, _, rfl, ?_⟩
    rcases h with ⟨e, q⟩ | ⟨e, q⟩
    · rw [e]; exact iteF q
    · rw [e]; exact iteT ⟨_, rfl, err_made B.oex B.nf q⟩
/-! ### pointing -/
def spPO (K : PySem.W.Frag) (CL : Addr) : Sp := fun vs H Q _ => ∃ (n : Nat) (u : V) (ns : List Int), vs = [.int (n : Nat), u] ∧ 3 ≤ n ∧ n ≤ 8 ∧ TLot K H u (some ns) ∧ LotOk n ns ∧
  ∀ x H' W, Same H H' → LineF CL H' x W → goodV n W → (∀ ls : List Int, ls.length = n → Bd 1000000 ls → hadN (netsW ls W) = ptB ls ns) → Q (.ref x) H'
abbrev nPO : List Str := ["many", "lot", "bars", "bar"]
theorem scPO : FnScope nPO ["many", "lot"] (defScope sPointing) := ⟨rfl, rfl, rfl, by decide +kernel, rfl, by decide +kernel, by decide +kernel⟩
theorem ok_po {CL f fN fW fA fI : Addr} {c : Cs} {fd fdN fdW fdA fdI : FuncData} (F : Fun K "pointing" "pointing" sPointing f fd) (T : Bi mg) (N : Nm mg) (LP : LineP P w K mg base CL fI fdI) (RL : LineC K mg CL) (NU : DefAt P w K mg base CX0 3 "want_number" ["value", "least", "most", "part"] spNumC fN fdN)
    (WL : DefAt P w K mg base CX0 4 "want_lot" ["value", "many", "part"] (fun vs H Q _ => spWLA K c vs H Q fun _ _ _ => False) fW fdW) (WA : DefAt P w K mg base CX0 1 "with_alone" ["many", "strands"] (spWA K) fA fdA) : FnOk P w K mg base CX0 7 f fd ["many", "lot"] (spPO K CL) := by
  refine F.ok scPO (fun vs H Q E h => ?_) (fun cdv A outer s H vs Q E hr h => ?_)
  · obtain ⟨n, u, ns, rfl, _⟩ := h
    rfl
  · have nd := scPO.nd
    obtain ⟨t3, h3⟩ := N.leastB
    obtain ⟨t8, h8⟩ := N.mostB
    refine ⟨_, pss_cons (ps_expr (pe_call NU.ok (hr.mono (by decide)) rfl NU.g NU.kp NU.b .nil pass0 (pa_cons (pv 0) (pa_cons (pe_glob (v := .int 3) rfl h3 ⟨_, rfl⟩) (pa_cons (pe_glob (v := .int 8) rfl h8 ⟨_, rfl⟩) (pa_cons pe_str pa_nil))))))
      (pss_cons (ps_set (i := 2) nd rfl (Or.inl rfl) (pe_call WL.ok (hr.mono (by decide)) rfl WL.g WL.kp WL.b .nil pass0 (pa_cons (pv 1) (pa_cons (pv 0) (pa_cons pe_str pa_nil)))))
      (pss_one (ps_ret (pe_make LP.made LP.ok (hr.mono (by decide)) (by rfl) RL.g LP.b .nil pass0 (pa_cons (pe_call WA.ok (hr.mono (by decide)) rfl WA.g WA.kp WA.b .nil pass0 (pa_cons (pv 0) (pa_cons (pe_lst (pa_cons
        (pe_lc (own := [("bar", 3)]) (g := gName 3) (tt := tYes) (te := tTup (tCons (tVar 3) (tCons (tC (.int 1)) tNil))) rfl nd (pi_tup (pv 2)) (blkOk_by (N := nPO) (sc := defScope sPointing) (by decide +kernel)) (fun _ _ _ _ _ => pg_name (i := 3) nd rfl (Or.inl rfl)) (fun _ _ _ _ _ => pts_nil) (fun _ _ _ _ _ => pe_tup (pa_cons (pv 3) (pa_cons pe_int pa_nil)))) pa_nil)) pa_nil))) pa_nil))))), ?_⟩
    obtain ⟨n, u, ns, rfl, n3, n8, tl, lo, k⟩ := h
    have lr := lot_res lo
    refine ⟨_, rfl, (n : Nat), 3, 8, "many", rfl, by omega, by omega, ?_⟩
    refine ⟨_, rfl, _, rfl, u, (n : Nat), "lot", rfl, .inr ⟨ns, tl, ?_⟩⟩
    rw [lr]
    intro b ms H1 pm od s1 hb
    have lm := lo.of_perm pm
    have ml : ms.length ≤ 8 := by have := lm.len; omega
    refine ⟨_, rfl, _, rfl, b, rfl, ⟨_, SqT.of hb⟩, fun D hD => ?_⟩
    refine lc_tup (K := K) (a := b) (xs := ms.map V.int) (fun j H' => Same H1 H' ∧ ∃ us, H' D = some (.lst us) ∧ Paired (SPat H') us ((oneS ms).take j)) ⟨(Same.refl H1).new hD, [], upd_same, .nil⟩ (fun j H' _ q => SqT.of (q.1 _ _ hb)) ?_ ?_
    · rintro j x H' hj ⟨s2, us, h2, pu⟩
      obtain ⟨z, hz, rfl⟩ := int_at hj
      have jl : j < ms.length := (List.getElem?_eq_some_iff.mp hz).1
      refine ⟨rfl, _, rfl, (by show 2 ≤ sizeLine; decide), fun t nt => ?_⟩
      have s3 : Same H' (upd H' t (.tup [.int z, .int 1])) := (Same.refl H').new nt
      have ht : upd H' t (.tup [.int z, .int 1]) t = some (.tup [.int z, .int 1]) := upd_same
      generalize upd H' t (.tup [.int z, .int 1]) = H3 at s3 ht ⊢
      have h23 := s3 _ _ h2
      refine ⟨us, h23, ?_, (s2.trans s3).mut hD, _, upd_same, ?_⟩
      · rw [par_len pu, List.length_take]
        exact sm (by omega)
      · rw [← take_snoc (z := (z, (1 : Int))) (by unfold oneS; rw [List.getElem?_map, hz]; rfl)]
        exact par_app (par_imp (fun _ _ q => (q.same s3).mut h23) pu) (.cons (SPat.mut ⟨t, rfl, ht⟩ h23) .nil)
    rintro H2 ⟨s2, us, h2, pu⟩
    rw [show (ms.map V.int).length = (oneS ms).length by unfold oneS; rw [List.length_map, List.length_map], List.take_length] at pu
    refine ⟨(by show 1 ≤ sizeLine; decide), fun a na => ?_⟩
    have s3 : Same H2 (upd H2 a (.lst [.ref D])) := (Same.refl H2).new na
    have ha : upd H2 a (.lst [.ref D]) a = some (.lst [.ref D]) := upd_same
    generalize upd H2 a (.lst [.ref D]) = H3 at s3 ha ⊢
    have ol : (oneS ms).length ≤ 8 := by unfold oneS; rw [List.length_map]; exact ml
    refine ⟨n, a, .ref D, oneS ms, rfl, ha, LSt.same ⟨D, us, rfl, h2, pu⟩ s3, ol, n8, fun q H4 s4 lw => ?_⟩
    have g : goodV n (withA n (oneS ms)) := withA_good (by rw [oneS_bars]; exact lm) (fun q hq => by
      obtain ⟨b, _, rfl⟩ := List.mem_map.mp hq
      exact .inl rfl) n8
    refine madeU lw g n3 n8 fun x H5 lf s5 => ⟨rfl, ?_⟩
    refine k x H5 _ ((((s1.trans s2).trans s3).trans s4).trans s5) lf (due_good g) fun ls ll bd => ?_
    subst ll
    rw [point_had lm bd n8, pt_perm pm]
/-! ### can_point -/
def AskP (K : PySem.W.Frag) (CR cR : Addr) (c : Cs) (E : XK) (H : Hp) (v u : V) (q : List Int → List Int → Prop) : Prop :=
  (NoR K CR H v ∧ Errs E cR "part" (.str "ring") H) ∨ ∃ (r : Addr) (ls : List Int), v = .ref r ∧ RingAt K CR H r ls ∧ 3 ≤ ls.length ∧ ls.length ≤ 8 ∧ AskLot K c E ls.length "lot" H u fun ns => q ls ns
def spCP (K : PySem.W.Frag) (CR cR : Addr) (c : Cs) : Sp := fun vs H Q E => ∃ v u : V, vs = [v, u] ∧ AskP K CR cR c E H v u fun ls ns => ∀ H', Same H H' → Q (.bl (ptB ls ns)) H'
abbrev nCP : List Str := ["ring", "lot", "bars"]
theorem scCP : FnScope nCP ["ring", "lot"] (defScope sCanPoint) := ⟨rfl, rfl, rfl, by decide +kernel, rfl, by decide +kernel, by decide +kernel⟩
theorem ok_cp {CR cR f fR fN fW fS : Addr} {c : Cs} {fd fdR fdN fdW fdS : FuncData} (F : Fun K "can_point" "can_point" sCanPoint f fd) (T : Bi mg) (R : RingC K mg CR) (NM : Meth K CR "__len__" fN) (NL : FnOk P w K mg base CX0 1 fN fdN ["self"] (spRLen K CR)) (NB : Binds K fdN ["self"] [])
    (WR : DefAt P w K mg base (L2.CX P w) 3 "want_ring" ["value", "part"] (spWantR K CR cR) fR fdR) (WL : DefAt P w K mg base (L2.CX P w) 4 "want_lot" ["value", "many", "part"] (spWLA K c) fW fdW)
    (SM : Meth K CR "sort_of" fS) (SO : FnOk P w K mg base (L2.CX P w) 6 fS fdS ["self", "lot"] (spSortOf K CR c)) (SB : Binds K fdS ["self", "lot"] []) : FnOk P w K mg base (L2.CX P w) 8 f fd ["ring", "lot"] (spCP K CR cR c) := by
  refine F.okX scCP (fun vs H Q E h => ?_) (fun cdv A outer s H vs Q E hr h => ?_)
  · obtain ⟨v, u, rfl, _⟩ := h
    rfl
  · have nd := scCP.nd
    refine ⟨_, pss_cons (ps_expr (pe_call WR.ok (hr.mono (by decide)) rfl WR.g WR.kp WR.b .nil (passes_call (takes_of rfl rfl rfl rfl) (fun _ _ _ _ h => h)) (pa_cons (pv 0) (pa_cons pe_str pa_nil))))
      (pss_cons (ps_set (i := 2) nd rfl (Or.inl rfl) (pe_call WL.ok (hr.mono (by decide)) rfl WL.g WL.kp WL.b .nil (passes_call (takes_of rfl rfl rfl rfl) (fun _ _ _ _ h => h)) (pa_cons (pv 1) (pa_cons (pe_callB (call_lenO NL (hr.mono (by decide)) NB) (by rfl) T.len PySem.boot_len (pa_cons (pv 0) pa_nil)) (pa_cons pe_str pa_nil)))))
      (pss_one (ps_ret (pe_and (pe_fld (pv 0) rfl) (pe_one (pe_cmpR op_ne (pe_meth (pv 0) R.cl SM SO (hr.mono (by decide)) SB .nil (passes_call (takes_of rfl rfl rfl rfl) (fun _ _ _ _ h => h)) (pa_cons (pv 2) pa_nil)) pe_str (nomark _))))))), ?_⟩
    obtain ⟨v, u, rfl, ⟨no, er⟩ | ⟨r, ls, rfl, ra, l3, l8, h⟩⟩ := h
    · exact ⟨_, rfl, v, "ring", rfl, .inr ⟨no, er⟩⟩
    refine ⟨_, rfl, _, "ring", rfl, .inl ⟨r, ls, rfl, ra.weak, ?_⟩⟩
    obtain ⟨dx, t, hr0, ht⟩ := id ra.weak
    refine ⟨_, rfl, _, rfl, r, CR, dx, _, rfl, hr0, NM.at_, NM.fn, r, ls, rfl, ra.weak, _, rfl, by omega, by omega, u, (ls.length : Nat), "lot", rfl, ?_⟩
    refine h.imp_right fun ⟨ns, tl, lf⟩ => ⟨ns, tl, ?_⟩
    cases e : res (ls.length : Nat) ns with
    | bad => rw [e] at lf; exact lf
    | bar b => rw [e] at lf; exact lf
    | twice b => rw [e] at lf; exact lf
    | ok xs =>
      rw [e] at lf
      obtain ⟨rfl, lo⟩ := res_lot e
      intro b ms H1 pm od s1 hb
      have lm := lo.of_perm pm
      have hr1 := s1 _ _ hr0
      have ra1 := ra.same s1
      refine ⟨_, rfl, r, CR, dx, _, _, rfl, hr1, R.cl, R.nC, rf_closes _ _, closesB ls, rfl, ?_⟩
      cases cl : closesB ls with
      | false =>
        have q := lf H1 s1
        unfold ptB at q
        rw [cl] at q
        exact iteF q
      | true =>
        refine iteT ⟨_, rfl, r, dx, _, rfl, hr1, rf_no _ _ (by decide +kernel) (by decide +kernel) (by decide +kernel) (by decide +kernel), _, rfl, r, .ref b, ls, rfl, ra1.weak, l8, .inr (.inr ⟨b, ms, rfl, knd_tup hb, SqT.of hb, by have := lm.len; omega, ?_⟩)⟩
        rw [lot_res lm]
        intro H2 s2
        refine ⟨rfl, ?_⟩
        have q := lf H2 (s1.trans s2)
        rw [← pt_perm pm] at q
        unfold ptB at q
        rw [cl, Bool.true_and, ← pt_sort] at q
        rw [show decide (V.str (sortV ls ms) = V.str "long") = decide (sortV ls ms = "long") by simp]
        exact q
/-! ### against -/
def CornR (K : PySem.W.Frag) (cN cT : Addr) (E : XK) (H : Hp) (v u : V) (many : Int) (q : Int → Int → Prop) : Prop :=
  (∃ k, KndI K H v k ∧ winB k 0 (many - 1) v = false ∧ Errs E cN "value" v H) ∨
  ∃ i : Int, v = .int i ∧ 0 ≤ i ∧ i < many ∧ ((∃ k, KndI K H u k ∧ winB k 0 (many - 1) u = false ∧ Errs E cN "value" u H) ∨ ∃ j : Int, u = .int j ∧ 0 ≤ j ∧ j < many ∧ ((i = j ∧ Errs E cT "value" (.int j) H) ∨ (i ≠ j ∧ q i j)))
def spAG (K : PySem.W.Frag) (CR cR cN cT : Addr) : Sp := fun vs H Q E => ∃ v x y : V, vs = [v, x, y] ∧ ((NoR K CR H v ∧ Errs E cR "part" (.str "ring") H) ∨ ∃ (r : Addr) (ls : List Int), v = .ref r ∧ RingAt K CR H r ls ∧ 3 ≤ ls.length ∧ ls.length ≤ 8 ∧ Bd 1000000 ls ∧
  CornR K cN cT E H x y ls.length fun i j => ∀ H', Same H H' → Q (.bl (agB ls i j)) H')
theorem scAG : FnScope ["ring", "one", "other"] ["ring", "one", "other"] (defScope sAgainst) := ⟨rfl, rfl, rfl, by decide +kernel, rfl, by decide +kernel, by decide +kernel⟩
theorem ok_ag {CR CL cR cN cT f fR fN fB fT fH fA fI : Addr} {fd fdR fdN fdB fdT fdH fdA fdI : FuncData} (F : Fun K "against" "against" sAgainst f fd) (T : Bi mg) (R : RingC K mg CR) (NM : Meth K CR "__len__" fN) (NL : FnOk P w K mg base CX0 1 fN fdN ["self"] (spRLen K CR)) (NB : Binds K fdN ["self"] [])
    (WR : DefAt P w K mg base (L2.CX P w) 3 "want_ring" ["value", "part"] (spWantR K CR cR) fR fdR) (WB : DefAt P w K mg base (L2.CX P w) 3 "want_bar" ["value", "many"] (spBarG K cN) fB fdB) (B : ErrAt P w K mg base "Twice" "value" cT fT fdT)
    (IH : DefAt P w K mg base CX0 2 "is_had" ["ring", "lineup"] (spIH K CR CL) fH fdH) (WA : DefAt P w K mg base CX0 1 "with_alone" ["many", "strands"] (spWA K) fA fdA) (LP : LineP P w K mg base CL fI fdI) (RL : LineC K mg CL) : FnOk P w K mg base (L2.CX P w) 8 f fd ["ring", "one", "other"] (spAG K CR cR cN cT) := by
  refine F.okX scAG (fun vs H Q E h => ?_) (fun cdv A outer s H vs Q E hr h => ?_)
  · obtain ⟨v, x, y, rfl, _⟩ := h
    rfl
  · have nd := scAG.nd
    refine ⟨_, pss_cons (ps_expr (pe_call WR.ok (hr.mono (by decide)) rfl WR.g WR.kp WR.b .nil (passes_call (takes_of rfl rfl rfl rfl) (fun _ _ _ _ h => h)) (pa_cons (pv 0) (pa_cons pe_str pa_nil))))
      (pss_cons (ps_expr (pe_call WB.ok (hr.mono (by decide)) rfl WB.g WB.kp WB.b .nil (passes_call (takes_of rfl rfl rfl rfl) (fun _ _ _ _ h => h)) (pa_cons (pv 1) (pa_cons (pe_callB (call_lenO NL (hr.mono (by decide)) NB) (by rfl) T.len PySem.boot_len (pa_cons (pv 0) pa_nil)) pa_nil))))
      (pss_cons (ps_expr (pe_call WB.ok (hr.mono (by decide)) rfl WB.g WB.kp WB.b .nil (passes_call (takes_of rfl rfl rfl rfl) (fun _ _ _ _ h => h)) (pa_cons (pv 2) (pa_cons (pe_callB (call_lenO NL (hr.mono (by decide)) NB) (by rfl) T.len PySem.boot_len (pa_cons (pv 0) pa_nil)) pa_nil))))
      (pss_cons (ps_if (pt_cmpR op_eq (pv 1) (pv 2) (nomark _)) (pss_one (ps_raise rfl (takes_of rfl rfl rfl rfl) (pmk_oex B.oex B.ic B.ti B.ok (hr.mono (by decide)) B.b .nil pass0 rfl B.g (pa_cons (pv 2) pa_nil)))) pss_nil)
      (pss_one (ps_ret (pe_call IH.ok (hr.mono (by decide)) rfl IH.g IH.kp IH.b .nil pass0 (pa_cons (pv 0) (pa_cons (pe_make LP.made LP.ok (hr.mono (by decide)) (by rfl) RL.g LP.b .nil pass0 (pa_cons (pe_call WA.ok (hr.mono (by decide)) rfl WA.g WA.kp WA.b .nil pass0 (pa_cons (pe_callB (call_lenO NL (hr.mono (by decide)) NB) (by rfl) T.len PySem.boot_len (pa_cons (pv 0) pa_nil)) (pa_cons
        (pe_lst (pa_cons (pe_lst (pa_cons (pe_tup (pa_cons (pv 1) (pa_cons pe_int pa_nil))) (pa_cons (pe_tup (pa_cons (pv 2) (pa_cons (pe_un un_neg pe_int) pa_nil))) pa_nil))) pa_nil)) pa_nil))) pa_nil)) pa_nil)))))))), ?_⟩
    obtain ⟨v, x, y, rfl, ⟨no, er⟩ | ⟨r, ls, rfl, ra, l3, l8, bd, h⟩⟩ := h
    · exact ⟨_, rfl, v, "ring", rfl, .inr ⟨no, er⟩⟩
    refine ⟨_, rfl, _, "ring", rfl, .inl ⟨r, ls, rfl, ra.weak, ?_⟩⟩
    obtain ⟨dx, t, hr0, ht⟩ := id ra.weak
    rcases h with ⟨k, kn, wn, er⟩ | ⟨i, rfl, i0, i1, h⟩
    · exact ⟨_, rfl, _, rfl, r, CR, dx, _, rfl, hr0, NM.at_, NM.fn, r, ls, rfl, ra.weak, _, rfl, by omega, by omega, x, k, (ls.length : Nat), rfl, kn, .inr ⟨wn, er⟩⟩
    refine ⟨_, rfl, _, rfl, r, CR, dx, _, rfl, hr0, NM.at_, NM.fn, r, ls, rfl, ra.weak, _, rfl, by omega, by omega, .int i, "int", (ls.length : Nat), rfl, KndI.int, .inl ⟨by rw [winB_int, decide_eq_true i0, decide_eq_true (show i ≤ (ls.length : Nat) - 1 by omega)]; rfl, ?_⟩⟩
    rcases h with ⟨k, kn, wn, er⟩ | ⟨j, rfl, j0, j1, h⟩
    · exact ⟨_, rfl, _, rfl, r, CR, dx, _, rfl, hr0, NM.at_, NM.fn, r, ls, rfl, ra.weak, _, rfl, by omega, by omega, y, k, (ls.length : Nat), rfl, kn, .inr ⟨wn, er⟩⟩
    refine ⟨_, rfl, _, rfl, r, CR, dx, _, rfl, hr0, NM.at_, NM.fn, r, ls, rfl, ra.weak, _, rfl, by omega, by omega, .int j, "int", (ls.length : Nat), rfl, KndI.int, .inl ⟨by rw [winB_int, decide_eq_true j0, decide_eq_true (show j ≤ (ls.length : Nat) - 1 by omega)]; rfl, ?_⟩⟩
    rcases h with ⟨e, er⟩ | ⟨ne, k⟩
    · refine ⟨_, rfl, _, rfl, rfl, _, rfl, ?_⟩
      rw [dec_int, decide_eq_true e]
      exact iteT ⟨_, rfl, err_made B.oex B.nf er⟩
    refine ⟨_, rfl, _, rfl, rfl, _, rfl, ?_⟩
    rw [dec_int, decide_eq_false ne]
    refine iteF ?_
    refine ⟨_, rfl, _, rfl, r, CR, dx, _, rfl, hr0, NM.at_, NM.fn, r, ls, rfl, ra.weak, _, rfl, by omega, by omega, _, rfl, (by show 2 ≤ sizeLine; decide), fun t1 n1 => ?_⟩
    have s1 : Same H (upd H t1 (.tup [.int i, .int 1])) := (Same.refl H).new n1
    have h1 : upd H t1 (.tup [.int i, .int 1]) t1 = some (.tup [.int i, .int 1]) := upd_same
    generalize upd H t1 (.tup [.int i, .int 1]) = H1 at s1 h1 ⊢
    refine ⟨_, rfl, 1, rfl, (by show 2 ≤ sizeLine; decide), fun t2 n2 => ?_⟩
    have s2 : Same H1 (upd H1 t2 (.tup [.int j, .int (-1)])) := (Same.refl H1).new n2
    have h2 : upd H1 t2 (.tup [.int j, .int (-1)]) t2 = some (.tup [.int j, .int (-1)]) := upd_same
    generalize upd H1 t2 (.tup [.int j, .int (-1)]) = H2 at s2 h2 ⊢
    refine ⟨(by show 2 ≤ sizeLine; decide), fun b nb => ?_⟩
    have s3 : Same H2 (upd H2 b (.lst [.ref t1, .ref t2])) := (Same.refl H2).new nb
    have hb : upd H2 b (.lst [.ref t1, .ref t2]) b = some (.lst [.ref t1, .ref t2]) := upd_same
    generalize upd H2 b (.lst [.ref t1, .ref t2]) = H3 at s3 hb ⊢
    refine ⟨(by show 1 ≤ sizeLine; decide), fun a na => ?_⟩
    have s4 : Same H3 (upd H3 a (.lst [.ref b])) := (Same.refl H3).new na
    have ha : upd H3 a (.lst [.ref b]) a = some (.lst [.ref b]) := upd_same
    generalize upd H3 a (.lst [.ref b]) = H4 at s4 ha ⊢
    have s14 := (s2.trans s3).trans s4
    refine ⟨ls.length, a, .ref b, [(i, 1), (j, -1)], rfl, ha, ⟨b, _, rfl, s4 _ _ hb, .cons ⟨t1, rfl, s14 _ _ h1⟩ (.cons ⟨t2, rfl, (s3.trans s4) _ _ h2⟩ .nil)⟩, (by show 2 ≤ 8; decide), l8, fun q H5 s5 lw => ?_⟩
    have lo : LotOk ls.length [i, j] := ⟨by simp [ne], fun b hb => by
      rcases List.mem_cons.mp hb with rfl | hb
      · exact ⟨i0, i1⟩
      · rw [List.mem_singleton.mp hb]; exact ⟨j0, j1⟩⟩
    obtain ⟨g, hd⟩ := against_had lo bd l8
    refine madeU lw g l3 l8 fun u H6 lf s6 => ⟨rfl, ?_⟩
    have s05 := (s1.trans s14).trans s5
    refine ⟨r, u, ls, _, rfl, ra.same (s05.trans s6), lf, due_good g, by omega, fun H7 s7 => ?_⟩
    rw [hd]
    exact k H7 ((s05.trans s6).trans s7)
end
end K
namespace K
open PySem L2 Rg LamX
open Evl (pss_cut)
/-! ### the law's lots -/
def lotsI : Nat → List (List Int)
  | 0 => [[]]
  | j + 1 => lotsI j ++ (lotsI j).map fun l => l ++ [(j : Int)]
theorem lotsI_len : ∀ n, (lotsI n).length = 2 ^ n
  | 0 => rfl
  | n + 1 => by
    unfold lotsI
    rw [List.length_append, List.length_map, lotsI_len n, Nat.pow_succ]
    omega
theorem lotsI_le {n : Nat} (h : n ≤ 8) : (lotsI n).length ≤ 256 := by
  rw [lotsI_len]
  exact Nat.pow_le_pow_right (n := 2) (by decide) h
theorem lotsI_ok : ∀ (n : Nat), ∀ l ∈ lotsI n, LotOk n l ∧ l.length ≤ n
  | 0, l, h => by
    rw [show lotsI 0 = [[]] from rfl] at h
    rw [List.mem_singleton.mp h]
    exact ⟨⟨List.nodup_nil, fun _ z => (nomatch z)⟩, Nat.le_refl _⟩
  | n + 1, l, h => by
    unfold lotsI at h
    rcases List.mem_append.mp h with h | h
    · obtain ⟨⟨a, b⟩, c⟩ := lotsI_ok n l h
      exact ⟨⟨a, fun x hx => by have := b x hx; omega⟩, by omega⟩
    · obtain ⟨m, hm, rfl⟩ := List.mem_map.mp h
      obtain ⟨⟨a, b⟩, c⟩ := lotsI_ok n m hm
      refine ⟨⟨List.nodup_append.mpr ⟨a, by simp, fun x hx y hy => ?_⟩, fun x hx => ?_⟩, ?_⟩
      · rw [List.mem_singleton.mp hy]
        have := b x hx
        omega
      · rcases List.mem_append.mp hx with hx | hx
        · have := b x hx; omega
        · rw [List.mem_singleton.mp hx]; omega
      · rw [List.length_append, List.length_singleton]; omega
theorem lotsI_nodup : ∀ n : Nat, (lotsI n).Nodup
  | 0 => by rw [show lotsI 0 = [[]] from rfl]; simp
  | n + 1 => by
    unfold lotsI
    refine List.nodup_append.mpr ⟨lotsI_nodup n, ?_, fun x hx y hy e => ?_⟩
    · refine List.pairwise_map.mpr ((lotsI_nodup n).imp fun {a b} h e => h ?_)
      exact List.append_cancel_right e
    · obtain ⟨m, hm, rfl⟩ := List.mem_map.mp hy
      have := ((lotsI_ok n x hx).1.rg n (by rw [e]; simp)).2
      omega
/-- a list of ints, laid anew -/
def LI (H : Hp) (v : V) (l : List Int) : Prop := ∃ a, v = .ref a ∧ H a = some (.lst (l.map V.int))
theorem LI.same {H H' : Hp} {v : V} {l : List Int} (h : LI H v l) (s : Same H H') : LI H' v l := let ⟨a, e, z⟩ := h; ⟨a, e, s _ _ z⟩
theorem LI.mut {H : Hp} {D : Addr} {ws : List V} {v : V} {l : List Int} (h : LI H v l) (n : v ≠ .ref D) : LI (upd H D (.lst ws)) v l := by
  obtain ⟨a, e, z⟩ := h
  exact ⟨a, e, by rw [upd_ne fun k => n (by rw [e, k])]; exact z⟩
def New (H : Hp) (v : V) : Prop := ∀ a, v = .ref a → H a = none
section
variable {P : Program} {w : World} {K : PySem.W.Frag} {mg : Str → Option Value} {base : Heap}
def spLO : Sp := fun vs H Q _ => ∃ n : Nat, vs = [.int (n : Nat)] ∧ n ≤ 8 ∧ ∀ (p : Addr) (xs : List V) (H' : Hp), Same H H' → H p = none → H' p = some (.lst xs) → Paired (fun v l => LI H' v l ∧ New H v) xs (lotsI n) → Q (.ref p) H'
abbrev nLO : List Str := ["_law_many", "_law_found", "_law_bar", "_law_lot"]
theorem scLO : FnScope nLO ["_law_many"] (defScope sLwLots) := ⟨rfl, rfl, rfl, by decide +kernel, rfl, by decide +kernel, by decide +kernel⟩
theorem ok_lo {f : Addr} {fd : FuncData} (F : Fun K "_law_lots" "_law_lots" sLwLots f fd) (T : Bi mg) : FnOk P w K mg base CX0 1 f fd ["_law_many"] spLO := by
  refine F.ok scLO (fun vs H Q E h => ?_) (fun cdv A outer s H vs Q E hr h => ?_)
  · obtain ⟨n, rfl, _⟩ := h
    rfl
  · have nd := scLO.nd
    refine ⟨_, pss_cons (ps_set (i := 1) nd rfl (Or.inl rfl) (pe_lst (pa_cons (pe_lst pa_nil) pa_nil)))
      (pss_cons (ps_for PassesOwn.never rfl (pi_range1 (by rfl) T.range (pa_cons (pv 0) pa_nil)) (pg_name (i := 2) nd rfl (Or.inr rfl)) (pss_one (ps_set (i := 1) nd rfl (Or.inl rfl) (pe_op op_cat (pv 1)
        (pe_lc (own := [("_law_lot", 3)]) (g := gName 3) (tt := tYes) (te := tOp rCat (tVar 3) (tLst (tCons (tVar 2) tNil))) rfl nd (pi_list (pv 1)) (blkOk_by (N := nLO) (sc := defScope sLwLots) (by decide +kernel)) (fun _ _ _ _ _ => pg_name (i := 3) nd rfl (Or.inl rfl)) (fun _ _ _ _ _ => pts_nil) (fun _ _ _ _ _ => pe_op op_cat (pv 3) (pe_lst (pa_cons (pv 2) pa_nil))))))))
      (pss_one (ps_ret (pv 1)))), ?_⟩
    obtain ⟨n, rfl, n8, k⟩ := h
    refine ⟨(by show 0 ≤ sizeLine; decide), fun e ne => ?_⟩
    have s1 : Same H (upd H e (.lst [])) := (Same.refl H).new ne
    have he : upd H e (.lst []) e = some (.lst []) := upd_same
    generalize upd H e (.lst []) = H1 at s1 he ⊢
    refine ⟨(by show 1 ≤ sizeLine; decide), fun f0 nf => ?_⟩
    have fe : H f0 = none := s1.free nf
    have s2 : Same H1 (upd H1 f0 (.lst [.ref e])) := (Same.refl H1).new nf
    have hf : upd H1 f0 (.lst [.ref e]) f0 = some (.lst [.ref e]) := upd_same
    generalize upd H1 f0 (.lst [.ref e]) = H2 at s2 hf ⊢
    refine ⟨_, rfl, _, rfl, by omega, by omega, ?_⟩
    refine for_range (lo := 0) (n := ((n : Nat) : Int).toNat) (fun i σ H' => ∃ (l : Addr) (xs : List V) (z2 : Option V), σ = [some (.int (n : Nat)), some (.ref l), z2, none] ∧ Same H H' ∧ H l = none ∧ H' l = some (.lst xs) ∧ Paired (fun v l => LI H' v l ∧ New H v) xs (lotsI i))
      ⟨f0, _, _, rfl, s1.trans s2, fe, hf, .cons ⟨⟨e, rfl, s2 _ _ he⟩, fun a q => by rw [← V.ref.inj q]; exact ne⟩ .nil⟩ ?_ ?_
    · rintro i σ H3 hi ⟨l, xs, z2, rfl, s3, nl, h3, px⟩
      rw [Int.toNat_natCast] at hi
      rw [Int.zero_add]
      have xl := par_len px
      have x8 : xs.length ≤ 256 := by rw [xl]; exact lotsI_le (by omega)
      refine ⟨_, rfl, _, rfl, l, rfl, ⟨_, SqL.of h3⟩, fun D hD => ?_⟩
      refine lc_list (K := K) (a := l) (xs := xs) (fun j H' => Same H3 H' ∧ ∃ us, H' D = some (.lst us) ∧ Paired (fun v l => LI H' v l ∧ New H3 v ∧ v ≠ .ref D) us (((lotsI i).take j).map fun l => l ++ [(i : Int)])) ⟨(Same.refl H3).new hD, [], upd_same, .nil⟩ (fun j H' _ q => SqL.of (q.1 _ _ h3)) ?_ ?_
      · rintro j x H4 hj ⟨s4, us, h4, pu⟩
        obtain ⟨lt, hlt, ⟨a, rfl, ha⟩, na⟩ := par_get px hj
        have jl : j < xs.length := (List.getElem?_eq_some_iff.mp hj).1
        have lo := (lotsI_ok i lt (List.mem_of_getElem? hlt)).2
        have ha4 := s4 _ _ ha
        refine ⟨rfl, _, rfl, _, rfl, (by show 1 ≤ sizeLine; decide), fun b nb => ?_⟩
        have s5 : Same H4 (upd H4 b (.lst [.int (i : Int)])) := (Same.refl H4).new nb
        have hb : upd H4 b (.lst [.int (i : Int)]) b = some (.lst [.int (i : Int)]) := upd_same
        generalize upd H4 b (.lst [.int (i : Int)]) = H5 at s5 hb ⊢
        refine ⟨a, b, _, _, rfl, rfl, s5 _ _ ha4, hb, (by rw [List.length_map]; show lt.length + 1 ≤ sizeLine; exact Nat.le_of_lt (sm (by omega))), fun q nq => ?_⟩
        have s6 : Same H5 (upd H5 q (.lst (lt.map V.int ++ [.int (i : Int)]))) := (Same.refl H5).new nq
        have hq : upd H5 q (.lst (lt.map V.int ++ [.int (i : Int)])) q = some (.lst (lt.map V.int ++ [.int (i : Int)])) := upd_same
        generalize upd H5 q (.lst (lt.map V.int ++ [.int (i : Int)])) = H6 at s6 hq ⊢
        have s56 := s5.trans s6
        have h6 := s56 _ _ h4
        have qD : V.ref q ≠ .ref D := fun z => by
          rw [V.ref.inj z, s5 _ _ h4] at nq
          cases nq
        refine ⟨us, h6, ?_, (s4.trans s56).mut hD, _, upd_same, ?_⟩
        · rw [par_len pu, List.length_map, List.length_take]
          exact sm (by omega)
        · rw [← take_snoc hlt, List.map_append]
          refine par_app (par_imp (fun _ _ z => ⟨(z.1.same s56).mut z.2.2, z.2⟩) pu) (.cons ⟨LI.mut ⟨q, rfl, by rw [hq, List.map_append]; rfl⟩ qD, fun a e => ?_, qD⟩ .nil)
          rw [← V.ref.inj e]
          exact (s4.trans s5).free nq
      · rintro H4 ⟨s4, us, h4, pu⟩
        rw [xl, List.take_length] at pu
        refine ⟨l, D, xs, us, rfl, rfl, s4 _ _ h3, h4, ?_, fun q nq => ?_⟩
        · rw [par_len pu, List.length_map, ← xl]
          exact Nat.le_of_lt (sm (by omega))
        · have s5 := s4.new (o := .lst (xs ++ us)) nq
          refine ⟨q, _, _, rfl, s3.trans s5, (s3.trans s4).free nq, upd_same, ?_⟩
          unfold lotsI
          have s45 : Same H4 (upd H4 q (.lst (xs ++ us))) := (Same.refl H4).new nq
          exact par_app (par_imp (fun _ _ z => ⟨z.1.same s5, z.2⟩) px) (par_imp (fun v _ z => ⟨z.1.same s45, fun a e => s3.free (z.2.1 a e)⟩) pu)
    · rintro σ H3 ⟨l, xs, z2, rfl, s3, nl, h3, px⟩
      rw [Int.toNat_natCast] at px
      exact ⟨_, rfl, k l xs H3 s3 nl h3 px⟩
end
end K
namespace K
open PySem L2 Rg LamX
open Evl (pss_cut)
section
variable {P : Program} {w : World} {K : PySem.W.Frag} {mg : Str → Option Value} {base : Heap}
def spMixed (K : PySem.W.Frag) : Sp := fun vs H Q _ => ∃ (p l : Addr) (e : Addr × List Int) (xs : List V) (n : Nat), vs = [.ref p, .ref l] ∧ SqL K H l xs ∧ l ≠ p ∧ xs.length ≤ 30 ∧ n < 900000 ∧ PenAt K H p e n ∧
  ∀ (q : Addr) (ys : List V) (H' : Hp), ys.Perm xs → H q = none → But p H H' → H' q = some (.lst ys) → PenAt K H' p e (n + xs.length) → Q (.ref q) H'
abbrev nMixed : List Str := ["_law_bench_here", "_law_some", "_law_left", "_law_found", "_law_turn"]
theorem scMixed : FnScope nMixed ["_law_bench_here", "_law_some"] (defScope sLwMixed) := ⟨rfl, rfl, rfl, by decide +kernel, rfl, by decide +kernel, by decide +kernel⟩
theorem perm_take {l d : List V} {i : Nat} {x : V} (h : l[i]? = some x) : (d ++ [x] ++ l.eraseIdx i).Perm (d ++ l) := by
  obtain ⟨hi, rfl⟩ := List.getElem?_eq_some_iff.mp h
  rw [List.append_assoc]
  refine List.Perm.append_left d ?_
  rw [List.eraseIdx_eq_take_drop_succ]
  have e : l = l.take i ++ l[i] :: l.drop (i + 1) := by
    rw [List.getElem_cons_drop, List.take_append_drop]
  calc [l[i]] ++ (l.take i ++ l.drop (i + 1)) = l[i] :: (l.take i ++ l.drop (i + 1)) := rfl
    _ |>.Perm (l.take i ++ l[i] :: l.drop (i + 1)) := List.perm_middle.symm
    _ |>.Perm l := by rw [← e]
theorem ok_mixed {f fD : Addr} {fd fdD : FuncData} (F : Fun K "_law_mixed" "_law_mixed" sLwMixed f fd) (T : Bi mg) (D : DrawAt P w K mg base fD fdD) : FnOk P w K mg base CX0 3 f fd ["_law_bench_here", "_law_some"] (spMixed K) := by
  refine F.ok scMixed (fun vs H Q E h => ?_) (fun cdv A outer s H vs Q E hr h => ?_)
  · obtain ⟨p, l, e, xs, n, rfl, _⟩ := h
    rfl
  · have nd := scMixed.nd
    refine ⟨_, pss_cons (ps_par (i := 2) (j := 3) (by rfl) nd rfl rfl (by decide) rfl rfl (pa_cons (pe_callTy call_list_of (by rfl) T.list (by decide +kernel) (pa_cons (pv 1) pa_nil)) (pa_cons (pe_lst pa_nil) pa_nil)) (by rfl))
      (pss_cons (ps_for PassesOwn.never rfl (pi_range1 (by rfl) T.range (pa_cons (pe_callB call_len_seq (by rfl) T.len PySem.boot_len (pa_cons (pv 1) pa_nil)) pa_nil)) (pg_name (i := 4) nd rfl (Or.inl rfl))
        (pss_one (ps_expr (pe_bm PySem.F.plainAttrs_list PySem.F.slot_list_append PySem.F.type_list_append mt_append (pv 3)
          (pa_cons (pe_bm PySem.F.plainAttrs_list PySem.F.slot_list_pop PySem.F.type_list_pop mt_popAt (pv 2)
            (pa_cons (pe_call D.ok hr rfl D.g D.kp D.b .nil pass0 (pa_cons (pv 0) (pa_cons (pe_callB call_len_seq (by rfl) T.len PySem.boot_len (pa_cons (pv 2) pa_nil)) pa_nil))) pa_nil)) pa_nil)))))
      (pss_one (ps_ret (pv 3)))), ?_⟩
    obtain ⟨p, l, e, xs, n, rfl, hl, hlp, hxl, hn, pen, k⟩ := h
    refine ⟨_, rfl, l, xs, rfl, .inl hl, fun a ha => ⟨by show 0 ≤ sizeLine; decide, fun g hg => ?_⟩⟩
    have hga : g ≠ a := (ne_of_none upd_same hg).symm
    have hg0 : H g = none := by
      rw [upd_ne hga] at hg
      exact hg
    have s1 : Same H (upd H a (.lst xs)) := (Same.refl H).new ha
    have s2 : Same H (upd (upd H a (.lst xs)) g (.lst [])) := s1.new hg
    refine ⟨_, _, rfl, _, rfl, l, xs, rfl, .inl (s2.seq hl), _, rfl, by omega, by omega, ?_⟩
    refine for_range (lo := 0) (n := ((xs.length : Nat) : Int).toNat) (fun i σ H' => ∃ (rest done : List V) (t : Option V), σ = [some (.ref p), some (.ref l), some (.ref a), some (.ref g), t] ∧ But p H H' ∧ H' a = some (.lst rest) ∧ H' g = some (.lst done) ∧
      (done ++ rest).Perm xs ∧ done.length = i ∧ PenAt K H' p e (n + i)) ⟨xs, [], none, rfl, But.of s2, by rw [upd_ne hga.symm, upd_same], upd_same, List.Perm.refl _, rfl, pen.same s2⟩ ?_ ?_
    · rintro i σ H' hi ⟨rest, done, t, rfl, b, h1, h2, pm, dl, pen'⟩
      have hi' : i < xs.length := by omega
      have hlen := pm.length_eq
      rw [List.length_append] at hlen
      have hap : a ≠ p := pen.ne ha
      have hgp : g ≠ p := pen.ne hg0
      have r1 : 1 ≤ rest.length := by omega
      refine ⟨_, rfl, .inl ⟨rfl, _, SqL.of h2⟩, _, rfl, .inl ⟨rfl, _, SqL.of h1⟩, _, rfl, _, rfl, a, rest, rfl, .inl (SqL.of h1), p, e, _, n + i, rfl, by omega, by omega, by omega, pen', fun r H2 r0 rl b2 pen2 => ?_⟩
      have hrl : r.toNat < rest.length := by omega
      have e1 : H2 a = some (.lst rest) := b2 a _ hap h1
      have e2 : H2 g = some (.lst done) := b2 g _ hgp h2
      refine ⟨a, rest, r, r.toNat, rest[r.toNat], rfl, rfl, e1, by omega, by omega, seqIndex_of r0 rl, List.getElem?_eq_getElem hrl, g, done, _, rfl, rfl, by rw [upd_ne hga]; exact e2, szl (by omega), ?_⟩
      have b3 : But p H (upd (upd H2 a (.lst (rest.eraseIdx r.toNat))) g (.lst (done ++ [rest[r.toNat]]))) := ((b.trans b2).mut ha).mut hg0
      refine ⟨rest.eraseIdx r.toNat, done ++ [rest[r.toNat]], _, rfl, b3, by rw [upd_ne hga.symm, upd_same], upd_same, (perm_take (List.getElem?_eq_getElem hrl)).trans pm, by rw [List.length_append, dl]; rfl, ?_⟩
      exact pen.mut (pen.mut pen2 (b.trans b2) ha) ((b.trans b2).mut ha) hg0
    · rintro σ H' ⟨rest, done, t, rfl, b, h1, h2, pm, dl, pen'⟩
      have hlen := pm.length_eq
      rw [List.length_append] at hlen
      have er : rest = [] := List.eq_nil_of_length_eq_zero (by omega)
      subst er
      rw [List.append_nil] at pm
      refine ⟨_, rfl, k g done H' pm hg0 b h2 (by simpa using pen')⟩
/-! ### without an error -/
def spCPc (K : PySem.W.Frag) (CR : Addr) : Sp := fun vs H Q _ => ∃ (r : Addr) (u : V) (ls ns : List Int), vs = [.ref r, u] ∧ RingAt K CR H r ls ∧ 3 ≤ ls.length ∧ ls.length ≤ 8 ∧ TLot K H u (some ns) ∧ LotOk ls.length ns ∧ ∀ H', Same H H' → Q (.bl (ptB ls ns)) H'
theorem ok_cpc {CR cR f : Addr} {c : Cs} {fd : FuncData} {k : Nat} (F : FnOk P w K mg base (L2.CX P w) k f fd ["ring", "lot"] (spCP K CR cR c)) : FnOk P w K mg base CX0 k f fd ["ring", "lot"] (spCPc K CR) :=
  (fn_calm F).imp fun vs H Q E ⟨r, u, ls, ns, hv, ra, l3, l8, tl, lo, k⟩ => ⟨.ref r, u, hv, .inr ⟨r, ls, rfl, ra, l3, l8, .inr ⟨ns, tl, by rw [lot_res lo]; exact k⟩⟩⟩
def spAGc (K : PySem.W.Frag) (CR : Addr) : Sp := fun vs H Q _ => ∃ (r : Addr) (ls : List Int) (i j : Int), vs = [.ref r, .int i, .int j] ∧ RingAt K CR H r ls ∧ 3 ≤ ls.length ∧ ls.length ≤ 8 ∧ Bd 1000000 ls ∧ 0 ≤ i ∧ i < ls.length ∧ 0 ≤ j ∧ j < ls.length ∧ i ≠ j ∧ ∀ H', Same H H' → Q (.bl (agB ls i j)) H'
theorem ok_agc {CR cR cN cT f : Addr} {fd : FuncData} {k : Nat} (F : FnOk P w K mg base (L2.CX P w) k f fd ["ring", "one", "other"] (spAG K CR cR cN cT)) : FnOk P w K mg base CX0 k f fd ["ring", "one", "other"] (spAGc K CR) :=
  (fn_calm F).imp fun vs H Q E ⟨r, ls, i, j, hv, ra, l3, l8, bd, i0, i1, j0, j1, ne, k⟩ => ⟨.ref r, .int i, .int j, hv, .inr ⟨r, ls, rfl, ra, l3, l8, bd, .inr ⟨i, rfl, i0, i1, .inr ⟨j, rfl, j0, j1, .inr ⟨ne, k⟩⟩⟩⟩⟩
/-- the truth of what can_line gives -/
theorem bool_line {X : Cx} {CN CG fBN fBG : Addr} {fdBN fdBG : FuncData} (BN : PapB X.prog X.w X.K X.mg X.base CN fBN fdBN true) (BG : PapB X.prog X.w X.K X.mg X.base CG fBG fdBG false) (hr : Room 3 X.A) :
    CallR X (.type "bool") (fun xs H Q => ∃ (p C dx : Addr) (fs : List (Str × V)) (b : Bool), xs = [.ref p] ∧ H p = some (.ins C dx fs) ∧ ((C = CN ∧ b = true) ∨ (C = CG ∧ b = false)) ∧ Q (.bl b) H) := by
  intro pns s σs Hh xs us Qq Iv rr ⟨p, C, dx, fs, b, ex, hp, hc, q⟩
  rcases hc with ⟨rfl, rfl⟩ | ⟨rfl, rfl⟩
  · exact call_boolO BN.ok hr BN.b pns s σs Hh xs us Qq Iv rr ⟨p, C, dx, fs, ex, hp, BN.f, BN.fn, .ref p, rfl, _, rfl, q⟩
  · exact call_boolO BG.ok hr BG.b pns s σs Hh xs us Qq Iv rr ⟨p, C, dx, fs, ex, hp, BG.f, BG.fn, .ref p, rfl, _, rfl, q⟩
theorem NetsR.ins {C : Addr} {H : Hp} {p : Addr} {ns : List Int} (h : NetsR C H p ns) : ∃ dx fs, H p = some (.ins C dx fs) := let ⟨_, ⟨dx, _, h, _⟩, _⟩ := h; ⟨dx, _, h⟩
theorem GreatR.ins {C : Addr} {H : Hp} {p : Addr} {W : List Strd} {ns : List Int} (h : GreatR C H p W ns) : ∃ dx fs, H p = some (.ins C dx fs) := let ⟨_, ⟨dx, _, h, _⟩, _⟩ := h; ⟨dx, _, h⟩
end
end K
namespace K
open PySem L2 Rg LamX
open Evl (pss_cut)
abbrev gK2 {α : Type} : List α → List α → List α := fun us ws => match us, ws with
  | [], [l, r] => [r, l]
  | _, _ => []
abbrev gK3 {α : Type} : List α → List α → List α := fun us ws => match us, ws with
  | [], [v, l, r] => [r, l, v]
  | _, _ => []
theorem lens_snoc (ls : List Int) (j : Nat) (ns : List Int) : lensI ls (restI (j + 1) ns) = lensI ls (restI j ns) ++ (if ns.contains (j : Int) = true then [] else [ls.getD j 0]) := by
  unfold lensI
  rw [rest_snoc, List.map_append]
  congr 1
  split
  · rfl
  · rw [List.map_singleton, Int.toNat_natCast]
theorem lens_len (ls ns : List Int) : (lensI ls ns).length = ns.length := by unfold lensI; rw [List.length_map]
theorem abs_eq (z : Int) : ((z.natAbs : Nat) : Int) = absI z := by unfold absI; split <;> omega
section
variable {P : Program} {w : World} {K : PySem.W.Frag} {mg : Str → Option Value} {base : Heap}
def spAGR (K : PySem.W.Frag) : Sp := fun vs H Q _ => ∃ (p la : Addr) (e : Addr × List Int) (ls : List Int) (n : Nat), vs = [.ref p, .ref la] ∧ H la = some (.lst (ls.map V.int)) ∧ la ≠ p ∧ 3 ≤ ls.length ∧ ls.length ≤ 8 ∧ Bd 1000000 ls ∧ n < 700000 ∧ PenAt K H p e n ∧
  ∀ H', But p H H' → PenAt K H' p e (n + 2) → Q (.bl true) H'
abbrev nAR : List Str := ["_law_bench_here", "_law_lengths_here", "_law_ring", "_law_many", "_law_one", "_law_other", "_law_rest", "_law_due", "_law_strands", "_law_bar"]
theorem scAR : FnScope nAR ["_law_bench_here", "_law_lengths_here"] (defScope sLwAgainstRight) := ⟨rfl, rfl, rfl, by decide +kernel, rfl, by decide +kernel, by decide +kernel⟩
theorem ok_agr {CR CL CN CG f fD fPK fR fHM fAG fCLI fI fBN fBG : Addr} {fd fdD fdPK fdR fdHM fdAG fdCLI fdI fdBN fdBG : FuncData} {g1 : List Value → List Value → List Value} (F : Fun K "_law_against_right" "_law_against_right" sLwAgainstRight f fd) (T : Bi mg)
    (D : DrawAt P w K mg base fD fdD) (PK : DefAt P w K mg base CX0 3 "_law_pick" ["_law_bench_here", "_law_some"] (spPick K) fPK fdPK) (R : RingP P w K mg base CR fR fdR) (RG : RingC K mg CR) (HM : DefAt P w K mg base CX0 1 "_law_is_home" ["_law_nets"] spHM fHM fdHM)
    (AG : DefAt P w K mg base CX0 8 "against" ["ring", "one", "other"] (spAGc K CR) fAG fdAG) (KAG : KBinds K fdAG ["ring", "one", "other"] ["other", "one", "ring"] g1 gK3) (CLI : DefAt P w K mg base CX0 7 "can_line" ["ring", "lineup"] (spCLc K CR CL CN CG) fCLI fdCLI)
    (LP : LineP P w K mg base CL fI fdI) (RL : LineC K mg CL) (BN : PapB P w K mg base CN fBN fdBN true) (BG : PapB P w K mg base CG fBG fdBG false) : FnOk P w K mg base CX0 10 f fd ["_law_bench_here", "_law_lengths_here"] (spAGR K) := by
  refine F.ok scAR (fun vs H Q E h => ?_) (fun cdv A outer s H vs Q E hr h => ?_)
  · obtain ⟨p, la, e, ls, n, rfl, _⟩ := h
    rfl
  · have nd := scAR.nd
    refine ⟨_, (pss_cons (ps_par (i := 2) (j := 3) (by rfl) nd rfl rfl (by decide) rfl rfl (pa_cons (pe_make R.made R.ok (hr.mono (by decide)) (by rfl) RG.g R.b .nil pass0 (pa_cons (pv 1) pa_nil)) (pa_cons (pe_callB (r := rLenS K) call_len_seq (by rfl) T.len PySem.boot_len (pa_cons (pv 1) pa_nil)) pa_nil)) (by rfl))
      (pss_cons (ps_for PassesOwn.never rfl (pi_range1 (by rfl) T.range (pa_cons (pv 3) pa_nil)) (pg_name (i := 4) nd rfl (Or.inr rfl)) (pss_one (ps_for PassesOwn.never rfl (pi_range1 (by rfl) T.range (pa_cons (pv 3) pa_nil)) (pg_name (i := 5) nd rfl (Or.inr rfl)) (pss_one (ps_if (pt_cmpR op_ne (pv 4) (pv 5) (nomark _)) (pss_cons (ps_setLc (i := 6) (own := [("_law_bar", 9)]) (g := (gName 9)) (tt := tTest (tOp (rIn K true) (tVar 9) (tTup (tCons (tVar 4) (tCons (tVar 5) tNil))))) (te := tOp (rIxL K) (tVar 1) (tVar 9))  rfl nd rfl rfl (sw_true rfl rfl rfl (by decide +kernel)) (pi_range1 (by rfl) T.range (pa_cons (pv 3) pa_nil))
          (blkOk_by (N := nAR) (sc := defScope sLwAgainstRight) (by decide +kernel)) (fun _ _ _ _ _ => (pg_name (i := 9) nd rfl (Or.inl rfl))) (fun _ _ _ _ _ => (pts_one (pt_cmpR op_notIn_seq (pv 9) (pe_tup (pa_cons (pv 4) (pa_cons (pv 5) pa_nil))) (by rfl)))) (fun _ _ _ _ _ => (pe_ix (r := rIxL K) ix_list (pv 1) (pv 9) (fun _ _ => rfl))))
      (pss_cons (ps_set (i := 7) nd rfl (Or.inl rfl) (pe_call HM.ok (hr.mono (by decide)) rfl HM.g HM.kp HM.b .nil pass0 (pa_cons (pe_op op_cat (pv 6) (pe_lst (pa_cons (pe_callB call_abs (by rfl) T.abs (by decide +kernel) (pa_cons (pe_op op_sub (pe_ix (r := rIxL K) ix_list (pv 1) (pv 4) (fun _ _ => rfl)) (pe_ix (r := rIxL K) ix_list (pv 1) (pv 5) (fun _ _ => rfl))) pa_nil)) pa_nil))) pa_nil)))
      (pss_one (ps_if (PW.pt (pw_or (pt_cmpR op_ne (pe_call AG.ok (hr.mono (by decide)) rfl AG.g AG.kp AG.b .nil pass0 (pa_cons (pv 2) (pa_cons (pv 4) (pa_cons (pv 5) pa_nil)))) (pv 7) (nomark _)) (pw_or1 (pt_not (pt_val (pe_callB call_isi (by rfl) T.isinstance (by decide +kernel) (pa_cons (pe_call AG.ok (hr.mono (by decide)) rfl AG.g AG.kp AG.b .nil pass0 (pa_cons (pv 2) (pa_cons (pv 4) (pa_cons (pv 5) pa_nil)))) (pa_cons (pe_bltn (v := .ty "bool") (u := .type "bool") (by rfl) T.bool (by decide +kernel) rfl) pa_nil)))))))) (pss_one ps_never) pss_nil)))) pss_nil)))))
      (pss_cons (ps_set (i := 4) nd rfl (Or.inr rfl) (pe_call D.ok (hr.mono (by decide)) rfl D.g D.kp D.b .nil pass0 (pa_cons (pv 0) (pa_cons (pv 3) pa_nil))))
      (pss_cons (ps_set (i := 5) nd rfl (Or.inr rfl) (pe_call PK.ok (hr.mono (by decide)) rfl PK.g PK.kp PK.b .nil pass0 (pa_cons (pv 0) (pa_cons (pe_lc (own := [("_law_bar", 9)]) (g := (gName 9)) (tt := tTest (tOp rNe (tVar 9) (tVar 4))) (te := tVar 9)  rfl nd (pi_range1 (by rfl) T.range (pa_cons (pv 3) pa_nil))
          (blkOk_by (N := nAR) (sc := defScope sLwAgainstRight) (by decide +kernel)) (fun _ _ _ _ _ => (pg_name (i := 9) nd rfl (Or.inl rfl))) (fun _ _ _ _ _ => (pts_one (pt_cmpR op_ne (pv 9) (pv 4) (nomark _)))) (fun _ _ _ _ _ => (pv 9))) pa_nil))))
      (pss_cons (ps_set (i := 8) nd rfl (Or.inl rfl) (pe_op op_cat (pe_lst (pa_cons (pe_lst (pa_cons (pe_tup (pa_cons (pv 4) (pa_cons pe_int pa_nil))) (pa_cons (pe_tup (pa_cons (pv 5) (pa_cons (pe_un un_neg pe_int) pa_nil))) pa_nil))) pa_nil)) (pe_lc (own := [("_law_bar", 9)]) (g := (gName 9)) (tt := tTest (tOp (rIn K true) (tVar 9) (tTup (tCons (tVar 4) (tCons (tVar 5) tNil))))) (te := tLst (tCons (tTup (tCons (tVar 9) (tCons (tC (.int 1)) tNil))) tNil))  rfl nd (pi_range1 (by rfl) T.range (pa_cons (pv 3) pa_nil))
          (blkOk_by (N := nAR) (sc := defScope sLwAgainstRight) (by decide +kernel)) (fun _ _ _ _ _ => (pg_name (i := 9) nd rfl (Or.inl rfl))) (fun _ _ _ _ _ => (pts_one (pt_cmpR op_notIn_seq (pv 9) (pe_tup (pa_cons (pv 4) (pa_cons (pv 5) pa_nil))) (by rfl)))) (fun _ _ _ _ _ => (pe_lst (pa_cons (pe_tup (pa_cons (pv 9) (pa_cons pe_int pa_nil))) pa_nil))))))
      (pss_one (ps_ret (pe_cmpR op_eq (pe_callTy (bool_line BN BG (hr.mono (by decide))) (by rfl) T.bool (by decide +kernel) (pa_cons (pe_call CLI.ok (hr.mono (by decide)) rfl CLI.g CLI.kp CLI.b .nil pass0 (pa_cons (pv 2) (pa_cons (pe_make LP.made LP.ok (hr.mono (by decide)) (by rfl) RL.g LP.b .nil pass0 (pa_cons (pv 8) pa_nil)) pa_nil))) pa_nil)) (pe_callK0 AG.ok (hr.mono (by decide)) rfl AG.g AG.kp KAG pass0 (pk_cons (pv 5) (pk_cons (pv 4) (pk_cons (pv 2) pk_nil)))) (nomark _))))))))), ?_⟩
    obtain ⟨p, la, e, ls, n, rfl, hla, lap, l3, l8, bd, hn, pen, k⟩ := h
    refine ⟨_, rfl, madeL2 hla l3 l8 bd fun r H1 ra s1 nr => ⟨rfl, ?_⟩⟩
    have hla1 := s1 _ _ hla
    refine ⟨_, rfl, la, _, rfl, .inl (SqL.of hla1), _, _, rfl, ?_⟩
    rw [List.length_map]
    refine ⟨_, rfl, _, rfl, by omega, by omega, ?_⟩
    refine for_range (lo := 0) (n := ((ls.length : Nat) : Int).toNat) (fun i σ H' => ∃ z4 z5 z6 z7 : Option V, σ = [some (.ref p), some (.ref la), some (.ref r), some (.int (ls.length : Nat)), z4, z5, z6, z7, none, none] ∧ Same H1 H')
      ⟨_, _, _, _, rfl, Same.refl _⟩ ?_ ?_
    · rintro i σ H2 hi ⟨z4, z5, z6, z7, rfl, s2⟩
      rw [Int.toNat_natCast] at hi
      rw [Int.zero_add]
      refine ⟨_, rfl, _, rfl, by omega, by omega, ?_⟩
      refine for_range (lo := 0) (n := ((ls.length : Nat) : Int).toNat) (fun j σ H' => ∃ z5 z6 z7 : Option V, σ = [some (.ref p), some (.ref la), some (.ref r), some (.int (ls.length : Nat)), some (.int (i : Nat)), z5, z6, z7, none, none] ∧ Same H1 H')
        ⟨_, _, _, rfl, s2⟩ ?_ ?_
      · rintro j σ H3 hj ⟨z5, z6, z7, rfl, s3⟩
        rw [Int.toNat_natCast] at hj
        rw [Int.zero_add]
        refine ⟨_, rfl, _, rfl, rfl, _, rfl, ?_⟩
        show (if (!decide (V.int (i : Int) = V.int (j : Int))) = true then _ else _)
        by_cases cij : (i : Int) = j
        · rw [cij, decide_eq_true rfl]
          exact iteF ⟨_, _, _, rfl, s3⟩
        rw [decide_eq_false (fun z => cij (V.int.inj z))]
        refine iteT ?_
        have hla3 := s3 _ _ hla1
        refine ⟨_, rfl, _, rfl, by omega, by omega, fun D hD => ?_⟩
        refine lc_range (lo := 0) (n := ((ls.length : Nat) : Int).toNat) (fun m H' => Same H3 H' ∧ H' D = some (.lst ((lensI ls (restI m [(i : Int), (j : Int)])).map V.int))) ⟨(Same.refl H3).new hD, upd_same⟩ ?_ ?_
        · rintro m H4 hm ⟨s4, h4⟩
          rw [Int.toNat_natCast] at hm
          rw [Int.zero_add]
          refine ⟨rfl, _, rfl, _, rfl, _, rfl, (by show 2 ≤ sizeLine; decide), fun t nt => ?_⟩
          have s5 : Same H4 (upd H4 t (.tup [.int (i : Int), .int (j : Int)])) := (Same.refl H4).new nt
          have ht : upd H4 t (.tup [.int (i : Int), .int (j : Int)]) t = some (.tup [.int (i : Int), .int (j : Int)]) := upd_same
          generalize upd H4 t (.tup [.int (i : Int), .int (j : Int)]) = H5 at s5 ht ⊢
          refine ⟨t, ([(i : Int), (j : Int)] : List Int).map V.int, rfl, .inr (SqT.of ht), rfl, flat_ints _, _, rfl, ?_⟩
          show (if (!inV (.int (m : Int)) (([(i : Int), (j : Int)] : List Int).map V.int)) = true then _ else _)
          rw [inI_has, lens_snoc]
          have h5 := s5 _ _ h4
          cases c : ([(i : Int), (j : Int)] : List Int).contains (m : Int) with
          | true => exact iteF ⟨s4.trans s5, by rw [if_pos rfl, List.append_nil]; exact h5⟩
          | false =>
            refine iteT ⟨_, rfl, _, rfl, la, _, _, _, rfl, rfl, SqL.of ((s4.trans s5) _ _ hla3), getL (i := m) rfl hm, _, h5, ?_, (s4.trans s5).mut hD, ?_⟩
            · have := restI_len m [(i : Int), (j : Int)]
              rw [List.length_map, lens_len]
              exact sm (by omega)
            · rw [upd_same, if_neg (by decide), List.map_append]
              rfl
        rintro H4 ⟨s4, h4⟩
        rw [Int.toNat_natCast] at h4
        have hla4 := s4 _ _ hla3
        have ra4 := ra.same (s3.trans s4)
        have lo : LotOk ls.length [(i : Int), (j : Int)] := ⟨by simp [cij], fun b hb => by
          rcases List.mem_cons.mp hb with rfl | hb
          · omega
          · rw [List.mem_singleton.mp hb]; omega⟩
        refine ⟨_, rfl, _, rfl, _, rfl, la, _, _, _, rfl, rfl, SqL.of hla4, getL (i := i) rfl hi, _, rfl, _, rfl, la, _, _, _, rfl, rfl, SqL.of hla4, getL (i := j) rfl hj, _, _, rfl, rfl, _, rfl, (by show 1 ≤ sizeLine; decide), fun b nb => ?_⟩
        have s5 : Same H4 (upd H4 b (.lst [.int (if ls.getD i 0 - ls.getD j 0 < 0 then -(ls.getD i 0 - ls.getD j 0) else ls.getD i 0 - ls.getD j 0)])) := (Same.refl H4).new nb
        have hb : upd H4 b (.lst [.int (if ls.getD i 0 - ls.getD j 0 < 0 then -(ls.getD i 0 - ls.getD j 0) else ls.getD i 0 - ls.getD j 0)]) b = some (.lst [.int (absI (ls.getD i 0 - ls.getD j 0))]) := upd_same
        generalize upd H4 b (.lst [.int (if ls.getD i 0 - ls.getD j 0 < 0 then -(ls.getD i 0 - ls.getD j 0) else ls.getD i 0 - ls.getD j 0)]) = H5 at s5 hb ⊢
        have rl := restI_len ls.length [(i : Int), (j : Int)]
        refine ⟨D, b, _, _, rfl, rfl, s5 _ _ h4, hb, (by rw [List.length_map, lens_len]; exact Nat.le_of_lt (sm (by rw [List.length_singleton]; omega))), fun q nq => ?_⟩
        have s6 : Same H5 (upd H5 q (.lst ((lensI ls (restI ls.length [(i : Int), (j : Int)])).map V.int ++ [.int (absI (ls.getD i 0 - ls.getD j 0))]))) := (Same.refl H5).new nq
        have hq : upd H5 q (.lst ((lensI ls (restI ls.length [(i : Int), (j : Int)])).map V.int ++ [.int (absI (ls.getD i 0 - ls.getD j 0))])) q = some (.lst ((lensI ls (restI ls.length [(i : Int), (j : Int)]) ++ [absI (ls.getD i 0 - ls.getD j 0)]).map V.int)) := by rw [upd_same, List.map_append]; rfl
        generalize upd H5 q (.lst ((lensI ls (restI ls.length [(i : Int), (j : Int)])).map V.int ++ [.int (absI (ls.getD i 0 - ls.getD j 0))])) = H6 at s6 hq ⊢
        refine ⟨q, _, rfl, hq, (by rw [List.length_append, List.length_singleton]; omega), (by rw [List.length_append, List.length_singleton, lens_len]; omega), fun y hy => ?_, fun H7 s7 => ?_⟩
        · rcases List.mem_append.mp hy with hy | hy
          · exact lens_nn bd _ y hy
          · rw [List.mem_singleton.mp hy]
            unfold absI
            split <;> omega
        have s47 := (s5.trans s6).trans s7
        have ra7 := ra4.same s47
        have eag : hadN (lensI ls (restI ls.length [(i : Int), (j : Int)]) ++ [absI (ls.getD i 0 - ls.getD j 0)]) = agB ls i j := by
          unfold agB
          rw [Int.toNat_natCast, Int.toNat_natCast]
        rw [eag]
        refine ⟨_, rfl, _, rfl, _, rfl, r, ls, i, j, rfl, ra7, l3, l8, bd, by omega, by omega, by omega, by omega, cij, fun H8 s8 => ⟨_, rfl, rfl, _, rfl, ?_⟩⟩
        rw [decide_eq_true rfl]
        refine iteF ?_
        refine ⟨_, rfl, _, rfl, _, rfl, r, ls, i, j, rfl, ra7.same s8, l3, l8, bd, by omega, by omega, by omega, by omega, cij, fun H9 s9 => ⟨_, .ty "bool", _, _, _, rfl, .ty _, .base (.bl _), kit_ty (kit_bool "bool" (by decide)), _, rfl, ?_⟩⟩
        rw [decide_eq_true rfl]
        refine iteF ?_
        exact ⟨_, _, _, rfl, (((s3.trans s4).trans s47).trans s8).trans s9⟩
      · rintro σ H3 ⟨z5, z6, z7, rfl, s3⟩
        exact ⟨_, _, _, _, rfl, s3⟩
    · rintro σ H2 ⟨z4, z5, z6, z7, rfl, s2⟩
      have s02 := s1.trans s2
      have pen2 := pen.same s02
      have hla2 := s2 _ _ hla1
      have ra2 := ra.same s2
      refine ⟨_, rfl, _, rfl, p, e, (ls.length : Nat), n, rfl, by omega, by omega, by omega, pen2, fun x H3 x0 x1 b3 pen3 => ?_⟩
      obtain ⟨px2, hp2⟩ := pen2.some
      have hla3 := b3 _ _ lap hla2
      obtain ⟨pd, po⟩ : RingAt K CR H3 r ls ∧ r ≠ p := by
        obtain ⟨dx, t, h1, h2, o, h3, h4⟩ := ra2
        have n1 : r ≠ p := fun z => by rw [z, hp2] at h1; cases h1
        exact ⟨⟨dx, t, b3 _ _ n1 h1, .inl (.inr ⟨o, b3 _ _ (fun z => by rw [z, hp2] at h3; cases h3) h3⟩), o, b3 _ _ (fun z => by rw [z, hp2] at h3; cases h3) h3, h4⟩, n1⟩
      have ra3 := pd
      refine ⟨_, rfl, _, rfl, _, rfl, by omega, by omega, fun D3 hD3 => ?_⟩
      refine lc_range (lo := 0) (n := ((ls.length : Nat) : Int).toNat) (fun m H' => Same H3 H' ∧ H' D3 = some (.lst ((restI m [x]).map V.int))) ⟨(Same.refl H3).new hD3, upd_same⟩ ?_ ?_
      · rintro m H4 hm ⟨s4, h4⟩
        rw [Int.toNat_natCast] at hm
        rw [Int.zero_add]
        refine ⟨rfl, _, rfl, _, rfl, rfl, _, rfl, ?_⟩
        show (if (!decide (V.int (m : Int) = V.int x)) = true then _ else _)
        rw [rest_snoc]
        by_cases c : (m : Int) = x
        · rw [c, decide_eq_true rfl]
          exact iteF ⟨s4, by rw [if_pos (by simp), List.append_nil]; exact h4⟩
        · rw [decide_eq_false (fun z => c (V.int.inj z))]
          refine iteT ⟨_, rfl, _, h4, ?_, s4.mut hD3, ?_⟩
          · have := restI_len m [x]
            rw [List.length_map]
            exact sm (by omega)
          · rw [upd_same, if_neg (by simpa using c), List.map_append]
            rfl
      rintro H4 ⟨s4, h4⟩
      rw [Int.toNat_natCast] at h4
      have pen4 := pen3.same s4
      have nD3 : D3 ≠ p := pen3.ne hD3
      have lx : LotOk ls.length [x] := ⟨by simp, fun b hb => by rw [List.mem_singleton.mp hb]; omega⟩
      have lxl : 1 + (restI ls.length [x]).length = ls.length := lx.len
      refine ⟨p, D3, e, _, n + 1, rfl, SqL.of h4, nD3, by rw [List.length_map]; omega, by rw [List.length_map]; omega, by omega, pen4, fun iy v H5 hv b5 pen5 => ?_⟩
      obtain ⟨y, hy, rfl⟩ := int_at hv
      obtain ⟨⟨y0, y1⟩, yx⟩ := restI_mem.mp (List.mem_of_getElem? hy)
      have yx : x ≠ y := fun z => yx (by rw [z]; exact List.mem_singleton_self _)
      obtain ⟨px4, hp4⟩ := pen4.some
      have ra5 : RingAt K CR H5 r ls := by
        obtain ⟨dx, t, h1, h2, o, h3, h4⟩ := ra3.same s4
        have n1 : r ≠ p := fun z => by rw [z, hp4] at h1; cases h1
        exact ⟨dx, t, b5 _ _ n1 h1, .inl (.inr ⟨o, b5 _ _ (fun z => by rw [z, hp4] at h3; cases h3) h3⟩), o, b5 _ _ (fun z => by rw [z, hp4] at h3; cases h3) h3, h4⟩
      have lo : LotOk ls.length [x, y] := ⟨by simp [yx], fun b hb => by
        rcases List.mem_cons.mp hb with rfl | hb
        · exact ⟨x0, x1⟩
        · rw [List.mem_singleton.mp hb]; exact ⟨y0, y1⟩⟩
      refine ⟨_, rfl, (by show 2 ≤ sizeLine; decide), fun t1 n1 => ?_⟩
      have s6 : Same H5 (upd H5 t1 (.tup [.int x, .int 1])) := (Same.refl H5).new n1
      have h1 : upd H5 t1 (.tup [.int x, .int 1]) t1 = some (.tup [.int x, .int 1]) := upd_same
      generalize upd H5 t1 (.tup [.int x, .int 1]) = H6 at s6 h1 ⊢
      refine ⟨_, rfl, 1, rfl, (by show 2 ≤ sizeLine; decide), fun t2 n2 => ?_⟩
      have s7 : Same H6 (upd H6 t2 (.tup [.int y, .int (-1)])) := (Same.refl H6).new n2
      have h2 : upd H6 t2 (.tup [.int y, .int (-1)]) t2 = some (.tup [.int y, .int (-1)]) := upd_same
      generalize upd H6 t2 (.tup [.int y, .int (-1)]) = H7 at s7 h2 ⊢
      refine ⟨(by show 2 ≤ sizeLine; decide), fun b nb => ?_⟩
      have s8 : Same H7 (upd H7 b (.lst [.ref t1, .ref t2])) := (Same.refl H7).new nb
      have hb : upd H7 b (.lst [.ref t1, .ref t2]) b = some (.lst [.ref t1, .ref t2]) := upd_same
      generalize upd H7 b (.lst [.ref t1, .ref t2]) = H8 at s8 hb ⊢
      refine ⟨(by show 1 ≤ sizeLine; decide), fun a na => ?_⟩
      have s9 : Same H8 (upd H8 a (.lst [.ref b])) := (Same.refl H8).new na
      have ha : upd H8 a (.lst [.ref b]) a = some (.lst [.ref b]) := upd_same
      generalize upd H8 a (.lst [.ref b]) = H9 at s9 ha ⊢
      have lst9 : LSt H9 (.ref b) [(x, 1), (y, -1)] := ⟨b, _, rfl, s9 _ _ hb, .cons ⟨t1, rfl, ((s7.trans s8).trans s9) _ _ h1⟩ (.cons ⟨t2, rfl, (s8.trans s9) _ _ h2⟩ .nil)⟩
      have s59 := ((s6.trans s7).trans s8).trans s9
      -- all others alone
      refine ⟨_, rfl, _, rfl, by omega, by omega, fun D4 hD4 => ?_⟩
      refine lc_range (lo := 0) (n := ((ls.length : Nat) : Int).toNat) (fun m H' => Same H9 H' ∧ ∃ us, H' D4 = some (.lst us) ∧ Paired (fun v s => LSt H' v s ∧ v ≠ .ref D4) us (aloneW m [x, y])) ⟨(Same.refl H9).new hD4, [], upd_same, .nil⟩ ?_ ?_
      · rintro m H' hm ⟨s2, us, h2, pu⟩
        rw [Int.toNat_natCast] at hm
        rw [Int.zero_add]
        refine ⟨rfl, _, rfl, _, rfl, _, rfl, (by show 2 ≤ sizeLine; decide), fun t nt => ?_⟩
        have s3 : Same H' (upd H' t (.tup [.int x, .int y])) := (Same.refl H').new nt
        have ht : upd H' t (.tup [.int x, .int y]) t = some (.tup [.int x, .int y]) := upd_same
        generalize upd H' t (.tup [.int x, .int y]) = HA at s3 ht ⊢
        refine ⟨t, ([x, y] : List Int).map V.int, rfl, .inr (SqT.of ht), rfl, flat_ints _, _, rfl, ?_⟩
        show (if (!inV (.int (m : Int)) (([x, y] : List Int).map V.int)) = true then _ else _)
        rw [inI_has]
        have st1 : aloneW (m + 1) [x, y] = aloneW m [x, y] ++ (if ([x, y] : List Int).contains (m : Int) = true then [] else [[((m : Int), (1 : Int))]]) := by
          unfold aloneW
          rw [rest_snoc, List.map_append]
          split <;> rfl
        rw [st1]
        have h2A := s3 _ _ h2
        cases c : ([x, y] : List Int).contains (m : Int) with
        | true => exact iteF ⟨s2.trans s3, us, h2A, by rw [if_pos rfl, List.append_nil]; exact par_imp (fun _ _ z => ⟨z.1.same s3, z.2⟩) pu⟩
        | false =>
          refine iteT ⟨_, rfl, (by show 2 ≤ sizeLine; decide), fun t' nt' => ⟨(by show 1 ≤ sizeLine; decide), fun b' nb' => ?_⟩⟩
          have s4 : Same HA (upd HA t' (.tup [.int (m : Int), .int 1])) := (Same.refl HA).new nt'
          have ht' : upd HA t' (.tup [.int (m : Int), .int 1]) t' = some (.tup [.int (m : Int), .int 1]) := upd_same
          generalize upd HA t' (.tup [.int (m : Int), .int 1]) = HB at s4 ht' nb' ⊢
          have s5 : Same HB (upd HB b' (.lst [.ref t'])) := (Same.refl HB).new nb'
          have hb' : upd HB b' (.lst [.ref t']) b' = some (.lst [.ref t']) := upd_same
          have h2B := s4 _ _ h2A
          have bD : b' ≠ D4 := fun z => by rw [z, h2B] at nb'; cases nb'
          generalize upd HB b' (.lst [.ref t']) = HC at s5 hb' ⊢
          have s35 := (s3.trans s4).trans s5
          have h2C := s35 _ _ h2
          refine ⟨us, h2C, ?_, (s2.trans s35).mut hD4, _, upd_same, ?_⟩
          · have := restI_len m [x, y]
            rw [par_len pu]
            unfold aloneW
            rw [List.length_map]
            exact sm (by omega)
          · refine par_app (par_imp (fun _ _ z => ⟨(z.1.same s35).mut h2C z.2, z.2⟩) pu) ?_
            rw [if_neg (by decide)]
            have ne : V.ref b' ≠ .ref D4 := fun z => bD (V.ref.inj z)
            exact .cons ⟨LSt.mut ⟨b', _, rfl, hb', .cons ⟨t', rfl, s5 _ _ ht'⟩ .nil⟩ h2C ne, ne⟩ .nil
      rintro H10 ⟨s10, us, h10, pu⟩
      rw [Int.toNat_natCast] at pu
      have ul : us.length ≤ 8 := by
        have := restI_len ls.length [x, y]
        rw [par_len pu]
        unfold aloneW
        rw [List.length_map]
        omega
      refine ⟨a, D4, _, _, rfl, rfl, s10 _ _ ha, h10, Nat.le_of_lt (sm (by rw [List.length_singleton]; omega)), fun q nq => ?_⟩
      have s11 : Same H10 (upd H10 q (.lst ([.ref b] ++ us))) := (Same.refl H10).new nq
      have lw : LWy (upd H10 q (.lst ([.ref b] ++ us))) (.ref q) (withA ls.length [(x, 1), (y, -1)]) := ⟨q, _, rfl, upd_same, .cons (lst9.same (s10.trans s11)) (par_imp (fun _ _ z => z.1.same s11) pu)⟩
      generalize upd H10 q (.lst ([.ref b] ++ us)) = H11 at s11 lw ⊢
      obtain ⟨g, hd⟩ := against_had lo bd l8
      have s511 := (s59.trans s10).trans s11
      refine ⟨_, rfl, _, rfl, madeU lw g l3 l8 fun u H12 lf s12 => ⟨rfl, ?_⟩⟩
      have s512 := s511.trans s12
      have bF : But p H H12 := (((But.of s02).trans b3).trans ((But.of s4).trans b5)).trans (But.of s512)
      have penF := pen5.same s512
      refine ⟨r, u, ls, _, rfl, ra5.same s512, l3, l8, lf, due_good g, fun e1 z H13 s13 nr13 => ?_, fun e1 z H13 s13 nr13 => ?_⟩
      · obtain ⟨dz, fz, hz⟩ := nr13.ins
        refine ⟨z, CN, dz, fz, true, rfl, hz, .inl ⟨rfl, rfl⟩, _, rfl, _, rfl, _, rfl, r, ls, x, y, rfl, ra5.same (s512.trans s13), l3, l8, bd, x0, x1, y0, y1, yx, fun H14 s14 => ?_⟩
        rw [hd] at e1
        refine ⟨rfl, ?_⟩
        rw [e1, decide_eq_true rfl]
        exact k H14 (bF.trans (But.of (s13.trans s14))) (penF.same (s13.trans s14))
      · obtain ⟨dz, fz, hz⟩ := nr13.ins
        refine ⟨z, CG, dz, fz, false, rfl, hz, .inr ⟨rfl, rfl⟩, _, rfl, _, rfl, _, rfl, r, ls, x, y, rfl, ra5.same (s512.trans s13), l3, l8, bd, x0, x1, y0, y1, yx, fun H14 s14 => ?_⟩
        rw [hd] at e1
        refine ⟨rfl, ?_⟩
        rw [e1, decide_eq_true rfl]
        exact k H14 (bF.trans (But.of (s13.trans s14))) (penF.same (s13.trans s14))
end
end K
namespace K
open PySem L2 Rg LamX
open Evl (pss_cut)
def kInt (l : List Int) : List Key := l.map Sum.inl
theorem kInt_kV (l : List Int) : (kInt l).map kV = l.map V.int := by unfold kInt; rw [List.map_map]; rfl
theorem kInt_inj {a b : List Int} (h : kInt a = kInt b) : a = b := by
  have := congrArg (List.map kV) h
  rw [kInt_kV, kInt_kV] at this
  exact List.map_inj_right (fun x y e => V.int.inj e) |>.mp this
theorem put_len {κ : Type} [DecidableEq κ] (c : List (κ × V)) (k : κ) (x : V) : (putK c k x).length ≤ c.length + 1 := by
  unfold putK
  split
  · rw [List.length_map]; omega
  · rw [List.length_append]; exact Nat.le_refl _
theorem RingAt.but {K : PySem.W.Frag} {C p : Addr} {H H' : Hp} {r : Addr} {ls : List Int} (h : RingAt K C H r ls) (s : But p H H') (h1 : ∀ C dx fs, H p ≠ some (.ins C dx fs)) (h2 : ∀ o z, H p ≠ some (.frz o z)) : RingAt K C H' r ls := by
  obtain ⟨dx, t, z1, z2, o, z3, z4⟩ := h
  have n1 := s _ _ (fun e => h1 _ _ _ (by rw [← e]; exact z1)) z1
  have n3 := s _ _ (fun e => h2 _ _ (by rw [← e]; exact z3)) z3
  exact ⟨dx, t, n1, .inl (.inr ⟨o, n3⟩), o, n3, z4⟩
/-- what is told of the lots so far -/
def ToldL (ls : List Int) (L : List (List Int)) (kvs : List (List Key × V)) : Prop := kvs.length ≤ L.length ∧ ∀ l ∈ L, valV kvs (kInt l) = some (.bl (ptB ls l))
theorem ToldL.put {ls : List Int} {L : List (List Int)} {kvs : List (List Key × V)} (h : ToldL ls L kvs) (l : List Int) : ToldL ls (L ++ [l]) (putK kvs (kInt l) (.bl (ptB ls l))) := by
  refine ⟨Nat.le_trans (put_len _ _ _) (by rw [List.length_append, List.length_singleton]; have := h.1; omega), fun m hm => ?_⟩
  rw [valV_put]
  by_cases c : kInt m = kInt l
  · rw [if_pos c, kInt_inj c]
  · rw [if_neg c]
    rcases List.mem_append.mp hm with hm | hm
    · exact h.2 m hm
    · rw [List.mem_singleton.mp hm] at c
      exact absurd rfl c
theorem pt_fewer {ls ns ms : List Int} {M : Int} (bd : Bd M ls) (h : ptB ls ns = true) (s : ms.Sublist ns) : ptB ls ms = true := by
  have : lsum ls ms ≤ lsum ls ns := by
    clear h
    induction s with
    | slnil => exact Int.le_refl _
    | @cons a b x _ ih =>
      have : 0 ≤ ls.getD x.toNat 0 := lens_nn bd [x] _ (List.mem_singleton_self _)
      have e : lsum ls (x :: b) = ls.getD x.toNat 0 + lsum ls b := by unfold lsum; rw [List.map_cons, List.sum_cons]
      omega
    | @cons_cons a b x _ ih =>
      have e : ∀ z, lsum ls (x :: z) = ls.getD x.toNat 0 + lsum ls z := fun z => by unfold lsum; rw [List.map_cons, List.sum_cons]
      rw [e, e]
      omega
  unfold ptB at h ⊢
  rw [Bool.and_eq_true, decide_eq_true_iff] at h ⊢
  exact ⟨h.1, by omega⟩
theorem perm_map_int {ys : List V} {l : List Int} (h : ys.Perm (l.map V.int)) : ∃ ms : List Int, ys = ms.map V.int ∧ ms.Perm l := by
  let f : V → Int := fun v => match v with
    | .int i => i
    | _ => 0
  have e : (l.map V.int).map f = l := by
    rw [List.map_map]
    exact (List.map_congr_left fun _ _ => rfl).trans (List.map_id _)
  refine ⟨ys.map f, ?_, ?_⟩
  · rw [List.map_map]
    refine ((List.map_id _).symm.trans (List.map_congr_left fun v hv => ?_))
    obtain ⟨i, _, rfl⟩ := List.mem_map.mp (h.mem_iff.mp hv)
    rfl
  · have := h.map f
    rw [e] at this
    exact this
theorem and_ne {c d e : Bool} {A : Prop} {Qk : VK} {H : Hp} (hA : c = true → rNe (.bl e) (.bl d) H Qk → A) (q : rNe (.bl e) (.bl (c && d)) H Qk) : if c = true then A else rNe (.bl e) (.bl false) H Qk := by
  cases c with
  | true => exact hA rfl q
  | false => exact q
section
variable {P : Program} {w : World} {K : PySem.W.Frag} {mg : Str → Option Value} {base : Heap}
def spCLb (K : PySem.W.Frag) (CR CL CN CG : Addr) : Sp := fun vs H Q _ => ∃ (r l : Addr) (ls : List Int) (W : List Strd), vs = [.ref r, .ref l] ∧ RingAt K CR H r ls ∧ 3 ≤ ls.length ∧ ls.length ≤ 8 ∧ LineF CL H l W ∧ goodV ls.length W ∧
  ∀ p H' C dx fs, Same H H' → H' p = some (.ins C dx fs) → ((C = CN ∧ hadN (netsW ls W) = true) ∨ (C = CG ∧ hadN (netsW ls W) = false)) → Q (.ref p) H'
theorem ok_clb {CR CL CN CG f : Addr} {fd : FuncData} {k : Nat} (F : FnOk P w K mg base CX0 k f fd ["ring", "lineup"] (spCLc K CR CL CN CG)) : FnOk P w K mg base CX0 k f fd ["ring", "lineup"] (spCLb K CR CL CN CG) :=
  F.imp fun vs H Q E ⟨r, l, ls, W, hv, ra, l3, l8, lf, g, k⟩ => ⟨r, l, ls, W, hv, ra, l3, l8, lf, g, fun e p H' s nr => let ⟨dx, fs, h⟩ := nr.ins; k p H' CN dx fs s h (.inl ⟨rfl, e⟩), fun e p H' s nr => let ⟨dx, fs, h⟩ := nr.ins; k p H' CG dx fs s h (.inr ⟨rfl, e⟩)⟩
def spPTS (K : PySem.W.Frag) : Sp := fun vs H Q _ => ∃ (p la : Addr) (e : Addr × List Int) (ls : List Int) (n : Nat), vs = [.ref p, .ref la] ∧ H la = some (.lst (ls.map V.int)) ∧ la ≠ p ∧ 3 ≤ ls.length ∧ ls.length ≤ 8 ∧ Bd 1000000 ls ∧ n < 700000 ∧ PenAt K H p e n ∧
  ∀ H', But p H H' → PenAt K H' p e (n + 300) → Q (.bl true) H'
abbrev nPR : List Str := ["_law_bench_here", "_law_lengths_here", "_law_ring", "_law_total", "_law_told", "_law_lot", "_law_length", "_law_alone", "_law_due", "_law_turn", "_law_passed", "_law_held", "_law_fewer", "_law_bar"]
theorem scPR : FnScope nPR ["_law_bench_here", "_law_lengths_here"] (defScope sLwPointsRight) := ⟨rfl, rfl, rfl, by decide +kernel, rfl, by decide +kernel, by decide +kernel⟩
theorem ok_pts {CR CL CN CG f fD fPK fMX fLO fR fHM fCP fPO fCLI fBN fBG : Addr} {fd fdD fdPK fdMX fdLO fdR fdHM fdCP fdPO fdCLI fdBN fdBG : FuncData} {g1 : List Value → List Value → List Value} (F : Fun K "_law_points_right" "_law_points_right" sLwPointsRight f fd) (T : Bi mg)
    (D : DrawAt P w K mg base fD fdD) (PK : DefAt P w K mg base CX0 3 "_law_pick" ["_law_bench_here", "_law_some"] (spPick K) fPK fdPK) (MX : DefAt P w K mg base CX0 3 "_law_mixed" ["_law_bench_here", "_law_some"] (spMixed K) fMX fdMX) (LO : DefAt P w K mg base CX0 1 "_law_lots" ["_law_many"] spLO fLO fdLO)
    (R : RingP P w K mg base CR fR fdR) (RG : RingC K mg CR) (HM : DefAt P w K mg base CX0 1 "_law_is_home" ["_law_nets"] spHM fHM fdHM)
    (CP : DefAt P w K mg base CX0 8 "can_point" ["ring", "lot"] (spCPc K CR) fCP fdCP) (KCP : KBinds K fdCP ["ring", "lot"] ["lot", "ring"] g1 gK2) (PO : DefAt P w K mg base CX0 7 "pointing" ["many", "lot"] (spPO K CL) fPO fdPO) (CLI : DefAt P w K mg base CX0 7 "can_line" ["ring", "lineup"] (spCLb K CR CL CN CG) fCLI fdCLI)
    (BN : PapB P w K mg base CN fBN fdBN true) (BG : PapB P w K mg base CG fBG fdBG false) : FnOk P w K mg base CX0 10 f fd ["_law_bench_here", "_law_lengths_here"] (spPTS K) := by
  refine F.ok scPR (fun vs H Q E h => ?_) (fun cdv A outer s H vs Q E hr h => ?_)
  · obtain ⟨p, la, e, ls, n, rfl, _⟩ := h
    rfl
  · have nd := scPR.nd
    have hu1 : (A.deeper (PyProof.Rows.envOfC "_law_points_right" (defScope sLwPointsRight) s.heap.objs.size f cdv)).units + 1 < cLine := by have := hr.un; omega
    refine ⟨_, (pss_cons (ps_par3 (i := 2) (j := 3) (l := 4) (by rfl) nd rfl rfl rfl (by decide) (by decide) (by decide) rfl rfl rfl (pa_cons (pe_make R.made R.ok (hr.mono (by decide)) (by rfl) RG.g R.b .nil pass0 (pa_cons (pv 1) pa_nil)) (pa_cons (pe_callB (cr_sum rfl) (by rfl) T.sum (by decide +kernel) (pa_cons (pv 1) pa_nil)) (pa_cons pe_dnewT pa_nil))) (by rfl))
      (pss_cons (ps_for PassesOwn.never rfl (pi_list (pe_call LO.ok (hr.mono (by decide)) rfl LO.g LO.kp LO.b .nil pass0 (pa_cons (pe_callB (r := rLenS K) call_len_seq (by rfl) T.len PySem.boot_len (pa_cons (pv 1) pa_nil)) pa_nil))) (pg_name (i := 5) nd rfl (Or.inr rfl)) (pss_cons (ps_set (i := 6) nd rfl (Or.inl rfl) (pe_callB (cr_sum rfl) (by rfl) T.sum (by decide +kernel) (pa_cons (pe_lc (own := [("_law_bar", 13)]) (g := (gName 13)) (tt := tYes) (te := tOp (rIxL K) (tVar 1) (tVar 13))  rfl nd (pi_list (pv 5))
          (blkOk_by (N := nPR) (sc := defScope sLwPointsRight) (by decide +kernel)) (fun _ _ _ _ _ => (pg_name (i := 13) nd rfl (Or.inl rfl))) (fun _ _ _ _ _ => pts_nil) (fun _ _ _ _ _ => (pe_ix (r := rIxL K) ix_list (pv 1) (pv 13) (fun _ _ => rfl)))) pa_nil)))
      (pss_cons (ps_setLc (i := 7) (own := [("_law_bar", 13)]) (g := (gName 13)) (tt := tTest (tOp (rIn K true) (tVar 13) (tVar 5))) (te := tOp (rIxL K) (tVar 1) (tVar 13))  rfl nd rfl rfl (sw_true rfl rfl rfl (by decide +kernel)) (pi_range1 (by rfl) T.range (pa_cons (pe_callB (r := rLenS K) call_len_seq (by rfl) T.len PySem.boot_len (pa_cons (pv 1) pa_nil)) pa_nil))
          (blkOk_by (N := nPR) (sc := defScope sLwPointsRight) (by decide +kernel)) (fun _ _ _ _ _ => (pg_name (i := 13) nd rfl (Or.inl rfl))) (fun _ _ _ _ _ => (pts_one (pt_cmpR op_notIn_seq (pv 13) (pv 5) (by rfl)))) (fun _ _ _ _ _ => (pe_ix (r := rIxL K) ix_list (pv 1) (pv 13) (fun _ _ => rfl))))
      (pss_cons (ps_set (i := 8) nd rfl (Or.inl rfl) (pe_call HM.ok (hr.mono (by decide)) rfl HM.g HM.kp HM.b .nil pass0 (pa_cons (pe_op op_cat (pv 7) (pe_lst (pa_cons (pv 6) pa_nil))) pa_nil)))
      (pss_cons (ps_if (pt_cmpR op_ne (pv 8) (pe_and (pe_cmpR op_le (pe_op op_mul pe_int (pe_callB (cr_max rfl) (by rfl) T.max (by decide +kernel) (pa_cons (pv 1) pa_nil))) (pv 3) (nomark _)) (pe_one (pe_cmpR op_le (pe_op op_mul pe_int (pv 6)) (pv 3) (nomark _)))) (nomark _)) (pss_one ps_never) pss_nil)
      (pss_cons (ps_dput hu1 (pv 4) (pe_callTy (r := rTupOf K) call_tuple_of (by rfl) T.tuple (by decide +kernel) (pa_cons (pv 5) pa_nil)) (pv 8) (by rfl))
      (pss_one (ps_if (PW.pt (pw_or (pt_cmpR op_ne (pe_call CP.ok (hr.mono (by decide)) rfl CP.g CP.kp CP.b .nil pass0 (pa_cons (pv 2) (pa_cons (pv 5) pa_nil))) (pv 8) (nomark _)) (pw_or1 (pt_not (pt_val (pe_callB call_isi (by rfl) T.isinstance (by decide +kernel) (pa_cons (pe_call CP.ok (hr.mono (by decide)) rfl CP.g CP.kp CP.b .nil pass0 (pa_cons (pv 2) (pa_cons (pv 5) pa_nil))) (pa_cons (pe_bltn (v := .ty "bool") (u := .type "bool") (by rfl) T.bool (by decide +kernel) rfl) pa_nil)))))))) (pss_one ps_never) pss_nil))))))))
      (pss_cons (ps_for PassesOwn.never rfl (pi_range1 (by rfl) T.range (pa_cons pe_int pa_nil)) (pg_name (i := 9) nd rfl (Or.inl rfl)) (pss_cons (ps_set (i := 5) nd rfl (Or.inr rfl) (pe_call PK.ok (hr.mono (by decide)) rfl PK.g PK.kp PK.b .nil pass0 (pa_cons (pv 0) (pa_cons (pe_call LO.ok (hr.mono (by decide)) rfl LO.g LO.kp LO.b .nil pass0 (pa_cons (pe_callB (r := rLenS K) call_len_seq (by rfl) T.len PySem.boot_len (pa_cons (pv 1) pa_nil)) pa_nil)) pa_nil))))
      (pss_cons (ps_set (i := 10) nd rfl (Or.inl rfl) (pe_call MX.ok (hr.mono (by decide)) rfl MX.g MX.kp MX.b .nil pass0 (pa_cons (pv 0) (pa_cons (pv 5) pa_nil))))
      (pss_cons (ps_set (i := 11) nd rfl (Or.inl rfl) (pe_callTy call_list_of (by rfl) T.list (by decide +kernel) (pa_cons (pv 10) pa_nil)))
      (pss_cons (ps_if (PW.pt (pw_or (pt_cmpR op_ne (pe_callK0 CP.ok (hr.mono (by decide)) rfl CP.g CP.kp KCP pass0 (pk_cons (pe_callTy (r := rTupOf K) call_tuple_of (by rfl) T.tuple (by decide +kernel) (pa_cons (pv 10) pa_nil)) (pk_cons (pv 2) pk_nil))) (pe_dget hu1 (pv 4) (pe_callTy (r := rTupOf K) call_tuple_of (by rfl) T.tuple (by decide +kernel) (pa_cons (pv 5) pa_nil)) (fun _ _ => rfl)) (nomark _)) (pw_or (pt_cmpR op_ne (pe_call CP.ok (hr.mono (by decide)) rfl CP.g CP.kp CP.b .nil pass0 (pa_cons (pv 2) (pa_cons (pv 10) pa_nil))) (pe_dget hu1 (pv 4) (pe_callTy (r := rTupOf K) call_tuple_of (by rfl) T.tuple (by decide +kernel) (pa_cons (pv 5) pa_nil)) (fun _ _ => rfl)) (nomark _)) (pw_or1 (pt_cmpR (op_neD hr.units) (pv 10) (pv 11) (nomark _)))))) (pss_one ps_never) pss_nil)
      (pss_cons (ps_if (pt_cmpR op_ne (pe_callTy (bool_line BN BG (hr.mono (by decide))) (by rfl) T.bool (by decide +kernel) (pa_cons (pe_call CLI.ok (hr.mono (by decide)) rfl CLI.g CLI.kp CLI.b .nil pass0 (pa_cons (pv 2) (pa_cons (pe_call PO.ok (hr.mono (by decide)) rfl PO.g PO.kp PO.b .nil pass0 (pa_cons (pe_callB (r := rLenS K) call_len_seq (by rfl) T.len PySem.boot_len (pa_cons (pv 1) pa_nil)) (pa_cons (pv 10) pa_nil))) pa_nil))) pa_nil)) (pe_dget hu1 (pv 4) (pe_callTy (r := rTupOf K) call_tuple_of (by rfl) T.tuple (by decide +kernel) (pa_cons (pv 5) pa_nil)) (fun _ _ => rfl)) (nomark _)) (pss_one ps_never) pss_nil)
      (pss_cons (ps_setLc (i := 12) (own := [("_law_bar", 13)]) (g := (gName 13)) (tt := tTest (tOp (rI0 fun i j => .bl (decide (j < i))) (tCall (spDraw K) [] E0 (tCons (tVar 0) (tCons (tC (.int 3)) tNil))) (tC (.int 0)))) (te := tVar 13)  rfl nd rfl rfl (sw_true rfl rfl rfl (by decide +kernel)) (pi_list (pv 5))
          (blkOk_by (N := nPR) (sc := defScope sLwPointsRight) (by decide +kernel)) (fun _ _ _ _ _ => (pg_name (i := 13) nd rfl (Or.inl rfl))) (fun _ _ _ _ _ => (pts_one (pt_cmpR op_gt (pe_call D.ok (hr.mono (by decide)) rfl D.g D.kp D.b .nil pass0 (pa_cons (pv 0) (pa_cons pe_int pa_nil))) pe_int (nomark _)))) (fun _ _ _ _ _ => (pv 13)))
      (pss_one (ps_if (PW.pt (pw_and (pt_val (pe_dget hu1 (pv 4) (pe_callTy (r := rTupOf K) call_tuple_of (by rfl) T.tuple (by decide +kernel) (pa_cons (pv 5) pa_nil)) (fun _ _ => rfl))) (pw_and1 (pt_not (pt_val (pe_call CP.ok (hr.mono (by decide)) rfl CP.g CP.kp CP.b .nil pass0 (pa_cons (pv 2) (pa_cons (pv 12) pa_nil)))))))) (pss_one ps_never) pss_nil)))))))))
      (pss_one (ps_ret pe_bl))))), ?_⟩
    obtain ⟨p, la, e, ls, n, rfl, hla, lap, l3, l8, bd, hn, pen, k⟩ := h
    refine ⟨_, rfl, madeL2 hla l3 l8 bd fun r H1 ra s1 nr => ⟨rfl, ?_⟩⟩
    have hla1 := s1 _ _ hla
    refine ⟨_, rfl, la, ls, rfl, SqL.of hla1, fun T0 nT => ?_⟩
    have s2 : Same H1 (upd H1 T0 (.dT [])) := (Same.refl H1).new nT
    have hT : upd H1 T0 (.dT []) T0 = some (.dT []) := upd_same
    generalize upd H1 T0 (.dT []) = H2 at s2 hT ⊢
    refine ⟨_, _, _, rfl, ?_⟩
    have hT3 := hT
    have hla3 := s2 _ _ hla1
    have ra3 := ra.same s2
    have s03 := s1.trans s2
    refine ⟨_, rfl, la, _, rfl, .inl (SqL.of hla3), ls.length, (by rw [List.length_map]; rfl), l8, fun lp xs H4 s4 np hp px => ?_⟩
    have hT4 := s4 _ _ hT3
    have hla4 := s4 _ _ hla3
    have ra4 := ra3.same s4
    have xl := par_len px
    have s04 := s03.trans s4
    refine ⟨lp, rfl, ⟨_, SqL.of hp⟩, ?_⟩
    refine for_list (K := K) (a := lp) (xs := xs) (fun j σ H' => ∃ (z5 z6 z7 z8 : Option V) (kvs : List (List Key × V)), σ = [some (.ref p), some (.ref la), some (.ref r), some (.int ls.sum), some (.ref T0), z5, z6, z7, z8, none, none, none, none, none] ∧ But T0 H4 H' ∧ H' T0 = some (.dT kvs) ∧ ToldL ls ((lotsI ls.length).take j) kvs)
      ⟨_, _, _, _, [], rfl, But.refl T0 H4, hT4, Nat.zero_le _, fun _ z => nomatch z⟩ (fun j σ H' _ ⟨_, _, _, _, _, _, b, _⟩ => SqL.of (b _ _ (fun z => by rw [z, hT4] at hp; cases hp) hp)) ?_ ?_
    · rintro j x σ H5 hj ⟨z5, z6, z7, z8, kvs, rfl, b5, hT5, tl⟩
      obtain ⟨l, hl, ⟨a, rfl, ha⟩, na⟩ := par_get px hj
      have ll : l ∈ lotsI ls.length := List.mem_of_getElem? hl
      obtain ⟨lo, le⟩ := lotsI_ok _ l ll
      have l8' : l.length ≤ 8 := by omega
      have nLa : la ≠ T0 := fun z => by rw [z, hT4] at hla4; cases hla4
      have nA : a ≠ T0 := fun z => by rw [z, hT4] at ha; cases ha
      have hla5 := b5 _ _ nLa hla4
      have ha5 := b5 _ _ nA ha
      have ra5 := ra4.but b5 (fun _ _ _ z => by rw [hT4] at z; cases z) (fun _ _ z => by rw [hT4] at z; cases z)
      refine ⟨_, rfl, a, rfl, ⟨_, SqL.of ha5⟩, fun D hD => ?_⟩
      refine lc_list (K := K) (a := a) (xs := l.map V.int) (fun i H' => Same H5 H' ∧ H' D = some (.lst ((lensI ls (l.take i)).map V.int))) ⟨(Same.refl H5).new hD, upd_same⟩ (fun i H' _ q => SqL.of (q.1 _ _ ha5)) ?_ ?_
      · rintro i x H' hi ⟨s6, h6⟩
        obtain ⟨z, hz, rfl⟩ := int_at hi
        obtain ⟨z0, z1⟩ := lo.rg z (List.mem_of_getElem? hz)
        have il : i < l.length := (List.getElem?_eq_some_iff.mp hz).1
        refine ⟨rfl, _, rfl, _, rfl, la, _, _, _, rfl, rfl, SqL.of (s6 _ _ hla5), get_z z0 z1, _, h6, ?_, s6.mut hD, ?_⟩
        · rw [List.length_map, lens_len, List.length_take]
          exact sm (by omega)
        · rw [upd_same, ← take_snoc hz]
          unfold lensI
          rw [List.map_append, List.map_append]
          rfl
      rintro H6 ⟨s6, h6⟩
      rw [List.length_map, List.take_length] at h6
      refine ⟨D, lensI ls l, rfl, SqL.of h6, ?_⟩
      have hla6 := s6 _ _ hla5
      have ha6 := s6 _ _ ha5
      have ra6 := ra5.same s6
      have hT6 := s6 _ _ hT5
      show gName 6 (V.int (lsum ls l)) _ _ _
      refine ⟨_, rfl, la, _, rfl, .inl (SqL.of hla6), ?_⟩
      rw [List.length_map]
      refine ⟨_, rfl, by omega, by omega, fun D2 hD2 => ?_⟩
      refine lc_range (lo := 0) (n := ((ls.length : Nat) : Int).toNat) (fun m H' => Same H6 H' ∧ H' D2 = some (.lst ((lensI ls (restI m l)).map V.int))) ⟨(Same.refl H6).new hD2, upd_same⟩ ?_ ?_
      · rintro m H' hm ⟨s7, h7⟩
        rw [Int.toNat_natCast] at hm
        rw [Int.zero_add]
        refine ⟨rfl, _, rfl, _, rfl, a, _, rfl, .inl (SqL.of (s7 _ _ ha6)), rfl, flat_ints _, _, rfl, ?_⟩
        show (if (!inV (.int (m : Int)) (l.map V.int)) = true then _ else _)
        rw [inI_has, lens_snoc]
        cases c : l.contains (m : Int) with
        | true => exact iteF ⟨s7, by rw [if_pos rfl, List.append_nil]; exact h7⟩
        | false =>
          refine iteT ⟨_, rfl, _, rfl, la, _, _, _, rfl, rfl, SqL.of (s7 _ _ hla6), getL (i := m) rfl hm, _, h7, ?_, s7.mut hD2, ?_⟩
          · have := restI_len m l
            rw [List.length_map, lens_len]
            exact sm (by omega)
          · rw [upd_same, if_neg (by decide), List.map_append]
            rfl
      rintro H7 ⟨s7, h7⟩
      rw [Int.toNat_natCast] at h7
      have rl := restI_len ls.length l
      refine ⟨_, rfl, _, rfl, (by show 1 ≤ sizeLine; decide), fun b nb => ?_⟩
      have s8 : Same H7 (upd H7 b (.lst [.int (lsum ls l)])) := (Same.refl H7).new nb
      have hb : upd H7 b (.lst [.int (lsum ls l)]) b = some (.lst [.int (lsum ls l)]) := upd_same
      generalize upd H7 b (.lst [.int (lsum ls l)]) = H8 at s8 hb ⊢
      refine ⟨D2, b, _, _, rfl, rfl, s8 _ _ h7, hb, (by rw [List.length_map, lens_len]; exact Nat.le_of_lt (sm (by rw [List.length_singleton]; omega))), fun q nq => ?_⟩
      have s9 : Same H8 (upd H8 q (.lst ((lensI ls (restI ls.length l)).map V.int ++ [.int (lsum ls l)]))) := (Same.refl H8).new nq
      have hq : upd H8 q (.lst ((lensI ls (restI ls.length l)).map V.int ++ [.int (lsum ls l)])) q = some (.lst ((lensI ls (restI ls.length l) ++ [lsum ls l]).map V.int)) := by rw [upd_same, List.map_append]; rfl
      generalize upd H8 q (.lst ((lensI ls (restI ls.length l)).map V.int ++ [.int (lsum ls l)])) = H9 at s9 hq ⊢
      refine ⟨q, _, rfl, hq, (by rw [List.length_append, List.length_singleton]; omega), (by rw [List.length_append, List.length_singleton, lens_len]; omega), fun y hy => ?_, fun H10 s10 => ?_⟩
      · rcases List.mem_append.mp hy with hy | hy
        · exact lens_nn bd _ y hy
        · rw [List.mem_singleton.mp hy]
          exact sum_nn (lens_nn bd l)
      rw [lo.had bd]
      have s710 := ((s7.trans s8).trans s9).trans s10
      have hlaA := s710 _ _ hla6
      have haA := s710 _ _ ha6
      have raA := ra6.same s710
      have hTA := s710 _ _ hT6
      refine ⟨_, rfl, _, rfl, la, ls, rfl, SqL.of hlaA, by omega, fun m hm hx => ⟨_, _, rfl, rfl, .inl ⟨by decide, by decide⟩, _, rfl, _, _, rfl, rfl, _, rfl, ?_⟩⟩
      have ec : decide (2 * m ≤ ls.sum) = closesB ls := (had_max hm hx).symm
      rw [ec]
      refine and_ne (e := ptB ls l) (d := decide (2 * lsum ls l ≤ ls.sum)) (fun _ q => ⟨_, rfl, _, _, rfl, rfl, .inl ⟨by decide, by decide⟩, _, rfl, _, _, rfl, rfl, q⟩) ?_
      refine ⟨rfl, _, rfl, ?_⟩
      rw [show (closesB ls && decide (2 * lsum ls l ≤ ls.sum)) = ptB ls l from rfl, decide_eq_true rfl]
      refine iteF ?_
      refine ⟨_, rfl, _, rfl, _, rfl, a, _, rfl, .inl ⟨SqL.of haA, fun t nt => ?_⟩⟩
      have s11 : Same H10 (upd H10 t (.tup (l.map V.int))) := (Same.refl H10).new nt
      have ht : upd H10 t (.tup (l.map V.int)) t = some (.tup ((kInt l).map kV)) := by rw [upd_same, kInt_kV]
      generalize upd H10 t (.tup (l.map V.int)) = H11 at s11 ht ⊢
      have hTB := s11 _ _ hTA
      have j1 : ((lotsI ls.length).take j).length ≤ 256 := by
        have := lotsI_le l8
        rw [List.length_take]
        omega
      refine ⟨T0, _, rfl, DPut.t hTB ht (sm (by have := tl.1; omega)), ?_⟩
      have bT : But T0 H11 (upd H11 T0 (.dT (putK kvs (kInt l) (.bl (ptB ls l))))) := (But.refl T0 H11).at
      have hTC : upd H11 T0 (.dT (putK kvs (kInt l) (.bl (ptB ls l)))) T0 = some (.dT (putK kvs (kInt l) (.bl (ptB ls l)))) := upd_same
      have raC : RingAt K CR (upd H11 T0 (.dT (putK kvs (kInt l) (.bl (ptB ls l))))) r ls := (raA.same s11).but bT (fun _ _ _ z => by rw [hTB] at z; cases z) (fun _ _ z => by rw [hTB] at z; cases z)
      have haC := bT _ _ nA (s11 _ _ haA)
      generalize upd H11 T0 (.dT (putK kvs (kInt l) (.bl (ptB ls l)))) = H12 at bT hTC raC haC ⊢
      have tlot : ∀ {G : Hp}, Same H12 G → TLot K G (.ref a) (some l) := fun s => ⟨by omega, a, rfl, .inl (s _ _ haC)⟩
      refine ⟨_, rfl, _, rfl, r, .ref a, ls, l, rfl, raC, l3, l8, tlot (Same.refl _), lo, fun H13 s13 => ⟨_, rfl, rfl, _, rfl, ?_⟩⟩
      rw [decide_eq_true rfl]
      refine iteF ?_
      refine ⟨_, rfl, _, rfl, r, .ref a, ls, l, rfl, raC.same s13, l3, l8, tlot s13, lo, fun H14 s14 => ⟨_, .ty "bool", _, _, _, rfl, .ty _, .base (.bl _), kit_ty (kit_bool "bool" (by decide)), _, rfl, ?_⟩⟩
      rw [decide_eq_true rfl]
      refine iteF ?_
      have s1314 := s13.trans s14
      have bF : But T0 H4 H14 := (b5.trans (But.of ((s6.trans s710).trans s11))).trans (bT.trans (But.of s1314))
      refine ⟨_, _, _, _, _, rfl, bF, s1314 _ _ hTC, ?_⟩
      rw [← take_snoc hl]
      exact tl.put l
    · rintro σ H5 ⟨z5, z6, z7, z8, kvs, rfl, b5, hT5, tl⟩
      rw [xl, List.take_length] at tl
      have s1_5 : Same H1 H5 := fun b o h => b5 b o (fun z => by rw [z, nT] at h; cases h) ((s2.trans s4) b o h)
      have pen5 := (pen.same s1).same s1_5
      have hla5 := s1_5 _ _ hla1
      have ra5 := ra.same s1_5
      obtain ⟨px5, hp5⟩ := pen5.some
      have nTp : T0 ≠ p := fun z => by rw [z, hp5] at hT5; cases hT5
      refine ⟨_, rfl, by decide, by decide, ?_⟩
      refine for_range (lo := 0) (n := (12 : Int).toNat) (fun i σ H' => ∃ z5 z9 z10 z11 z12 : Option V, σ = [some (.ref p), some (.ref la), some (.ref r), some (.int ls.sum), some (.ref T0), z5, z6, z7, z8, z9, z10, z11, z12, none] ∧ But p H5 H' ∧ PenAt K H' p e (n + 25 * i))
        ⟨_, _, _, _, _, rfl, But.refl p H5, pen5⟩ ?_ ?_
      · rintro i σ H6 hi ⟨z5, z9, z10, z11, z12, rfl, b6, pen6⟩
        have hi12 : i < 12 := hi
        have hla6 := b6 _ _ lap hla5
        have hT6 := b6 _ _ nTp hT5
        have ra6 : RingAt K CR H6 r ls := ra5.but b6 (fun _ _ _ z => by rw [hp5] at z; cases z) (fun _ _ z => by rw [hp5] at z; cases z)
        refine ⟨_, rfl, _, rfl, la, _, rfl, .inl (SqL.of hla6), ls.length, (by rw [List.length_map]; rfl), l8, fun lp xs H7 s7 np hp px => ?_⟩
        have pen7 := pen6.same s7
        have lpp := pen6.ne np
        have xl := par_len px
        have x1 : 1 ≤ xs.length := by rw [xl, lotsI_len]; exact Nat.one_le_two_pow
        have x2 : xs.length ≤ 1000 := by have := lotsI_le l8; omega
        refine ⟨p, lp, e, xs, _, rfl, SqL.of hp, lpp, x1, x2, by omega, pen7, fun iv v H8 hv b8 pen8 => ?_⟩
        obtain ⟨l, hl, ⟨a, rfl, ha⟩, na⟩ := par_get px hv
        have ll : l ∈ lotsI ls.length := List.mem_of_getElem? hl
        obtain ⟨lo, le⟩ := lotsI_ok _ l ll
        have nap : a ≠ p := pen6.ne (na a rfl)
        obtain ⟨px7, hp7⟩ := pen7.some
        have ha8 := b8 _ _ nap ha
        have hla8 := b8 _ _ lap (s7 _ _ hla6)
        have hT8 := b8 _ _ nTp (s7 _ _ hT6)
        have ra8 : RingAt K CR H8 r ls := (ra6.same s7).but b8 (fun _ _ _ z => by rw [hp7] at z; cases z) (fun _ _ z => by rw [hp7] at z; cases z)
        refine ⟨_, rfl, _, rfl, p, a, e, l.map V.int, _, rfl, SqL.of ha8, nap, by rw [List.length_map]; omega, by omega, pen8, fun q ys H9 pm0 nq b9 hq pen9 => ?_⟩
        obtain ⟨ms, rfl, pm⟩ := perm_map_int pm0
        have lom := lo.of_perm pm
        have ml : ms.length = l.length := pm.length_eq
        obtain ⟨px8, hp8⟩ := pen8.some
        have nqp : q ≠ p := pen8.ne nq
        have ha9 := b9 _ _ nap ha8
        have hla9 := b9 _ _ lap hla8
        have hT9 := b9 _ _ nTp hT8
        have ra9 : RingAt K CR H9 r ls := ra8.but b9 (fun _ _ _ z => by rw [hp8] at z; cases z) (fun _ _ z => by rw [hp8] at z; cases z)
        have b59 : But p H5 H9 := ((b6.trans (But.of s7)).trans b8).trans b9
        rw [List.length_map] at pen9
        refine ⟨_, rfl, q, _, rfl, .inl (SqL.of hq), fun hh nhh => ?_⟩
        have s10 : Same H9 (upd H9 hh (.lst (ms.map V.int))) := (Same.refl H9).new nhh
        have hhh : upd H9 hh (.lst (ms.map V.int)) hh = some (.lst (ms.map V.int)) := upd_same
        generalize upd H9 hh (.lst (ms.map V.int)) = H10 at s10 hhh ⊢
        -- what was told of the lot
        have get : ∀ {G : Hp} {b : Addr}, Same H9 G → G b = some (.tup (l.map V.int)) → DGet G T0 (.ref b) (some (.bl (ptB ls l))) := fun s h => by
          rw [← tl.2 l ll]
          exact DGet.t (s _ _ hT9) (by rw [kInt_kV]; exact h)
        refine ⟨_, rfl, q, _, rfl, .inl ⟨SqL.of (s10 _ _ hq), fun t1 nt1 => ?_⟩⟩
        have s11 : Same H10 (upd H10 t1 (.tup (ms.map V.int))) := (Same.refl H10).new nt1
        have ht1 : upd H10 t1 (.tup (ms.map V.int)) t1 = some (.tup (ms.map V.int)) := upd_same
        generalize upd H10 t1 (.tup (ms.map V.int)) = H11 at s11 ht1 ⊢
        have s911 := s10.trans s11
        refine ⟨_, rfl, r, .ref t1, ls, ms, rfl, ra9.same s911, l3, l8, ⟨by omega, t1, rfl, .inr ht1⟩, lom, fun H12 s12 => ⟨_, rfl, _, rfl, a, _, rfl, .inl ⟨SqL.of ((s911.trans s12) _ _ ha9), fun t2 nt2 => ?_⟩⟩⟩
        have s13 : Same H12 (upd H12 t2 (.tup (l.map V.int))) := (Same.refl H12).new nt2
        have ht2 : upd H12 t2 (.tup (l.map V.int)) t2 = some (.tup (l.map V.int)) := upd_same
        generalize upd H12 t2 (.tup (l.map V.int)) = H13 at s13 ht2 ⊢
        refine ⟨T0, _, rfl, get ((s911.trans s12).trans s13) ht2, rfl, _, rfl, ?_⟩
        rw [pt_perm pm, decide_eq_true rfl]
        refine iteF ?_
        have s913 := (s911.trans s12).trans s13
        refine ⟨_, rfl, _, rfl, r, .ref q, ls, ms, rfl, ra9.same s913, l3, l8, ⟨by omega, q, rfl, .inl (s913 _ _ hq)⟩, lom, fun H14 s14 => ⟨_, rfl, _, rfl, a, _, rfl, .inl ⟨SqL.of ((s913.trans s14) _ _ ha9), fun t4 nt4 => ?_⟩⟩⟩
        have s15 : Same H14 (upd H14 t4 (.tup (l.map V.int))) := (Same.refl H14).new nt4
        have ht4 : upd H14 t4 (.tup (l.map V.int)) t4 = some (.tup (l.map V.int)) := upd_same
        generalize upd H14 t4 (.tup (l.map V.int)) = H15 at s15 ht4 ⊢
        refine ⟨T0, _, rfl, get ((s913.trans s14).trans s15) ht4, rfl, _, rfl, ?_⟩
        rw [pt_perm pm, decide_eq_true rfl]
        refine iteF ?_
        have s915 := (s913.trans s14).trans s15
        have s1015 := (((s11.trans s12).trans s13).trans s14).trans s15
        refine ⟨_, rfl, _, rfl, _, _, .lst (SqL.of (s915 _ _ hq)) (dp_ints _), .lst (SqL.of (s1015 _ _ hhh)) (dp_ints _), shaped_ints _, shaped_ints _, _, rfl, ?_⟩
        rw [eqvA_pd, decide_eq_true rfl]
        refine iteF ?_
        -- on a line
        refine ⟨_, rfl, _, rfl, la, _, rfl, .inl (SqL.of (s915 _ _ hla9)), _, rfl, ls.length, .ref q, ms, (by rw [List.length_map]; rfl), l3, l8, ⟨by omega, q, rfl, .inl (s915 _ _ hq)⟩, lom, fun u H16 W s16 lf gW hW => ?_⟩
        have s916 := s915.trans s16
        refine ⟨r, u, ls, W, rfl, ra9.same s916, l3, l8, lf, gW, fun z H17 CZ dz fz s17 hz hc => ?_⟩
        rw [hW ls rfl bd] at hc
        have s917 := s916.trans s17
        refine ⟨z, CZ, dz, fz, _, rfl, hz, hc, _, rfl, _, rfl, a, _, rfl, .inl ⟨SqL.of (s917 _ _ ha9), fun t6 nt6 => ?_⟩⟩
        have s18 : Same H17 (upd H17 t6 (.tup (l.map V.int))) := (Same.refl H17).new nt6
        have ht6 : upd H17 t6 (.tup (l.map V.int)) t6 = some (.tup (l.map V.int)) := upd_same
        generalize upd H17 t6 (.tup (l.map V.int)) = H18 at s18 ht6 ⊢
        refine ⟨T0, _, rfl, get (s917.trans s18) ht6, rfl, _, rfl, ?_⟩
        rw [pt_perm pm, decide_eq_true rfl]
        refine iteF ?_
        have s918 := s917.trans s18
        have ha18 := s918 _ _ ha9
        have pen18 := pen9.same s918
        have lnp : l.length ≤ 8 := by omega
        -- fewer
        refine ⟨_, rfl, a, rfl, ⟨_, SqL.of ha18⟩, fun D hD => ?_⟩
        have nDp : D ≠ p := pen18.ne hD
        have nDa : D ≠ a := fun z => by rw [z, ha18] at hD; cases hD
        refine lc_list (K := K) (a := a) (xs := l.map V.int) (fun m G => But p H18 G ∧ PenAt K G p e (n + 25 * i + 1 + l.length + m) ∧ ∃ fs : List Int, fs.Sublist (l.take m) ∧ G D = some (.lst (fs.map V.int))) ⟨(But.refl p H18).mut hD, pen18.put hD, [], List.Sublist.refl _, upd_same⟩ (fun m G _ z => SqL.of (z.1 _ _ nap ha18)) ?_ ?_
        · rintro m x G hm ⟨bG, penG, fs, sf, hG⟩
          obtain ⟨y, hy, rfl⟩ := int_at hm
          have ml' : m < l.length := (List.getElem?_eq_some_iff.mp hy).1
          refine ⟨rfl, _, rfl, p, e, 3, _, rfl, by decide, by decide, by omega, penG, fun x G2 x0 x1 bx penx => ⟨_, _, rfl, rfl, _, rfl, ?_⟩⟩
          have hG2 := bx _ _ nDp hG
          have sfl := sf.length_le
          rw [List.length_take] at sfl
          by_cases c : 0 < x
          · rw [decide_eq_true c]
            refine iteT ⟨_, rfl, _, hG2, by rw [List.length_map]; exact sm (by omega), (bG.trans bx).mut hD, ?_, fs ++ [y], ?_, by rw [upd_same, List.map_append]; rfl⟩
            · exact (PenAt.mut pen18 penx (bG.trans bx) hD).mono (by omega)
            · rw [← take_snoc hy]
              exact sf.append (List.Sublist.refl _)
          · rw [decide_eq_false c]
            refine iteF ⟨bG.trans bx, penx.mono (by omega), fs, ?_, hG2⟩
            rw [← take_snoc hy]
            exact sf.trans (List.sublist_append_left _ _)
        rintro G ⟨bG, penG, fs, sf, hG⟩
        rw [List.length_map] at penG
        rw [List.length_map, List.take_length] at sf
        have haG := bG _ _ nap ha18
        have hTG := bG _ _ nTp (s918 _ _ hT9)
        obtain ⟨px18, hp18⟩ := pen18.some
        have raG : RingAt K CR G r ls := (ra9.same s918).but bG (fun _ _ _ z => by rw [hp18] at z; cases z) (fun _ _ z => by rw [hp18] at z; cases z)
        refine ⟨_, rfl, _, rfl, a, _, rfl, .inl ⟨SqL.of haG, fun t8 nt8 => ?_⟩⟩
        have s19 : Same G (upd G t8 (.tup (l.map V.int))) := (Same.refl G).new nt8
        have ht8 : upd G t8 (.tup (l.map V.int)) t8 = some (.tup (l.map V.int)) := upd_same
        generalize upd G t8 (.tup (l.map V.int)) = H19 at s19 ht8 ⊢
        have bF : But p H5 H19 := ((b59.trans (But.of s918)).trans bG).trans (But.of s19)
        refine ⟨T0, .bl (ptB ls l), rfl, by rw [← tl.2 l ll]; exact DGet.t (s19 _ _ hTG) (by rw [kInt_kV]; exact ht8), _, rfl, ?_⟩
        have fin : ∀ H', Same H19 H' → But p H5 H' ∧ PenAt K H' p e (n + 25 * (i + 1)) := fun H' s => ⟨bF.trans (But.of s), (penG.same (s19.trans s)).mono (by omega)⟩
        cases cp : ptB ls l with
        | false =>
          obtain ⟨f1, f2⟩ := fin H19 (Same.refl _)
          exact iteF (iteF ⟨_, _, _, _, _, rfl, f1, f2⟩)
        | true =>
          have lf : LotOk ls.length fs := ⟨lo.nd.sublist sf, fun b hb => lo.rg b (sf.subset hb)⟩
          have fl := sf.length_le
          refine iteT ⟨_, rfl, _, rfl, r, .ref D, ls, fs, rfl, raG.same s19, l3, l8, ⟨by omega, D, rfl, .inl (s19 _ _ hG)⟩, lf, fun H20 s20 => ⟨_, rfl, ?_⟩⟩
          rw [pt_fewer bd cp sf]
          obtain ⟨f1, f2⟩ := fin H20 s20
          exact iteF ⟨_, _, _, _, _, rfl, f1, f2⟩
      · rintro σ H6 ⟨z5, z9, z10, z11, z12, rfl, b6, pen6⟩
        exact k H6 ((But.of (s1.trans s1_5)).trans b6) pen6
end
end K
/-! repr of data, in defs that are called while no repr is under way -/
namespace Rg
open PySem PySem.Spec PyProof.Rows L2
/-- a def that is called where no guard is under way -/
structure FnG (Pr : Program) (wo : World) (Kf : PySem.W.Frag) (mgl : Str → Option Value) (bas : Heap) (Cx1 : CXT) (lev : Nat) (fa : Addr) (fdat : FuncData) (pars : List Str) (prom : Sp) : Prop where
  len : ∀ vvs Hq Qq Ee, prom vvs Hq Qq Ee → vvs.length = pars.length
  run : ∀ (A : Around) (outer : List Env) (s : Shared) (Hq : Hp) (args : Args) (uus : List Value) (vvs : List V) (Qq : VK) (Ee : XK), A.guards = some [] → Room lev A → Env0 Pr wo Kf mgl bas A outer s Hq → BindsTo s fdat args (pars.zip uus) → Vals vvs uus → prom vvs Hq Qq Ee →
    codeAny (model Pr wo) A (.call (.ref fa) args) (CR Cx1 outer Pr wo Hq s Qq Ee) s
theorem FnG.of {Pr : Program} {wo : World} {Kf : PySem.W.Frag} {mgl : Str → Option Value} {bas : Heap} {Cx1 : CXT} {lev : Nat} {fa : Addr} {fdat : FuncData} {pars : List Str} {prom : Sp} (F : FnOk Pr wo Kf mgl bas Cx1 lev fa fdat pars prom) : FnG Pr wo Kf mgl bas Cx1 lev fa fdat pars prom :=
  ⟨F.len, fun A outer s H args us vs Q E _ hroom en0 hbi rvs h => F.run A outer s H args us vs Q E hroom en0 hbi rvs h⟩
theorem fn_ofG {Cx1 : CXT} {Pr : Program} {wo : World} {Kf : PySem.W.Frag} {mgl : Str → Option Value} {bas : Heap} {lev : Nat} {fa : Addr} {nam qu : Str} {pms : Arguments} {bod : List Stmt} {sco : Scope} {dV kV doc pmv cdv ct oc : Value} {an od : Option Addr}
    {osl : Array (Option Value)} {Nm1 pars : List Str} {prom : Sp} (lku : Kf.lookup fa = some ⟨oc, od, .func (PySem.W.fnOf nam qu pms bod sco dV kV doc pmv an cdv ct), osl⟩) (hcode : PySem.W.codeIn Kf cdv qu = true) (Sc : FnScope Nm1 pars sco)
    (len : ∀ vvs Hq Qq Ee, prom vvs Hq Qq Ee → vvs.length = pars.length)
    (hbody : ∀ (A : Around) (outer : List Env) (s : Shared) (Hq : Hp) (vvs : List V) (Qq : VK) (Ee : XK), A.guards = some [] → Room lev (A.deeper (envOfC qu sco s.heap.objs.size fa cdv)) → prom vvs Hq Qq Ee →
      ∃ t, PSs (cxOf Cx1 Pr wo Kf mgl bas Nm1 qu sco fa cdv A outer s Hq Ee) bod t ∧ t { nx := fun _ HB => Qq .non HB, rt := Qq } (start Nm1 vvs) Hq) :
    FnG Pr wo Kf mgl bas Cx1 (lev + 1) fa (PySem.W.fnOf nam qu pms bod sco dV kV doc pmv an cdv ct) pars prom := by
  refine ⟨len, fun A outer s H args uus vvs Q E gua hroom en0 hbi rvs hpr => ?_⟩
  have hlen := len _ _ _ _ hpr
  have KIn : Kf.In s.heap := en0.mod.kin.keeps fun b o e => (en0.bs b o e).1
  have lims : s.heap.NoLimit := en0.mod.nolimit.keeps fun b o e => (en0.bs b o e).1
  have kinds : ∀ yy ∈ pars.zip uus, sco.names.lookup yy.1 = some .local ∨ (sco.names.lookup yy.1 = some .cell ∧ ((cellsFrom (s.heap.objs.size + 1) sco.names []).lookup yy.1).isSome = true) := fun ⟨nn, vv⟩ hy => by
    rcases Sc.par nn (List.of_mem_zip hy).1 with qq | qq
    · exact .inl qq
    · exact .inr ⟨qq, PySem.W.cellsFrom_some _ _ _ (.inl qq)⟩
  refine codeAny_call_function hroom.depth (KIn _ _ lku) rfl Sc.co Sc.gen rfl (PySem.W.codeRec_of KIn hcode) (hbi _ _ _ _ ?_)
  refine wpAny_newFunctionEnv_cells Sc.kind kinds fun env hen sB xc => ?_
  subst hen
  refine ⟨lims.keeps xc.toInCall.keep, codeAny_func ?_⟩
  obtain ⟨t, hpss, hend⟩ := hbody A outer s H vvs Q E gua (hroom.deeper _) hpr
  have Iv : Inv (cxOf Cx1 Pr wo Kf mgl bas Nm1 qu sco fa cdv A outer s H E) [] (start Nm1 vvs) H sB := inv_start Sc hroom.hd en0 hlen rvs xc
  refine wpAny_mono (hpss.run [] sB (start Nm1 vvs) H _ Iv hend) (fun flw sC hsB => ?_) fun e sC hsB => hsB
  have fine : ∀ {σB : L2.St} {HB : Hp} {vv : V} {uu : Value}, Inv (cxOf Cx1 Pr wo Kf mgl bas Nm1 qu sco fa cdv A outer s H E) [] σB HB sC → RelV vv uu → Q vv HB → CE outer Pr wo H s Q uu sC :=
    fun {σB HB vv uu} Jv rvu qq => ⟨vv, HB, Jv.os, Jv.bare, Jv.base, Jv.hok, rvu, qq⟩
  cases flw with
  | ret uu =>
    obtain ⟨vv, σB, HB, Jv, rvu, qq⟩ := hsB
    exact fine Jv rvu qq
  | next =>
    obtain ⟨σB, HB, Jv, qq⟩ := hsB
    exact fine (vv := V.non) (uu := Value.none) Jv rfl qq
  | brk =>
    obtain ⟨_, _, _, qq⟩ := hsB
    exact False.elim qq
  | cont =>
    obtain ⟨_, _, _, qq⟩ := hsB
    exact False.elim qq
/-- such a def by its name -/
structure DefAtG (Pr : Program) (wo : World) (Kf : PySem.W.Frag) (mgl : Str → Option Value) (bas : Heap) (Cx1 : CXT) (lev : Nat) (x : Str) (pars : List Str) (prom : Sp) (fa : Addr) (fdat : FuncData) : Prop where
  ok : FnG Pr wo Kf mgl bas Cx1 lev fa fdat pars prom
  g : mgl x = some (.ref fa)
  kp : PySem.W.keepIn Kf (.ref fa) = true
  b : Binds Kf fdat pars []
section
variable {X : Cx} {Cx1 : CXT} {lev : Nat} {fa : Addr} {fdat : FuncData} {pars : List Str} {prom : Sp} {dvs : List V} {dds : List Value} {Ee : XK} {x : Str} {po pos : Pos} {ex : Expr} {exs : List Expr} {tas : TA}
theorem run_fnG {pns : List (Addr × Obj)} {σs : L2.St} {Hh : Hp} {sh : Shared} {Qq : VK} {uus : List Value} {vvs : List V} (F : FnG X.prog X.w X.K X.mg X.base Cx1 lev fa fdat pars prom) (gX : X.A.guards = some []) (hroom : Room lev X.A) (hbi : Binds X.K fdat pars dds) (hds : Vals dvs dds) (hpas : Passes Cx1 X Ee)
    (Iv : Inv X pns σs Hh sh) (rvs : Vals vvs uus) (hpr : prom (vvs ++ dvs) Hh Qq Ee) : wpAny (model X.prog X.w) X.A (call (.ref fa) uus) (EP X pns σs Qq) X.xe sh := by
  have rall : Vals (vvs ++ dvs) (uus ++ dds) := rvs.append hds
  have hlen : (uus ++ dds).length = pars.length := by rw [← rall.length]; exact F.len _ _ _ _ hpr
  refine wpAny_call (codeAny_mono (F.run X.A X.stack sh Hh ⟨uus, []⟩ (uus ++ dds) (vvs ++ dvs) Qq Ee gX hroom Iv.env0 (hbi sh uus Iv.kIn hlen) rall hpr) fun res sC hsB => ?_)
  cases res with
  | error er => exact hpas pns σs Hh sh er sC Iv hsB
  | ok flw =>
    cases flw with
    | ret uu => exact Iv.after hsB
    | next => exact False.elim hsB
    | brk => exact False.elim hsB
    | cont => exact False.elim hsB
theorem pe_callG (F : FnG X.prog X.w X.K X.mg X.base Cx1 lev fa fdat pars prom) (gX : X.A.guards = some []) (hroom : Room lev X.A) (hgl : Gl X x) (hmg : X.mg x = some (.ref fa)) (hkp : PySem.W.keepIn X.K (.ref fa) = true) (hbi : Binds X.K fdat pars dds) (hds : Vals dvs dds) (hpas : Passes Cx1 X Ee)
    (hpa : PA X (ex :: exs) tas) (hdb : (x == ("__debug__" : Str)) = false := by decide) (hst : starEach (ex :: exs) X.env = (false, eval ex X.env) :: starEach exs X.env := by rfl) (hpl : (backTo pos (starEach exs X.env)).any (·.1) = false := by rfl) :
    PE X (.Call (.Name x po) (ex :: exs) [] pos) (tCall prom dvs Ee tas) := by
  refine ⟨fun pns sh σs Hh Qq Iv h => ?_⟩
  refine wpAny_Call_Name_kw (ld_glob Iv hgl hmg ?_ hdb)
  refine PySem.W.callWith_K (h₀ := X.base) Iv.ok.mod.kin hkp (thn (hpa.run pos pns sh σs Hh _ Iv h) fun uus s2 ⟨vvs, H2, I2, rvs, qq⟩ => ⟨I2.kIn, ?_⟩) hst hpl
  exact run_fnG F gX hroom hbi hds hpas I2 rvs qq
end
/-- repr of data, and of None -/
def rRepr (K : PySem.W.Frag) : List V → Hp → VK → Prop := fun xs Hh Qq => ∃ v : V, xs = [v] ∧ ((∃ (a : Addr) (d : PyData), v = .ref a ∧ Dp K Hh v d ∧ d.showable = true ∧ d.hasDict = false ∧ d.depth ≤ 60 ∧ d.shown.length ≤ sizeLine ∧ Qq (.str d.shown) Hh) ∨ (v = .non ∧ Qq (.str "None") Hh))
theorem cr_repr {X : Cx} (gX : X.A.guards = some []) (hu : X.A.units + 65 < cLine) : CallR X (.builtin "repr") (rRepr X.K) := by
  intro pns sh σs Hh xs us Qq Iv rr ⟨v, ex, h⟩
  subst ex
  obtain ⟨u, eu, ru⟩ := vals1 rr
  subst eu
  rcases h with ⟨a, d, ev, hd, sw, nd, dp, sz, q⟩ | ⟨ev, q⟩
  · subst ev
    obtain ⟨as, rd⟩ := Dp.reads Iv d (.ref a) u hd ru
    obtain rfl : u = Value.ref a := ru
    exact PySem.repr_of_reads' rd sw (fun z => by rw [nd] at z; cases z) gX (by omega) (fun _ _ z => z) (fun h' u2 tk kp => ⟨.str d.shown, Hh, Iv.kept (t' := tk) kp, ⟨_, rfl⟩, q⟩) sz
  · subst ev
    obtain rfl : u = Value.none := ru
    exact PySem.P.repr_of_none ⟨.str "None", Hh, Iv.tok _, ⟨_, rfl⟩, q⟩
end Rg
namespace LamX
open PySem PySem.Spec PyProof.Rows L2 Rg
theorem law_callG {Pr : Program} {wo : World} {Kf : PySem.W.Frag} {mgl mbl : Str → Option Value} {Cx1 : CXT} {lev : Nat} {fl ad : Addr} {tbs : List (Addr × Addr)} {fdat : FuncData} {xn : Str} {prom : Sp} {s₁ : Shared} {vvs : List Value} {nns : List Int}
    (KIn : Kf.In s₁.heap) (nsG : s₁.heap.Ns mainGlobals mgl) (nsB : s₁.heap.Ns builtinsNs mbl) (boo : ∀ xn : Str, xn ≠ "__name__" → mbl xn = bootBuiltins xn) (lims : s₁.heap.NoLimit) (gens0 : s₁.gens = #[])
    (tabT : ∀ pr ∈ tbs, s₁.heap.get? pr.2 = some { cls := .none, data := .fields #[] }) (tabN : ∀ pr ∈ tbs, Kf.lookup pr.2 = none) (tabC : ∀ pr ∈ tbs, PySem.W.CodeHd s₁.heap pr.1 pr.2)
    (bmod : ∃ (bm : Addr) (obm : Obj), mgl "__builtins__" = some (.ref bm) ∧ bm ≠ builtinsNs ∧ s₁.heap.get? bm = some obm ∧ obm.cls = .type "module" ∧ obm.dict = some builtinsNs ∧ obm.data = .plain)
    (adAt : s₁.heap.get? ad = some { cls := .type "list", data := .seq vvs.toArray }) (intsA : IntsAre vvs nns) (lenS : nns.length ≤ sizeLine) (hroom : Room lev callerA)
    (Fl : ∀ base : Heap, Kf.In base → base.Ns mainGlobals mgl → (∀ pr ∈ tbs, TabB base mgl pr.1 pr.2) → FnG Pr wo Kf mgl base Cx1 lev fl fdat [xn] prom) (bindL : ∀ (s : Shared) (uv : Value), BindsTo s fdat ⟨[uv], []⟩ [(xn, uv)])
    (hprom : ∀ Hq : Hp, (∀ pr ∈ tbs, Hq pr.2 = some (.tbl #[])) → SqL Kf Hq ad (nns.map V.int) → prom [.ref ad] Hq (fun vl _ => vl = .bl true) fun _ _ _ => False)
    (noEx : ∀ Hq ev sE, Cx1 [] Hq s₁ (fun _ _ _ => False) ev sE → False) :
    codeAny (model Pr wo) callerA (.call (.ref fl) ⟨[.ref ad], []⟩) (fun r sE => r = .ok (.ret (.bool true)) ∧ OldK s₁.heap sE.heap ∧ sE.os = s₁.os ∧ AllBare sE.gens) s₁ := by
  have rvv := vals_ints intsA
  have lvv := intsA.length
  have isTb : ∀ bd : Addr, bd ∈ tbs.map (·.2) → s₁.heap.get? bd = some { cls := .none, data := .fields #[] } := fun bd nsB => by
    obtain ⟨pr, hp, ev⟩ := List.mem_map.mp nsB
    rw [← ev]
    exact tabT pr hp
  have adT : ad ∉ tbs.map (·.2) := fun zz => by
    have qe := isTb ad zz
    rw [adAt] at qe
    have z' : Data.seq vvs.toArray _ = Data.fields #[] := congrArg Obj.data (Option.some.inj qe)
    cases z'
  have memTb : ∀ pr ∈ tbs, pr.2 ∈ tbs.map (·.2) := fun pr hp => List.mem_map.mpr ⟨pr, hp, rfl⟩
  have kern : ∀ Hq : Hp, (∀ pr ∈ tbs, Hq pr.2 = some (.tbl #[])) → (∀ bd, Hq bd = none ∨ bd ∈ tbs.map (·.2) ∨ ∃ oo xs, Hq bd = some (.frz oo (.lst xs))) → SqL Kf Hq ad (nns.map V.int) → HOk Pr wo Hq s₁.heap → (∀ bd, Hq bd ≠ none → bd = ad ∨ bd ∈ tbs.map (·.2)) → (Hq ad ≠ none → Kf.lookup ad = none) →
      codeAny (model Pr wo) callerA (.call (.ref fl) ⟨[.ref ad], []⟩) (fun r sE => r = .ok (.ret (.bool true)) ∧ OldK s₁.heap sE.heap ∧ sE.os = s₁.os ∧ AllBare sE.gens) s₁ := by
    intro Hq tabH onlyH sqH okH admH lkH
    have basOf : ∀ {bd : Addr} {oo : Obj}, s₁.heap.get? bd = some oo → Hq bd = none → (hidT s₁.heap Hq).get? bd = some oo := fun ev n => hidT_get ev n
    have noDt : ∀ {bd : Addr} {oo : Obj}, s₁.heap.get? bd = some oo → (∀ vvs n, oo.data ≠ .seq vvs n) → oo.data ≠ .fields #[] → Hq bd = none := fun {bd oo} ev h1 h2 => by
      cases qe : Hq bd with
      | none => rfl
      | some uv =>
        rcases admH bd (by rw [qe]; simp) with e' | e'
        · rw [e', adAt] at ev
          cases ev
          exact (h1 _ _ rfl).elim
        · rw [isTb bd e'] at ev
          cases ev
          exact (h2 rfl).elim
    have noAd : ∀ {bd : Addr} {oo : Obj} {es : Array DictEntry} {ep : Nat}, s₁.heap.get? bd = some oo → oo.data = .dict es ep → Hq bd = none := fun {bd oo es ep} ev d => by
      refine noDt ev (fun vvs n zz => ?_) fun zz => ?_
      · rw [d] at zz
        cases zz
      · rw [d] at zz
        cases zz
    have nsKp : ∀ {bd : Addr} {m : Str → Option Value}, s₁.heap.Ns bd m → (hidT s₁.heap Hq).Ns bd m := fun {bd m} ⟨oo, es, ep, ev, d, r⟩ => ⟨oo, es, ep, basOf ev (noAd ev d), d, r⟩
    have KbIn : Kf.In (hidT s₁.heap Hq) := fun bd oo ev => basOf (KIn bd oo ev) (by
      cases qe : Hq bd with
      | none => rfl
      | some uv =>
        rcases admH bd (by rw [qe]; simp) with e' | e'
        · rw [e'] at ev qe
          rw [lkH (by rw [qe]; simp)] at ev
          cases ev
        · obtain ⟨pr, hp, ep⟩ := List.mem_map.mp e'
          rw [← ep, tabN pr hp] at ev
          cases ev)
    have modM : L2.Mod Kf mgl (hidT s₁.heap Hq) := ⟨KbIn, nsKp nsG, ⟨mbl, nsKp nsB, boo⟩, let ⟨mc, h1, h2⟩ := lims; ⟨mc, nsKp h1, h2⟩⟩
    have tabB : ∀ pr ∈ tbs, TabB (hidT s₁.heap Hq) mgl pr.1 pr.2 := fun pr hp => by
      have hTp := tabT pr hp
      refine ⟨?_, ?_, fun zz => ?_⟩
      · obtain ⟨oo, fus, file, tf, flags, tg, inF, text, tt, e1, r1, r2, r3, r4, r5, r6, r7, r8, hne⟩ := tabC pr hp
        refine ⟨oo, fus, file, tf, flags, tg, inF, text, tt, basOf e1 (noDt e1 (fun vvs n zz => ?_) fun zz => ?_), r1, r2, r3, r4, r5, r6, r7, r8, hne⟩
        · rw [r2] at zz
          cases zz
        · rw [r2] at zz
          cases zz
          simp at r3
      · obtain ⟨bm, obm, b1, b2, b3, b4, b5, b6⟩ := bmod
        have nG : bm ≠ mainGlobals := fun qe => by
          obtain ⟨oo, es, ep, ev, hd, _⟩ := nsG
          rw [qe, ev] at b3
          cases b3
          rw [hd] at b6
          cases b6
        have nP : bm ≠ pr.2 := fun qe => by
          rw [qe, hTp] at b3
          cases b3
          cases b6
        refine ⟨bm, obm, b1, b2, nG, nP, basOf b3 (noDt b3 (fun vvs n zz => ?_) fun zz => ?_), b4, b5, b6⟩
        · rw [b6] at zz
          cases zz
        · rw [b6] at zz
          cases zz
      · obtain ⟨oo, es, ep, ev, hd, _⟩ := nsG
        rw [zz, hTp] at ev
        cases ev
        cases hd
    have en0 : Env0 Pr wo Kf mgl (hidT s₁.heap Hq) callerA [] s₁ Hq := ⟨rfl, modM, fun bd oo ev => of_hidT ev, Nat.le_of_eq (hidT_size _ _), trivial, fun bd nsB => absurd (show bd ∈ ([] : List Addr) from nsB) (by simp), okH, .of_eq gens0⟩
    refine codeAny_mono ((Fl _ KbIn (nsKp nsG) tabB).run callerA [] s₁ Hq ⟨[.ref ad], []⟩ [.ref ad] [.ref ad] _ _ rfl hroom en0 (bindL s₁ (.ref ad)) (.cons rfl .nil) (hprom Hq tabH sqH)) fun r sE h => ?_
    cases r with
    | error ev => exact (noEx Hq ev sE h).elim
    | ok flo =>
      cases flo with
      | next => exact False.elim h
      | brk => exact False.elim h
      | cont => exact False.elim h
      | ret uv =>
        obtain ⟨vl, HE, osE, barE, unE, okE, rr1, qe⟩ := h
        have qe1 : vl = .bl true := qe
        subst qe1
        obtain rfl : uv = Value.bool true := rr1
        have keyB : ∀ bd oo, bd ∉ tbs.map (·.2) → s₁.heap.get? bd = some oo → sE.heap.get? bd = some oo := fun bd oo nb ev => by
          cases qe : Hq bd with
          | none => exact unE.keep bd oo ev qe (by intro zz; exact absurd (show bd ∈ ([] : List Addr) from zz) (by simp)) (by simp)
          | some uv =>
            rcases onlyH bd with zz | zz | ⟨obm, xs, zz⟩
            · rw [qe] at zz; cases zz
            · exact absurd zz nb
            · have z2 := unE.frzs bd obm _ zz
              obtain ⟨e1, _⟩ := okH bd _ zz
              obtain ⟨e2, _⟩ := okE bd _ z2
              rw [ev] at e1; cases e1
              exact e2
        have grew : ∀ pr ∈ tbs, ∃ mor : Array Value, sE.heap.get? pr.2 = some { cls := .none, data := .fields mor } := fun pr hp => by
          obtain ⟨mor, zz⟩ := unE.tbls pr.2 #[] (tabH pr hp)
          exact ⟨_, okE pr.2 _ zz⟩
        refine ⟨rfl, ⟨fun bd oo ev => ?_, fun bd oo ev => ?_⟩, osE, barE⟩
        · by_cases nsB : bd ∈ tbs.map (·.2)
          · obtain ⟨pr, hp, ep⟩ := List.mem_map.mp nsB
            obtain ⟨mor, hmo⟩ := grew pr hp
            rw [← ep] at ev ⊢
            rw [tabT pr hp] at ev
            cases ev
            exact .inr (.inl ⟨((tabC pr hp).tab (tabT pr hp)).isCodeTable, rfl, #[], mor, rfl, by rw [Array.empty_append]; exact hmo⟩)
          · exact .inl (keyB bd oo nsB ev)
        · by_cases nsB : bd ∈ tbs.map (·.2)
          · obtain ⟨pr, hp, ep⟩ := List.mem_map.mp nsB
            obtain ⟨mor, hmo⟩ := grew pr hp
            rw [← ep]
            exact ⟨_, hmo⟩
          · exact ⟨oo, keyB bd oo nsB ev⟩
  cases lkA : Kf.lookup ad with
  | some oo =>
    have ev := KIn ad oo lkA
    rw [adAt] at ev
    cases ev
    refine kern (fun bd => if bd ∈ tbs.map (·.2) then some (.tbl #[]) else none) (fun pr hp => if_pos (memTb pr hp)) (fun bd => ?_) (.inr ⟨_, vvs.toArray, _, lkA, rfl, rfl, rfl, by rw [List.size_toArray, lvv]; exact lenS, by simpa using rvv⟩) (fun bd uv zz => ?_) (fun bd zz => ?_) fun zz => absurd (show (if ad ∈ tbs.map (·.2) then some (HO.tbl #[]) else none) = none from if_neg adT) zz
    · by_cases nsB : bd ∈ tbs.map (·.2)
      · exact .inr (.inl nsB)
      · exact .inl (if_neg nsB)
    · by_cases nsB : bd ∈ tbs.map (·.2)
      · have z' := (if_pos nsB).symm.trans zz
        cases z'
        exact isTb bd nsB
      · have z' := (if_neg nsB).symm.trans zz
        cases z'
    · by_cases nsB : bd ∈ tbs.map (·.2)
      · exact .inr nsB
      · exact absurd (if_neg nsB) zz
  | none =>
    refine kern (fun bd => if bd = ad then some (.frz { cls := .type "list", data := .seq vvs.toArray } (.lst (nns.map V.int))) else if bd ∈ tbs.map (·.2) then some (.tbl #[]) else none) (fun pr hp => (if_neg (show ¬ pr.2 = ad from fun zz => adT (by rw [← zz]; exact memTb pr hp))).trans (if_pos (memTb pr hp))) (fun bd => ?_)
      (.inl (.inr ⟨{ cls := .type "list", data := .seq vvs.toArray }, if_pos rfl⟩)) (fun bd uv zz => ?_) (fun bd zz => ?_) fun _ => lkA
    · by_cases nsB : bd = ad
      · exact .inr (.inr ⟨_, _, if_pos nsB⟩)
      · by_cases hb2 : bd ∈ tbs.map (·.2)
        · exact .inr (.inl hb2)
        · exact .inl ((if_neg nsB).trans (if_neg hb2))
    · by_cases nsB : bd = ad
      · have z' := (if_pos nsB).symm.trans zz
        cases z'
        rw [nsB]
        exact ⟨adAt, by rw [List.length_map]; exact lenS, vvs, _, rvv, adAt⟩
      · have z1 := (if_neg nsB).symm.trans zz
        by_cases hb2 : bd ∈ tbs.map (·.2)
        · have zq := (if_pos hb2).symm.trans z1
          cases zq
          exact isTb bd hb2
        · have zq := (if_neg hb2).symm.trans z1
          cases zq
    · by_cases nsB : bd = ad
      · exact .inl nsB
      · by_cases hb2 : bd ∈ tbs.map (·.2)
        · exact .inr hb2
        · exact absurd ((if_neg nsB).trans (if_neg hb2)) zz
/-- the law's promise, called where no guard is under way -/
def LawAtG (la : PySem.W.OpenLaw) (wo : World) (Kf : PySem.W.Frag) (Cx1 : CXT) (lev mo : Nat) (xn : Str) (mgl : Str → Option Value) (fl : Addr) (hp : Heap) : Prop :=
  ∃ (fdat : FuncData) (tbs : List (Addr × Addr)) (prom : Sp), (∀ pr ∈ tbs, hp.get? pr.2 = some { cls := .none, data := .fields #[] }) ∧ (∀ pr ∈ tbs, Kf.lookup pr.2 = none) ∧ (∀ pr ∈ tbs, PySem.W.CodeHd hp pr.1 pr.2) ∧ (∀ (s : Shared) (uv : Value), BindsTo s fdat ⟨[uv], []⟩ [(xn, uv)]) ∧
    (∀ (Hq : Hp) (ad : Addr) (nns : List Int), nns.length ≤ mo → (∀ zz ∈ nns, Builtin.Int.intBits zz ≤ 1048576) → (∀ pr ∈ tbs, Hq pr.2 = some (.tbl #[])) → SqL Kf Hq ad (nns.map V.int) → prom [.ref ad] Hq (fun vl _ => vl = .bl true) fun _ _ _ => False) ∧
    ∀ bas : Heap, Kf.In bas → bas.Ns mainGlobals mgl → (∀ pr ∈ tbs, TabB bas mgl pr.1 pr.2) → FnG la.prog wo Kf mgl bas Cx1 lev fl fdat [xn] prom
theorem walk_ofG {la : PySem.W.OpenLaw} {mo lev : Nat} {pq : Program} {loo : List Str} {XP : (Str → Option Value) → Heap → Prop} {YP : World → Heap → Prop} {dr : DefRec} {Kf : Params → PySem.W.Frag} {Cx1 : World → CXT} {xn : Str}
    (hmo : la.most = some mo) (hmo2 : mo ≤ sizeLine) (hdf : dr.params.defaults = []) (hroom : Room lev callerA) (hYP : ∀ (wo : World) (hp : Heap), YP wo hp → (Kf wo.params).In hp)
    (Fl : ∀ (wo : World) (mgl : Str → Option Value) (fl : Addr) (hp : Heap), YP wo hp → (Kf wo.params).In hp → hp.Ns mainGlobals mgl → mgl dr.name = some (.ref fl) → LawAtG la wo (Kf wo.params) (Cx1 wo) lev mo xn mgl fl hp)
    (noEx : ∀ (wo : World) (Hq : Hp) (s : Shared) (ev : Value) (sE : Shared), Cx1 wo [] Hq s (fun _ _ _ => False) ev sE → False) :
    PySem.W.WalkO pq loo XP YP la.row.toRowW dr [] (fun f vs => PySem.call f vs) := by
  refine Att.attach_callB hmo hdf fun wo s₀ sB mgl mbl fl ob pmv cdv doc ad vvs nns Gl Yp hob hdd hcode hmg hobj intsA hlen hbits hgens => ?_
  have KIn := hYP wo _ Yp
  obtain ⟨fdat, tbs, prom, tabT, tabN, tabC, hbi, hprom, hFl⟩ := Fl wo mgl fl _ Yp KIn Gl.T.g hmg
  exact law_callG KIn Gl.T.g Gl.T.b Gl.T.builtins Gl.T.nolimit hgens tabT tabN tabC Gl.T.bmain hobj intsA (Nat.le_trans hlen hmo2) hroom hFl hbi (fun Hq hH hS => hprom Hq ad nns hlen hbits hH hS) fun Hq ev sE => noEx wo Hq sB ev sE
end LamX
namespace K
open PySem PySem.Spec PyProof.Rows L2 Rg LamX
open Evl (pss_cut)
/-- isinstance(e, c), e the caught error with its dict -/
def rIsX (K : PySem.W.Frag) (a : Addr) (cls : Value) (d : Option Addr) : List V → Hp → VK → Prop := fun xs H Q => ∃ (c : V) (cv : Value) (b : Bool) (D dd : Addr) (fs : List (Str × V)), xs = [.ref a, c] ∧ (∀ u, RelV c u → u = cv) ∧ cls = .ref D ∧ ExcC K D ∧ d = some dd ∧ H dd = some (.xd fs) ∧ PySem.W.kitOne K (.ref D) cv = some b ∧ Q (.bl b) H
theorem cr_isX {X : Cx} {a : Addr} {cls : Value} {d : Option Addr} {oe : Obj} {pn : List (Addr × Obj)} (hz : Zc cls d oe) (hf : ∃ vs, oe.data = .fields vs) : CallR (X.suite a ((a, oe) :: pn)) (.builtin "isinstance") (rIsX X.K a cls d) := by
  intro pins s σ H xs us Q I r ⟨c, cv, b, D, dd, fs, ex, hcv, ec, C, ed, hdd, e, q⟩
  subst ex ec ed
  obtain ⟨u1, u2, rfl, r1, r2⟩ := vals2 r
  obtain rfl : u1 = Value.ref a := r1
  obtain rfl := hcv _ r2
  obtain ⟨hget, _⟩ := I.pin (a, oe) (List.mem_append_left _ List.mem_cons_self)
  obtain ⟨vs, hv⟩ := hf
  obtain ⟨mA, hns, _⟩ := (show ObjOk X.prog X.w H s.heap dd (.xd fs) from I.hok dd _ hdd)
  obtain ⟨od, ho, _⟩ := lookIn_ns hns
  have J : PySem.W.InstAt s.heap a oe D (some od) := ⟨hget, hz.1, by unfold PySem.W.notCls; rw [hv] <;> rfl, by rw [hz.2]; exact ho⟩
  have hcl : (PySem.W.clsIn X.K D).isSome = true := by
    obtain ⟨cd, hc, _⟩ := PySem.W.any_some C.hd
    rw [hc]
    rfl
  exact PySem.W.kia_one (PySem.W.kitx_exc hcl C.hg C.hk C.hs C.ha C.hn C.ht C.hm) I.kIn J e (fun z => nomatch z) fun tk => ⟨.bl b, H, I.kept (t' := tk) fun _ _ z => z, rfl, q⟩
/-- isinstance(e, (A, B)), e the caught error with its dict -/
def rIsXT (K : PySem.W.Frag) (a : Addr) (cls : Value) (d : Option Addr) : List V → Hp → VK → Prop := fun xs H Q => ∃ (tp : Addr) (cs : List V) (us : List Value) (b : Bool) (D dd : Addr) (fs : List (Str × V)), xs = [.ref a, .ref tp] ∧ H tp = some (.tup cs) ∧ Paired ClsV cs us ∧ cls = .ref D ∧ ExcC K D ∧ d = some dd ∧ H dd = some (.xd fs) ∧ PySem.W.kitAny K (.ref D) us = some b ∧ Q (.bl b) H
theorem cr_isXT {X : Cx} {a : Addr} {cls : Value} {d : Option Addr} {oe : Obj} {pn : List (Addr × Obj)} (hz : Zc cls d oe) (hf : ∃ vs, oe.data = .fields vs) : CallR (X.suite a ((a, oe) :: pn)) (.builtin "isinstance") (rIsXT X.K a cls d) := by
  intro pins s σ H xs us Q I r ⟨tp, cs, cv, b, D, dd, fs, ex, hT, hk, ec, C, ed, hdd, e, q⟩
  subst ex ec ed
  obtain ⟨u1, u2, rfl, r1, r2⟩ := vals2 r
  obtain rfl : u1 = Value.ref a := r1
  cases (show u2 = Value.ref tp from r2)
  obtain ⟨_, its, rv, o, h1, h2, n, h3⟩ := (show ObjOk X.prog X.w H s.heap tp (.tup cs) from I.hok tp _ hT)
  have e3 := ClsV.all hk rv
  subst e3
  obtain ⟨oc, odt, dt, sl⟩ := o
  simp only at h2 h3
  subst h2 h3
  obtain ⟨hget, _⟩ := I.pin (a, oe) (List.mem_append_left _ List.mem_cons_self)
  obtain ⟨vs, hv⟩ := hf
  obtain ⟨mA, hns, _⟩ := (show ObjOk X.prog X.w H s.heap dd (.xd fs) from I.hok dd _ hdd)
  obtain ⟨od, ho, _⟩ := lookIn_ns hns
  have J : PySem.W.InstAt s.heap a oe D (some od) := ⟨hget, hz.1, by unfold PySem.W.notCls; rw [hv] <;> rfl, by rw [hz.2]; exact ho⟩
  have hcl : (PySem.W.clsIn X.K D).isSome = true := by
    obtain ⟨cd, hc, _⟩ := PySem.W.any_some C.hd
    rw [hc]
    rfl
  exact PySem.W.kia_tup (PySem.W.kitx_exc hcl C.hg C.hk C.hs C.ha C.hn C.ht C.hm) I.kIn J h1 e (fun z => nomatch z) fun tk => ⟨.bl b, H, I.kept (t' := tk) fun _ _ z => z, rfl, q⟩
/-- error.f, whose class is told at the proof -/
def tXfA (K : PySem.W.Frag) (a : Addr) (cls : Value) (d : Option Addr) (te : TE) (f : Str) : TE := fun σ Hh Q => te σ Hh fun x J => x = .ref a ∧ ∃ (C dd : Addr) (fs : List (Str × V)) (v : V), cls = .ref C ∧ XfC K C ∧ PySem.W.findIn K (.ref C) f = some none ∧ d = some dd ∧ J dd = some (.xd fs) ∧ fs.lookup f = some v ∧ Q v J
theorem pe_xfA {X : Cx} {a : Addr} {oe : Obj} {cls : Value} {d : Option Addr} {pn : List (Addr × Obj)} {ex : Expr} {te : TE} {po : Pos} {n : Str} (hz : Zc cls d oe) (hf : ∃ vs, oe.data = .fields vs) (he : PE (X.suite a ((a, oe) :: pn)) ex te)
    (hb : attributeBase ex n X.env (eval ex X.env) = eval ex X.env := by rfl) : PE (X.suite a ((a, oe) :: pn)) (.Attribute ex n po) (tXfA X.K a cls d te n) := by
  refine ⟨fun pins s σ Hh Q Iv h => attr_of hb (thn (he.run pins s σ Hh _ Iv h) fun u s1 hh => ?_)⟩
  obtain ⟨x, J, I1, rx, exx, C, dd, fs, v, ec, T, hno, ed, ea, l, q⟩ := hh
  subst exx
  obtain rfl : u = Value.ref a := rx
  subst ec ed
  obtain ⟨ha, _⟩ := I1.pin (a, oe) (List.mem_append_left _ List.mem_cons_self)
  obtain ⟨vs, hd⟩ := hf
  have hx : ObjOk X.prog X.w J s1.heap dd (.xd fs) := I1.hok dd _ ea
  obtain ⟨mA, hns, hr⟩ := hx
  obtain ⟨od, ho, hl⟩ := lookIn_ns hns
  obtain ⟨z, hu, ru⟩ := RelO.some_of (v := v) (o := mA n) (by rw [← l]; exact hr n)
  have J0 : PySem.W.InstAt s1.heap a oe C (some od) := ⟨ha, hz.1, by unfold PySem.W.notCls; rw [hd] <;> rfl, by rw [hz.2]; exact ho⟩
  exact HandSPX.exc_get I1.kIn J0 T.ga T.gg T.exC (PySem.W.findObj_own T.hdC hno rfl (by rw [hl, hu])) (handed_of ru) ⟨v, J, I1.tok _, ru, q⟩
theorem kit_fst {K : PySem.W.Frag} {t c : Value} {r : List Value} (h : PySem.W.kitOne K t c = some true) : PySem.W.kitAny K t (c :: r) = some true := by
  unfold PySem.W.kitAny
  rw [h]
theorem kit_skip {K : PySem.W.Frag} {t c : Value} {r : List Value} {b : Bool} (h : PySem.W.kitOne K t c = some false) (h2 : PySem.W.kitAny K t r = some b) : PySem.W.kitAny K t (c :: r) = some b := by
  unfold PySem.W.kitAny
  rw [h]
  exact h2
/-- what repr makes of a value -/
def Shows (K : PySem.W.Frag) (H : Hp) (v : V) (y : Str) : Prop :=
  (∃ i : Int, v = .int i ∧ i.natAbs.log2 < 1920 ∧ y = toString i) ∨ (v = .non ∧ y = "None") ∨ (∃ b : Bool, v = .bl b ∧ y = if b = true then ("True" : Str) else ("False" : Str)) ∨ (∃ z : Str, v = .str z ∧ (reprText z).length ≤ sizeLine ∧ y = reprText z) ∨
  ∃ (a : Addr) (d : PyData), v = .ref a ∧ Dp K H v d ∧ d.showable = true ∧ d.hasDict = false ∧ d.depth ≤ 60 ∧ d.shown.length ≤ sizeLine ∧ y = d.shown
def rReprV (K : PySem.W.Frag) : List V → Hp → VK → Prop := fun xs H Q => ∃ (v : V) (y : Str), xs = [v] ∧ Shows K H v y ∧ Q (.str y) H
theorem cr_reprV {X : Cx} {K : PySem.W.Frag} (eK : X.K = K) (gX : X.A.guards = some []) (hu : X.A.units + 65 < cLine) : CallR X (.builtin "repr") (rReprV K) := by
  subst eK
  intro pns sh σs Hh xs us Qq Iv rr ⟨v, y, ex, h, q⟩
  subst ex
  obtain ⟨u, eu, ru⟩ := vals1 rr
  subst eu
  rcases h with ⟨i, rfl, l, rfl⟩ | ⟨rfl, rfl⟩ | ⟨b, rfl, rfl⟩ | ⟨z, rfl, sz, rfl⟩ | ⟨a, d, rfl, hd, sw, nd, dp, sz, rfl⟩
  · obtain ⟨t, rfl⟩ := ru
    exact PySem.P.repr_of_int l ⟨.str _, Hh, Iv.tok _, ⟨_, rfl⟩, q⟩
  · obtain rfl : u = Value.none := ru
    exact PySem.P.repr_of_none ⟨.str "None", Hh, Iv.tok _, ⟨_, rfl⟩, q⟩
  · obtain rfl : u = Value.bool b := ru
    exact PySem.P.repr_of_bool ⟨.str _, Hh, Iv.tok _, ⟨_, rfl⟩, q⟩
  · obtain ⟨t, rfl⟩ := ru
    exact PySem.P.repr_of_str ⟨.str _, Hh, Iv.tok _, ⟨_, rfl⟩, q⟩ sz
  · obtain ⟨as, rd⟩ := Dp.reads Iv d (.ref a) u hd ru
    obtain rfl : u = Value.ref a := ru
    exact PySem.repr_of_reads' rd sw (fun z => by rw [nd] at z; cases z) gX (by omega) (fun _ _ z => z) (fun h' u2 tk kp => ⟨.str d.shown, Hh, Iv.kept (t' := tk) kp, ⟨_, rfl⟩, q⟩) sz
structure Hs where
  o : Addr
  r : Addr
  n : Addr
  t : Addr
structure HeardC (K : PySem.W.Frag) (mg : Str → Option Value) (c : Hs) (eR : Addr) : Prop where
  gRE : mg "RingError" = some (.ref eR)
  go : mg "BadLot" = some (.ref c.o)
  eo : ExcC K c.o
  xo : XfC K c.o
  mo : PySem.W.exmOne K (.ref c.o) (.ref eR) = some true
  fo : PySem.W.findIn K (.ref c.o) "part" = some none
  gr : mg "BadRing" = some (.ref c.r)
  er : ExcC K c.r
  xr : XfC K c.r
  mr : PySem.W.exmOne K (.ref c.r) (.ref eR) = some true
  fr : PySem.W.findIn K (.ref c.r) "part" = some none
  gn : mg "NoBar" = some (.ref c.n)
  en : ExcC K c.n
  xn : XfC K c.n
  mn : PySem.W.exmOne K (.ref c.n) (.ref eR) = some true
  fn : PySem.W.findIn K (.ref c.n) "value" = some none
  gt : mg "Twice" = some (.ref c.t)
  et : ExcC K c.t
  xt : XfC K c.t
  mt : PySem.W.exmOne K (.ref c.t) (.ref eR) = some true
  ft : PySem.W.findIn K (.ref c.t) "value" = some none
  kro : PySem.W.kitOne K (.ref c.r) (.ref c.o) = some false
  kno : PySem.W.kitOne K (.ref c.n) (.ref c.o) = some false
  knr : PySem.W.kitOne K (.ref c.n) (.ref c.r) = some false
  kto : PySem.W.kitOne K (.ref c.t) (.ref c.o) = some false
  ktr : PySem.W.kitOne K (.ref c.t) (.ref c.r) = some false
  ktn : PySem.W.kitOne K (.ref c.t) (.ref c.n) = some false
inductive HTells (K : PySem.W.Frag) (c : Hs) (H : Hp) : Addr → Str → V → List V → Prop where
  | o (v : V) : HTells K c H c.o "part" v [.str "lot", v]
  | r (v : V) : HTells K c H c.r "part" v [.str "ring", v]
  | n (v : V) (y : Str) (h : ∀ H2, Same H H2 → Shows K H2 v y) : HTells K c H c.n "value" v [.str "bar", .str y]
  | t (v : V) (y : Str) (h : ∀ H2, Same H H2 → Shows K H2 v y) : HTells K c H c.t "value" v [.str "twice", .str y]
/-- one of the errors comes: a tuple tells which, and its field -/
def Told (K : PySem.W.Frag) (c : Hs) (Q : VK) : XK := fun cls d H' => ∃ (C dd : Addr) (n : Str) (v : V) (its : List V), cls = .ref C ∧ d = some dd ∧ H' dd = some (.xd [(n, v)]) ∧ HTells K c H' C n v its ∧ ∀ p H2, Same H' H2 → H2 p = some (.tup its) → Q (.ref p) H2
def THeard (K : PySem.W.Frag) (c : Hs) : (XK → Hp → VK → Prop) → Hp → VK → Prop := fun tl H Q => ∀ R : VK, tl (Told K c Q) H R
theorem takes_len {X : Cx} {W : WX} (t : Takes X W) : Takes X fun c d σ H => σ.length = X.N.length → W c d σ H := fun u s' ⟨a, B, sI, pins, σ, H, cls, d, e, I, nb, up, sky, na, os, ag, w⟩ =>
  t u s' ⟨a, B, sI, pins, σ, H, cls, d, e, I, nb, up, sky, na, os, ag, w I.len⟩
abbrev nHeard : List Str := ["_law_ask", "_law_heard_here", "error"]
theorem scHeard : FnScope nHeard ["_law_ask"] (defScope sLwHeard) := ⟨rfl, rfl, rfl, by decide +kernel, rfl, by decide +kernel, by decide +kernel⟩
theorem heard_gives {X : Cx} {c : Hs} {eR g : Addr} {cdg : Value} {q : Str} (T : Bi X.mg) (Tr : X.mg "repr" = none) (gX : X.A.guards = some []) (hu : X.A.units + 100 < cLine) (Hc : HeardC X.K X.mg c eR) : GivesTo X nHeard "_law_heard" (defScope sLwHeard) g cdg (defBody sLwHeard) "_law_ask" q (THeard X.K c) := by
  intro f c' s H Q tl act hc h
  have nd := scHeard.nd
  refine ⟨_, pss_cons (ps_set (i := 1) nd rfl (Or.inl rfl) pe_non)
    (pss_cons (ps_try_as (X := (cxOf C8.CX0 X.prog X.w X.K X.mg X.base nHeard "_law_heard" (defScope sLwHeard) g cdg X.A X.stack s H C8.E0).nox) (c := .ref eR) (i := 2)
      (tb := fun W D σ H => ∃ Ech : XK, (∀ cls d σ' H', Ech cls d H' → σ'.length = 3 → W cls d σ' H') ∧ σ[0]? = some (some (.ref f)) ∧ H c' = some (CodeO c' q) ∧ tl Ech H fun _ H' => D.nx σ H')
      rfl rfl nd rfl rfl ⟨rfl, rfl, .inl Hc.gRE⟩ L2.takes0 (fun W pn xe tk _ => ?_) (fun a oe cls d pn hz hf =>
        pss_cons (ps_set (i := 1) nd rfl (Or.inl rfl) (pe_tup (pa_cons pe_str (pa_cons pe_str pa_nil))))
        (pss_one (ps_if (pt_val (pe_callB (cr_isXT hz hf) (by rfl) T.isinstance (by decide +kernel) (pa_cons (pv 2) (pa_cons (pe_tup (pa_cons (pe_glob (v := .ref c.o) rfl Hc.go rfl) (pa_cons (pe_glob (v := .ref c.r) rfl Hc.gr rfl) pa_nil))) pa_nil))))
          (pss_one (ps_set (i := 1) nd rfl (Or.inl rfl) (pe_tup (pa_cons (pe_ifExp (pt_val (pe_callB (cr_isX hz hf) (by rfl) T.isinstance (by decide +kernel) (pa_cons (pv 2) (pa_cons (pe_glob (v := .ref c.o) rfl Hc.go rfl) pa_nil)))) pe_str pe_str) (pa_cons (pe_xfA hz hf (pv 2)) pa_nil)))))
          (pss_one (ps_if (pt_val (pe_callB (cr_isXT hz hf) (by rfl) T.isinstance (by decide +kernel) (pa_cons (pv 2) (pa_cons (pe_tup (pa_cons (pe_glob (v := .ref c.n) rfl Hc.gn rfl) (pa_cons (pe_glob (v := .ref c.t) rfl Hc.gt rfl) pa_nil))) pa_nil))))
          (pss_one (ps_set (i := 1) nd rfl (Or.inl rfl) (pe_tup (pa_cons (pe_ifExp (pt_val (pe_callB (cr_isX hz hf) (by rfl) T.isinstance (by decide +kernel) (pa_cons (pv 2) (pa_cons (pe_glob (v := .ref c.n) rfl Hc.gn rfl) pa_nil)))) pe_str pe_str) (pa_cons (pe_callB (cr_reprV (X := (cxOf C8.CX0 X.prog X.w X.K X.mg X.base nHeard "_law_heard" (defScope sLwHeard) g cdg X.A X.stack s H C8.E0).nox.suite a ((a, oe) :: pn)) (K := X.K) rfl gX (by show X.A.units + 3 + 65 < cLine; omega)) (by rfl) Tr (by decide +kernel) (pa_cons (pe_xfA hz hf (pv 2)) pa_nil)) pa_nil)))))
          pss_nil))))))
    (pss_one (ps_ret (pv 1)))), ?_⟩
  · refine ⟨fun pins s' σ H' D I h' => ?_⟩
    obtain ⟨Ech, hW, h1, h2, h3⟩ := h'
    exact (pss_one (ps_expr (act _ pn xe Ech _ _ (takes_len tk) hW))).run pins s' σ H' D I ⟨h1, h2, h3⟩
  · refine ⟨Told X.K c Q, ?_, rfl, hc, h _⟩
    rintro cls d σ' H' ⟨C, dd, nm, v, its, rfl, rfl, hdd, tells, q⟩ hl
    obtain ⟨x0, x1, x2, rfl⟩ : ∃ x0 x1 x2, σ' = [x0, x1, x2] := by
      match σ', hl with
      | [x0, x1, x2], _ => exact ⟨x0, x1, x2, rfl⟩
    have two : ∀ y : Addr, H' y = none → ∀ (t : Addr) (us : List V), upd H' y (.tup [.str "other", .str ""]) t = none → Same H' (upd (upd H' y (.tup [.str "other", .str ""])) t (.tup us)) := fun y hy t us ht => ((Same.refl H').new hy).new ht
    have tells' := tells
    rcases tells' with ⟨_⟩ | ⟨_⟩ | ⟨_, yy, hyy⟩ | ⟨_, yy, hyy⟩
    · refine ⟨true, Hc.mo, fun _ a ha => ?_, fun z => by cases z⟩
      refine ⟨(by show 2 ≤ sizeLine; decide), fun y hy => ?_⟩
      refine ⟨_, rfl, (by show 2 ≤ sizeLine; decide), fun t ht => ?_⟩
      have s2 := two y hy t [.ref c.o, .ref c.r] ht
      refine ⟨t, _, _, true, c.o, dd, _, rfl, upd_same, (.cons (.own _) (.cons (.own _) .nil)), rfl, Hc.eo, rfl, s2 _ _ hdd, (kit_fst kit_self), _, rfl, iteT ?_⟩
      refine ⟨_, rfl, .ref c.o, .ref c.o, true, c.o, dd, _, rfl, fun _ r => r, rfl, Hc.eo, rfl, s2 _ _ hdd, kit_self, _, rfl, iteT ?_⟩
      refine ⟨_, rfl, rfl, c.o, dd, _, v, rfl, Hc.xo, Hc.fo, rfl, s2 _ _ hdd, by simp [List.lookup], (by show 2 ≤ sizeLine; decide), fun p hp => ?_⟩
      exact ⟨_, rfl, q p _ (s2.new hp) upd_same⟩
    · refine ⟨true, Hc.mr, fun _ a ha => ?_, fun z => by cases z⟩
      refine ⟨(by show 2 ≤ sizeLine; decide), fun y hy => ?_⟩
      refine ⟨_, rfl, (by show 2 ≤ sizeLine; decide), fun t ht => ?_⟩
      have s2 := two y hy t [.ref c.o, .ref c.r] ht
      refine ⟨t, _, _, true, c.r, dd, _, rfl, upd_same, (.cons (.own _) (.cons (.own _) .nil)), rfl, Hc.er, rfl, s2 _ _ hdd, (kit_skip Hc.kro (kit_fst kit_self)), _, rfl, iteT ?_⟩
      refine ⟨_, rfl, .ref c.o, .ref c.o, false, c.r, dd, _, rfl, fun _ r => r, rfl, Hc.er, rfl, s2 _ _ hdd, Hc.kro, _, rfl, iteF ?_⟩
      refine ⟨_, rfl, rfl, c.r, dd, _, v, rfl, Hc.xr, Hc.fr, rfl, s2 _ _ hdd, by simp [List.lookup], (by show 2 ≤ sizeLine; decide), fun p hp => ?_⟩
      exact ⟨_, rfl, q p _ (s2.new hp) upd_same⟩
    · refine ⟨true, Hc.mn, fun _ a ha => ?_, fun z => by cases z⟩
      refine ⟨(by show 2 ≤ sizeLine; decide), fun y hy => ?_⟩
      refine ⟨_, rfl, (by show 2 ≤ sizeLine; decide), fun t ht => ?_⟩
      have s2 := two y hy t [.ref c.o, .ref c.r] ht
      refine ⟨t, _, _, false, c.n, dd, _, rfl, upd_same, (.cons (.own _) (.cons (.own _) .nil)), rfl, Hc.en, rfl, s2 _ _ hdd, (kit_skip Hc.kno (kit_skip Hc.knr rfl)), _, rfl, iteF ?_⟩
      refine ⟨_, rfl, (by show 2 ≤ sizeLine; decide), fun t3 ht3 => ?_⟩
      have s3 := s2.new (o := .tup [.ref c.n, .ref c.t]) ht3
      refine ⟨t3, _, _, true, c.n, dd, _, rfl, upd_same, (.cons (.own _) (.cons (.own _) .nil)), rfl, Hc.en, rfl, s3 _ _ hdd, (kit_fst kit_self), _, rfl, iteT ?_⟩
      refine ⟨_, rfl, .ref c.n, .ref c.n, true, c.n, dd, _, rfl, fun _ r => r, rfl, Hc.en, rfl, s3 _ _ hdd, kit_self, _, rfl, iteT ?_⟩
      refine ⟨_, rfl, rfl, c.n, dd, _, v, rfl, Hc.xn, Hc.fn, rfl, s3 _ _ hdd, by simp [List.lookup], v, _, rfl, hyy _ s3, (by show 2 ≤ sizeLine; decide), fun p hp => ?_⟩
      exact ⟨_, rfl, q p _ (s3.new hp) upd_same⟩
    · refine ⟨true, Hc.mt, fun _ a ha => ?_, fun z => by cases z⟩
      refine ⟨(by show 2 ≤ sizeLine; decide), fun y hy => ?_⟩
      refine ⟨_, rfl, (by show 2 ≤ sizeLine; decide), fun t ht => ?_⟩
      have s2 := two y hy t [.ref c.o, .ref c.r] ht
      refine ⟨t, _, _, false, c.t, dd, _, rfl, upd_same, (.cons (.own _) (.cons (.own _) .nil)), rfl, Hc.et, rfl, s2 _ _ hdd, (kit_skip Hc.kto (kit_skip Hc.ktr rfl)), _, rfl, iteF ?_⟩
      refine ⟨_, rfl, (by show 2 ≤ sizeLine; decide), fun t3 ht3 => ?_⟩
      have s3 := s2.new (o := .tup [.ref c.n, .ref c.t]) ht3
      refine ⟨t3, _, _, true, c.t, dd, _, rfl, upd_same, (.cons (.own _) (.cons (.own _) .nil)), rfl, Hc.et, rfl, s3 _ _ hdd, (kit_skip Hc.ktn (kit_fst kit_self)), _, rfl, iteT ?_⟩
      refine ⟨_, rfl, .ref c.n, .ref c.n, false, c.t, dd, _, rfl, fun _ r => r, rfl, Hc.et, rfl, s3 _ _ hdd, Hc.ktn, _, rfl, iteF ?_⟩
      refine ⟨_, rfl, rfl, c.t, dd, _, v, rfl, Hc.xt, Hc.ft, rfl, s3 _ _ hdd, by simp [List.lookup], v, _, rfl, hyy _ s3, (by show 2 ≤ sizeLine; decide), fun p hp => ?_⟩
      exact ⟨_, rfl, q p _ (s3.new hp) upd_same⟩
end K
namespace Rg
open PySem PySem.Spec PyProof.Rows L2
/-! ### x != y of two tuples that hold one and the same thing -/
section
variable {X : Cx}
def rNeS1 (K : PySem.W.Frag) : R2 := fun x y H Q => ∃ a b u : Addr, x = .ref a ∧ y = .ref b ∧ SqT K H a [.ref u] ∧ SqT K H b [.ref u] ∧ Q (.bl false) H
theorem op_neS1 (hu : X.A.units + 64 < cLine) : OpR X (compareOp .NotEq) (rNeS1 X.K) := by
  intro pins s σ H x y v u Q I rx ry ⟨a, b, r, ex, ey, ha, hb, q⟩
  subst ex ey
  cases rx
  cases ry
  obtain ⟨its, r1, t1, z1⟩ := I.tuple ha
  obtain ⟨its2, r2, t2, z2⟩ := I.tuple hb
  rw [Vals.ref1 r1] at t1
  rw [Vals.ref1 r2] at t2
  show wpAny (model X.prog X.w) X.A (richCompare .NotEq (.ref a) (.ref b)) (EP X pins σ Q) X.xe s
  have z := SeqAt.RcNeAt.tuples (A := X.A) (e := fun _ => true) (isTuple_of t1) (isTuple_of t2) (by omega) (fun j h1 h2 => by
    have j0 : j = 0 := by
      have : j < 1 := h1
      omega
    subst j0
    exact SeqAt.EqAt.same _)
  exact z X.prog X.w X.xe _ ⟨.bl false, H, I, rfl, q⟩
end
end Rg
namespace Rg
open PySem PySem.Spec PyProof.Rows L2
/-! ### a list compared with an empty list, whatever it holds -/
section
variable {X : Cx}
def rNeE (K : PySem.W.Frag) : R2 := fun x y H Q => ∃ (a b : Addr) (xs : List V), x = .ref a ∧ y = .ref b ∧ SqL K H a xs ∧ SqL K H b [] ∧ Q (.bl (!xs.isEmpty)) H
def rEqE (K : PySem.W.Frag) : R2 := fun x y H Q => ∃ (a b : Addr) (xs : List V), x = .ref a ∧ y = .ref b ∧ SqL K H a xs ∧ SqL K H b [] ∧ Q (.bl xs.isEmpty) H
theorem op_neE (hu : X.A.units + 64 < cLine) : OpR X (compareOp .NotEq) (rNeE X.K) := by
  intro pins s σ H x y v u Q I rx ry ⟨a, b, xs, ex, ey, ha, hb, q⟩
  subst ex ey
  cases rx
  cases ry
  obtain ⟨its, r1, t1, z1⟩ := I.list ha
  obtain ⟨its2, r2, t2, z2⟩ := I.list hb
  cases r2
  show wpAny (model X.prog X.w) X.A (richCompare .NotEq (.ref a) (.ref b)) (EP X pins σ Q) X.xe s
  cases r1 with
  | nil =>
    have z := SeqAt.RcNeAt.lists (A := X.A) (e := fun _ => true) t1.isList t2.isList rfl (by omega) (fun j h1 h2 => absurd h1 (Nat.not_lt_zero _))
    exact z X.prog X.w X.xe _ ⟨.bl false, H, I, rfl, q⟩
  | cons r rr =>
    have z := SeqAt.RcNeAt.lists_lengths (A := X.A) t1.isList t2.isList (by simp) (by omega)
    exact z X.prog X.w X.xe _ ⟨.bl true, H, I, rfl, q⟩
theorem op_eqE (hu : X.A.units + 64 < cLine) : OpR X (compareOp .Eq) (rEqE X.K) := by
  intro pins s σ H x y v u Q I rx ry ⟨a, b, xs, ex, ey, ha, hb, q⟩
  subst ex ey
  cases rx
  cases ry
  obtain ⟨its, r1, t1, z1⟩ := I.list ha
  obtain ⟨its2, r2, t2, z2⟩ := I.list hb
  cases r2
  show wpAny (model X.prog X.w) X.A (richCompare .Eq (.ref a) (.ref b)) (EP X pins σ Q) X.xe s
  cases r1 with
  | nil =>
    have z := SeqAt.RcAt.lists (A := X.A) (e := fun _ => true) t1.isList t2.isList rfl (by omega) (fun j h1 h2 => absurd h1 (Nat.not_lt_zero _))
    exact z X.prog X.w X.xe _ ⟨.bl true, H, I, rfl, q⟩
  | cons r rr =>
    have z := SeqAt.RcAt.lists_lengths (A := X.A) t1.isList t2.isList (by simp) (by omega)
    exact z X.prog X.w X.xe _ ⟨.bl false, H, I, rfl, q⟩
end
end Rg
namespace K
open PySem L2 Rg LamX NdefX
open Evl (pss_cut)
abbrev qRf : Str := "_law_refused_right.<locals>.<lambda>"
abbrev T1 (P1 : Addr) : List (Addr × Str) := [(P1, qRf)]
/-- the lambda of the k-th row -/
def rowE (k : Nat) : Expr := match k, (defBody sLwRefusedRight).getD (2 + k) (.Pass ⟨0, 0, 0, 0⟩) with
  | 0, .Assign _ (.List [.Tuple [l, _] _ _] _) _ => l
  | _, .Expr (.Call _ [.Tuple [l, _] _ _] _ _) _ => l
  | _, _ => .Tuple [] 0 ⟨0, 0, 0, 0⟩
def rowA (k : Nat) : Arguments := match rowE k with
  | .Lambda a _ _ _ => a
  | _ => { posonlyargs := [], args := [], vararg := none, kwonlyargs := [], kw_defaults := [], kwarg := none, defaults := [] }
def rowB (k : Nat) : Expr := match rowE k with
  | .Lambda _ b _ _ => b
  | _ => .Tuple [] 0 ⟨0, 0, 0, 0⟩
def rowS (k : Nat) : Scope := match rowE k with
  | .Lambda _ _ s _ => s
  | _ => { kind := .function, names := [], isGenerator := false, isCoroutine := false }
def rowT (K : PySem.W.Frag) (C : Addr) (hc : Hs) : Nat → XK → TE
  | 0 => fun E => tCall (spCP K C hc.r ⟨hc.o, hc.n, hc.t⟩) [] E (tCons (tVar 2) (tCons (tVar 5) tNil))
  | 1 => fun E => tCall (spCP K C hc.r ⟨hc.o, hc.n, hc.t⟩) [] E (tCons (tVar 3) (tCons (tVar 5) tNil))
  | 2 => fun E => tCall (spCP K C hc.r ⟨hc.o, hc.n, hc.t⟩) [] E (tCons (tVar 3) (tCons (tLst (tCons (tC (.int 1)) (tCons (tC (.int 1)) (tCons (tOp (rI0 fun i j => .int (i + j)) (tVar 4) (tC (.int 2))) (tCons (tUn (rU fun i => .int (-i)) (tC (.int 4))) tNil))))) tNil))
  | 3 => fun E => tCall (spCP K C hc.r ⟨hc.o, hc.n, hc.t⟩) [] E (tCons (tVar 3) (tCons (tLst (tCons (tC (.int 1)) (tCons (tUn (rU fun i => .int (-i)) (tC (.int 1))) (tCons (tC (.int 1)) tNil)))) tNil))
  | 4 => fun E => tCall (spCP K C hc.r ⟨hc.o, hc.n, hc.t⟩) [] E (tCons (tVar 3) (tCons (tTup (tCons (tC (.int 2)) (tCons (tC (.int 0)) (tCons (tC (.int 1)) (tCons (tC (.int 0)) (tCons (tC (.int 2)) tNil)))))) tNil))
  | 5 => fun E => tCall (spAG K C hc.r hc.n hc.t) [] E (tCons (tVar 2) (tCons (tVar 6) (tCons (tVar 6) tNil)))
  | 6 => fun E => tCall (spAG K C hc.r hc.n hc.t) [] E (tCons (tVar 3) (tCons (tVar 6) (tCons (tOp (rI0 fun i j => .int (i + j)) (tVar 4) (tC (.int 5))) tNil)))
  | 7 => fun E => tCall (spAG K C hc.r hc.n hc.t) [] E (tCons (tVar 3) (tCons (tOp (rI0 fun i j => .int (i - j)) (tVar 4) (tC (.int 1))) (tCons (tVar 6) tNil)))
  | 8 => fun E => tCall (spAG K C hc.r hc.n hc.t) [] E (tCons (tVar 3) (tCons (tC (.int 2)) (tCons (tC (.int 2)) tNil)))
  | _ => fun _ => tC .non
def rowL (K : PySem.W.Frag) (C : Addr) (hc : Hs) (k : Nat) : LamT := ⟨rowA k, rowB k, rowS k, rowT K C hc k⟩
theorem FunC.okG {P : Program} {w : World} {K : PySem.W.Frag} {mg : Str → Option Value} {base : Heap} {x qual : Str} {st : Stmt} {f c : Addr} {fd : FuncData} {N ps : List Str} {k : Nat} {sp : Sp} (F : FunC K x qual st f fd c) (S : FnScope N ps (defScope st)) (len : ∀ vs H Q E, sp vs H Q E → vs.length = ps.length)
    (hbody : ∀ (A : Around) (outer : List Env) (s : Shared) (H : Hp) (vs : List V) (Q : VK) (E : XK), A.guards = some [] → Room k (A.deeper (PyProof.Rows.envOfC qual (defScope st) s.heap.objs.size f (.ref c))) → sp vs H Q E →
      ∃ t, PSs (cxOf CX0 P w K mg base N qual (defScope st) f (.ref c) A outer s H E).nox (defBody st) t ∧ t { nx := fun _ H' => Q .non H', rt := Q } (L2.start N vs) H) : FnG P w K mg base CX0 (k + 1) f fd ps sp := by
  obtain ⟨oc, od, kV, doc, pm, an, ct, osl, rfl, lk, hcd⟩ := F.ex
  refine fn_ofG lk hcd S len fun A outer s H vs Q E ga hr hsp => ?_
  obtain ⟨t, h, q⟩ := hbody A outer s H vs Q E ga hr hsp
  exact ⟨t, h.nox, q⟩
abbrev nRR : List Str := ["_law_bench_here", "_law_lengths_here", "_law_odd", "_law_ring", "_law_many", "_law_none", "_law_bad", "_law_rows", "_law_ask", "_law_due"]
theorem scRR : FnScope nRR ["_law_bench_here", "_law_lengths_here"] (defScope sLwRefusedRight) := ⟨rfl, rfl, rfl, by decide +kernel, rfl, by decide +kernel, by decide +kernel⟩
section
variable {P : Program} {w : World} {K : PySem.W.Frag} {mg : Str → Option Value} {base : Heap}
theorem row_ok {C fCP fAG cd f : Addr} {fdCP fdAG : FuncData} {hc : Hs} {A : Around} {outer : List Env} {s : Shared} {H : Hp} {E : XK} (CP : DefAt P w K mg base (L2.CX P w) 8 "can_point" ["ring", "lot"] (spCP K C hc.r ⟨hc.o, hc.n, hc.t⟩) fCP fdCP)
    (AG : DefAt P w K mg base (L2.CX P w) 8 "against" ["ring", "one", "other"] (spAG K C hc.r hc.n hc.t) fAG fdAG) : ∀ j, j < 9 → LamR (cxOf CX0 P w K mg base nRR "_law_refused_right" (defScope sLwRefusedRight) f (.ref cd) A outer s H E).nox 10 (rowL K C hc j)
  | 0, _ => ⟨lamS_by (sc := defScope sLwRefusedRight) (scope := rowS 0) (by decide +kernel), fun _ _ _ _ _ => rfl, fun Az oz sz Hz Ez fz c2 hr2 => (pe_call (X := lamCx (cxOf CX0 P w K mg base nRR "_law_refused_right" (defScope sLwRefusedRight) f (.ref cd) A outer s H E).nox Az oz sz Hz Ez (rowS 0) fz c2) (x := "can_point") CP.ok (hr2.mono (by decide)) rfl CP.g CP.kp CP.b .nil (passes_call (takes_of rfl rfl rfl rfl) (fun _ _ _ _ h => h)) (pa_cons (pv 2) (pa_cons (pv 5) pa_nil)))⟩
  | 1, _ => ⟨lamS_by (sc := defScope sLwRefusedRight) (scope := rowS 1) (by decide +kernel), fun _ _ _ _ _ => rfl, fun Az oz sz Hz Ez fz c2 hr2 => (pe_call (X := lamCx (cxOf CX0 P w K mg base nRR "_law_refused_right" (defScope sLwRefusedRight) f (.ref cd) A outer s H E).nox Az oz sz Hz Ez (rowS 1) fz c2) (x := "can_point") CP.ok (hr2.mono (by decide)) rfl CP.g CP.kp CP.b .nil (passes_call (takes_of rfl rfl rfl rfl) (fun _ _ _ _ h => h)) (pa_cons (pv 3) (pa_cons (pv 5) pa_nil)))⟩
  | 2, _ => ⟨lamS_by (sc := defScope sLwRefusedRight) (scope := rowS 2) (by decide +kernel), fun _ _ _ _ _ => rfl, fun Az oz sz Hz Ez fz c2 hr2 => (pe_call (X := lamCx (cxOf CX0 P w K mg base nRR "_law_refused_right" (defScope sLwRefusedRight) f (.ref cd) A outer s H E).nox Az oz sz Hz Ez (rowS 2) fz c2) (x := "can_point") CP.ok (hr2.mono (by decide)) rfl CP.g CP.kp CP.b .nil (passes_call (takes_of rfl rfl rfl rfl) (fun _ _ _ _ h => h)) (pa_cons (pv 3) (pa_cons (pe_lst (pa_cons pe_int (pa_cons pe_int (pa_cons (pe_op op_add (pv 4) pe_int) (pa_cons (pe_un un_neg pe_int) pa_nil))))) pa_nil)))⟩
  | 3, _ => ⟨lamS_by (sc := defScope sLwRefusedRight) (scope := rowS 3) (by decide +kernel), fun _ _ _ _ _ => rfl, fun Az oz sz Hz Ez fz c2 hr2 => (pe_call (X := lamCx (cxOf CX0 P w K mg base nRR "_law_refused_right" (defScope sLwRefusedRight) f (.ref cd) A outer s H E).nox Az oz sz Hz Ez (rowS 3) fz c2) (x := "can_point") CP.ok (hr2.mono (by decide)) rfl CP.g CP.kp CP.b .nil (passes_call (takes_of rfl rfl rfl rfl) (fun _ _ _ _ h => h)) (pa_cons (pv 3) (pa_cons (pe_lst (pa_cons pe_int (pa_cons (pe_un un_neg pe_int) (pa_cons pe_int pa_nil)))) pa_nil)))⟩
  | 4, _ => ⟨lamS_by (sc := defScope sLwRefusedRight) (scope := rowS 4) (by decide +kernel), fun _ _ _ _ _ => rfl, fun Az oz sz Hz Ez fz c2 hr2 => (pe_call (X := lamCx (cxOf CX0 P w K mg base nRR "_law_refused_right" (defScope sLwRefusedRight) f (.ref cd) A outer s H E).nox Az oz sz Hz Ez (rowS 4) fz c2) (x := "can_point") CP.ok (hr2.mono (by decide)) rfl CP.g CP.kp CP.b .nil (passes_call (takes_of rfl rfl rfl rfl) (fun _ _ _ _ h => h)) (pa_cons (pv 3) (pa_cons (pe_tup (pa_cons pe_int (pa_cons pe_int (pa_cons pe_int (pa_cons pe_int (pa_cons pe_int pa_nil)))))) pa_nil)))⟩
  | 5, _ => ⟨lamS_by (sc := defScope sLwRefusedRight) (scope := rowS 5) (by decide +kernel), fun _ _ _ _ _ => rfl, fun Az oz sz Hz Ez fz c2 hr2 => (pe_call (X := lamCx (cxOf CX0 P w K mg base nRR "_law_refused_right" (defScope sLwRefusedRight) f (.ref cd) A outer s H E).nox Az oz sz Hz Ez (rowS 5) fz c2) (x := "against") AG.ok (hr2.mono (by decide)) rfl AG.g AG.kp AG.b .nil (passes_call (takes_of rfl rfl rfl rfl) (fun _ _ _ _ h => h)) (pa_cons (pv 2) (pa_cons (pv 6) (pa_cons (pv 6) pa_nil))))⟩
  | 6, _ => ⟨lamS_by (sc := defScope sLwRefusedRight) (scope := rowS 6) (by decide +kernel), fun _ _ _ _ _ => rfl, fun Az oz sz Hz Ez fz c2 hr2 => (pe_call (X := lamCx (cxOf CX0 P w K mg base nRR "_law_refused_right" (defScope sLwRefusedRight) f (.ref cd) A outer s H E).nox Az oz sz Hz Ez (rowS 6) fz c2) (x := "against") AG.ok (hr2.mono (by decide)) rfl AG.g AG.kp AG.b .nil (passes_call (takes_of rfl rfl rfl rfl) (fun _ _ _ _ h => h)) (pa_cons (pv 3) (pa_cons (pv 6) (pa_cons (pe_op op_add (pv 4) pe_int) pa_nil))))⟩
  | 7, _ => ⟨lamS_by (sc := defScope sLwRefusedRight) (scope := rowS 7) (by decide +kernel), fun _ _ _ _ _ => rfl, fun Az oz sz Hz Ez fz c2 hr2 => (pe_call (X := lamCx (cxOf CX0 P w K mg base nRR "_law_refused_right" (defScope sLwRefusedRight) f (.ref cd) A outer s H E).nox Az oz sz Hz Ez (rowS 7) fz c2) (x := "against") AG.ok (hr2.mono (by decide)) rfl AG.g AG.kp AG.b .nil (passes_call (takes_of rfl rfl rfl rfl) (fun _ _ _ _ h => h)) (pa_cons (pv 3) (pa_cons (pe_op op_sub (pv 4) pe_int) (pa_cons (pv 6) pa_nil))))⟩
  | 8, _ => ⟨lamS_by (sc := defScope sLwRefusedRight) (scope := rowS 8) (by decide +kernel), fun _ _ _ _ _ => rfl, fun Az oz sz Hz Ez fz c2 hr2 => (pe_call (X := lamCx (cxOf CX0 P w K mg base nRR "_law_refused_right" (defScope sLwRefusedRight) f (.ref cd) A outer s H E).nox Az oz sz Hz Ez (rowS 8) fz c2) (x := "against") AG.ok (hr2.mono (by decide)) rfl AG.g AG.kp AG.b .nil (passes_call (takes_of rfl rfl rfl rfl) (fun _ _ _ _ h => h)) (pa_cons (pv 3) (pa_cons pe_int (pa_cons pe_int pa_nil))))⟩
  | n + 9, h => absurd h (by omega)
end
end K
namespace K
open PySem L2 Rg LamX NdefX
open Evl (pss_cut)
/-! ### what is told wrongly -/
/-- no bar of m, with what repr makes of it -/
def NoB (p : Addr) (m : Int) (H : Hp) (v : V) (y : Str) : Prop := (∃ z : Int, v = .int z ∧ ¬ (0 ≤ z ∧ z < m) ∧ z.natAbs.log2 < 1920 ∧ y = toString z) ∨ (v = .non ∧ y = "None") ∨ (v = .bl true ∧ y = "True") ∨ (v = .str "0" ∧ y = reprText "0") ∨ ∃ a, v = .ref a ∧ a ≠ p ∧ H a = some (.lst [.int 0]) ∧ y = (PyData.list [.int 0]).shown
/-- of no kind that is a Ring -/
def OddV (p : Addr) (H : Hp) (v : V) : Prop := v = .non ∨ v = .int 5 ∨ (∃ z, v = .str z) ∨ ∃ (a : Addr) (xs : List V), v = .ref a ∧ a ≠ p ∧ H a = some (.lst xs)
/-- an item of a list -/
def ItK (p : Addr) (H : Hp) (x : V) (k : String) : Prop := (∃ i, x = .int i ∧ k = "int") ∨ (x = .non ∧ k = "NoneType") ∨ (x = .bl true ∧ k = "bool") ∨ ∃ (a : Addr) (xs : List V), x = .ref a ∧ a ≠ p ∧ H a = some (.lst xs) ∧ k = "list"
/-- no lot at all -/
def NoL (p : Addr) (H : Hp) (v : V) : Prop := v = .non ∨ v = .int 5 ∨ (∃ z, v = .str z) ∨ (∃ a, v = .ref a ∧ H a = some (.dK [])) ∨
  ∃ (a : Addr) (xs : List V) (kf : V → String), v = .ref a ∧ a ≠ p ∧ H a = some (.lst xs) ∧ xs.length ≤ 1000 ∧ (∀ x ∈ xs, ItK p H x (kf x)) ∧ (xs.all fun x => decide (kf x = "int")) = false
structure KitT (K : PySem.W.Frag) (C : Addr) : Prop where
  kN : PySem.W.kitOne K (.type "NoneType") (.ref C) = some false
  kI : PySem.W.kitOne K (.type "int") (.ref C) = some false
  kS : PySem.W.kitOne K (.type "str") (.ref C) = some false
  kL : PySem.W.kitOne K (.type "list") (.ref C) = some false
/-- all but the pen and the tables stands -/
def Kp (p : Addr) (H H' : Hp) : Prop := ∀ b o, H b = some o → b ≠ p → (∀ ps, o ≠ .tbl ps) → H' b = some o
theorem Kp.of {p : Addr} {H H' : Hp} (s : ExtN H H') : Kp p H H' := fun b o h _ t => s b o h t
theorem Kp.but {p : Addr} {H H' : Hp} (s : But p H H') : Kp p H H' := fun b o h n _ => s b o n h
theorem Kp.trans {p : Addr} {H H1 H2 : Hp} (a : Kp p H H1) (s : Kp p H1 H2) : Kp p H H2 := fun b o q n t => s b o (a b o q n t) n t
theorem Kp.lst {p a : Addr} {H H' : Hp} {us : List V} (k : Kp p H H') (n : a ≠ p) (h : H a = some (.lst us)) : H' a = some (.lst us) := k _ _ h n (fun _ z => nomatch z)
section
variable {K : PySem.W.Frag} {p : Addr} {px : List V} {H H' : Hp} {v : V}
theorem NoB.kp {m : Int} {y : Str} (h : NoB p m H v y) (k : Kp p H H') : NoB p m H' v y :=
  h.imp_right fun h => h.imp_right fun h => h.imp_right fun h => h.imp_right fun ⟨a, e, n, z, q⟩ => ⟨a, e, n, k.lst n z, q⟩
theorem OddV.kp (h : OddV p H v) (k : Kp p H H') : OddV p H' v :=
  h.imp_right fun h => h.imp_right fun h => h.imp_right fun ⟨a, xs, e, n, z⟩ => ⟨a, xs, e, n, k.lst n z⟩
theorem ItK.kp {k : String} (h : ItK p H v k) (s : Kp p H H') : ItK p H' v k :=
  h.imp_right fun h => h.imp_right fun h => h.imp_right fun ⟨a, xs, e, n, z, q⟩ => ⟨a, xs, e, n, s.lst n z, q⟩
theorem NoL.kp (h : NoL p H v) (s : Kp p H H') (hp : H p = some (.lst px)) : NoL p H' v :=
  h.imp_right fun h => h.imp_right fun h => h.imp_right fun h => h.imp (fun ⟨a, e, z⟩ => ⟨a, e, s _ _ z (fun q => by rw [q, hp] at z; cases z) (fun _ q => nomatch q)⟩)
    fun ⟨a, xs, kf, e, n, z, l, it, q⟩ => ⟨a, xs, kf, e, n, s.lst n z, l, fun x hx => (it x hx).kp s, q⟩
theorem kndI_no {k : String} (h : Knd K H v k) (n : k ≠ "int") : KndI K H v k := ⟨h, fun z => absurd z n⟩
theorem NoB.bad {m : Int} {y : Str} (h : NoB p m H v y) : ∃ k, KndI K H v k ∧ winB k 0 (m - 1) v = false := by
  rcases h with ⟨z, rfl, n, _⟩ | ⟨rfl, _⟩ | ⟨rfl, _⟩ | ⟨rfl, _⟩ | ⟨a, rfl, _, z, _⟩
  · refine ⟨"int", KndI.int, ?_⟩
    rw [winB_int]
    by_cases c : 0 ≤ z
    · rw [decide_eq_true c, decide_eq_false (show ¬ z ≤ m - 1 by omega)]; rfl
    · rw [decide_eq_false c]; rfl
  · exact ⟨"NoneType", kndI_no ⟨.base .non, by decide⟩ (by decide), rfl⟩
  · exact ⟨"bool", kndI_no ⟨.base (.bl true), by decide⟩ (by decide), rfl⟩
  · exact ⟨"str", kndI_no ⟨.base (.str _), by decide⟩ (by decide), rfl⟩
  · exact ⟨"list", kndI_no ⟨.base (.lst z), by decide⟩ (by decide), rfl⟩
theorem NoB.shows {m : Int} {y : Str} (h : NoB p m H v y) : Shows K H v y := by
  rcases h with ⟨z, rfl, _, l, rfl⟩ | ⟨rfl, rfl⟩ | ⟨rfl, rfl⟩ | ⟨rfl, rfl⟩ | ⟨a, rfl, _, z, rfl⟩
  · exact .inl ⟨z, rfl, l, rfl⟩
  · exact .inr (.inl ⟨rfl, rfl⟩)
  · exact .inr (.inr (.inl ⟨true, rfl, rfl⟩))
  · exact .inr (.inr (.inr (.inl ⟨_, rfl, by decide +kernel, rfl⟩)))
  · exact .inr (.inr (.inr (.inr ⟨a, .list [.int 0], rfl, .lst (SqL.of z) (.cons (.int 0) .nil), by decide +kernel, by decide +kernel, by decide +kernel, by decide +kernel, rfl⟩)))
theorem shows_int {i : Int} (h : i.natAbs.log2 < 1920) : Shows K H (.int i) (toString i) := .inl ⟨i, rfl, h, rfl⟩
theorem OddV.no {C : Addr} (G : KitT K C) (h : OddV p H v) : NoR K C H v := by
  rcases h with rfl | rfl | ⟨z, rfl⟩ | ⟨a, xs, rfl, _, h⟩
  · exact ⟨_, .base .non, G.kN⟩
  · exact ⟨_, .base (.int _), G.kI⟩
  · exact ⟨_, .base (.str _), G.kS⟩
  · exact ⟨_, .base (.lst h), G.kL⟩
theorem ItK.knd {k : String} (h : ItK p H v k) : Knd K H v k := by
  rcases h with ⟨i, rfl, rfl⟩ | ⟨rfl, rfl⟩ | ⟨rfl, rfl⟩ | ⟨a, xs, rfl, _, z, rfl⟩
  · exact Knd.int
  · exact ⟨.base .non, by decide⟩
  · exact ⟨.base (.bl true), by decide⟩
  · exact ⟨.base (.lst z), by decide⟩
theorem NoL.no (h : NoL p H v) : TLot K H v none := by
  rcases h with rfl | rfl | ⟨z, rfl⟩ | ⟨a, rfl, z⟩ | ⟨a, xs, kf, rfl, _, z, l, it, q⟩
  · exact .inl ⟨"NoneType", ⟨.base .non, by decide⟩, by decide, by decide⟩
  · exact .inl ⟨"int", ⟨.base (.int _), by decide⟩, by decide, by decide⟩
  · exact .inl ⟨"str", ⟨.base (.str _), by decide⟩, by decide, by decide⟩
  · exact .inl ⟨"dict", ⟨.base (.dK z), by decide⟩, by decide, by decide⟩
  · exact .inr ⟨a, xs, kf, rfl, z, l, fun x hx => (it x hx).knd, q⟩
end
/-! ### what the rows are told -/
structure RowF (K : PySem.W.Frag) (C p : Addr) (m : Int) (r : Addr) (ls : List Int) (vO vN vB : V) (yB : Str) (H : Hp) : Prop where
  m0 : 3 ≤ m
  m1 : m ≤ 8
  ring : RingAt K C H r ls
  len : (ls.length : Int) = m
  bd : Bd 1000000 ls
  odd : OddV p H vO
  non : NoL p H vN
  bad : NoB p m H vB yB
/-- what a row is due -/
def dueR (m : Int) (yB : Str) : Nat → Str × Str
  | 0 => ("ring", "ring")
  | 1 => ("lot", "lot")
  | 2 => ("bar", toString (m + 2))
  | 3 => ("bar", toString (-1 : Int))
  | 4 => ("twice", toString (0 : Int))
  | 5 => ("ring", "ring")
  | 6 => ("bar", yB)
  | 7 => ("bar", yB)
  | _ => ("twice", toString (2 : Int))
def DueQ (m : Int) (yB : Str) (j : Nat) (H : Hp) (Q : VK) : Prop := ∀ q H2, ExtN H H2 → H2 q = some (.tup [.str (dueR m yB j).1, .str (dueR m yB j).2]) → Q (.ref q) H2
theorem told_of {K : PySem.W.Frag} {c : Hs} {Q : VK} {H H0 : Hp} {C : Addr} {n tag y : Str} {v : V} (s0 : ExtN H0 H) (t : ∀ H', Same H H' → HTells K c H' C n v [.str tag, .str y]) (h : ∀ q H2, ExtN H0 H2 → H2 q = some (.tup [.str tag, .str y]) → Q (.ref q) H2) : Errs (Told K c Q) C n v H :=
  fun d H' s _ hd => ⟨C, d, n, v, _, rfl, rfl, hd, t H' s, fun p H2 s2 h2 => h p H2 (s0.trans (fun b o e _ => s2 b o (s b o e))) h2⟩
theorem log_small {i : Int} (h0 : -100 ≤ i) (h : i ≤ 100) : i.natAbs.log2 < 1920 := by
  have : i.natAbs ≤ 100 := by omega
  by_cases c : i.natAbs = 0
  · rw [c]; decide
  · exact Nat.lt_trans ((Nat.log2_lt c).mpr (show i.natAbs < 2 ^ 7 by omega)) (by decide)
theorem row_reads {K : PySem.W.Frag} {C p r : Addr} {hc : Hs} {m : Int} {ls : List Int} {vO vN vB : V} {yB : Str} {H : Hp} {σ : L2.St} {Q : VK} (F : RowF K C p m r ls vO vN vB yB H) (G : KitT K C)
    (h2 : σ[2]? = some (some vO)) (h3 : σ[3]? = some (some (.ref r))) (h4 : σ[4]? = some (some (.int m))) (h5 : σ[5]? = some (some vN)) (h6 : σ[6]? = some (some vB)) :
    ∀ j, j < 9 → DueQ m yB j H Q → THeard K hc (fun E H' Q' => H' = H ∧ rowT K C hc j E σ H' Q') H Q := by
  intro j hj hQ R
  refine ⟨rfl, ?_⟩
  obtain ⟨m0, m1, ring, len, bd, odd, non, bad⟩ := F
  obtain ⟨kn, n1, n2⟩ := bad.bad (K := K)
  have ib : ∀ z : Int, 0 ≤ z → z < 3 → isBar (ls.length : Nat) z = true := fun z a b => isBar_iff.mpr ⟨a, by omega⟩
  have ti : ∀ {H' : Hp} {i : Int}, -100 ≤ i → i ≤ 100 → ∀ H2, Same H' H2 → Shows K H2 (.int i) (toString i) := fun a b _ _ => shows_int (log_small a b)
  have tb : ∀ H', Same H H' → ∀ H2, Same H' H2 → Shows K H2 vB yB := fun H' s H2 s2 => (bad.kp (Kp.of (ExtN.of (s.trans s2)))).shows
  match j, hj with
  | 0, _ => exact ⟨vO, h2, vN, h5, vO, vN, rfl, .inl ⟨odd.no G, told_of (ExtN.refl H) (fun _ _ => .r _) hQ⟩⟩
  | 1, _ => exact ⟨.ref r, h3, vN, h5, .ref r, vN, rfl, .inr ⟨r, ls, rfl, ring, by omega, by omega, .inl ⟨non.no, told_of (ExtN.refl H) (fun _ _ => .o _) hQ⟩⟩⟩
  | 2, _ =>
    refine ⟨.ref r, h3, _, h4, _, _, rfl, rfl, 4, rfl, (by show 4 ≤ sizeLine; decide), fun a na => ?_⟩
    have s1 : Same H (upd H a (.lst [.int 1, .int 1, .int (m + 2), .int (-4)])) := (Same.refl H).new na
    have ha : upd H a (.lst [.int 1, .int 1, .int (m + 2), .int (-4)]) a = some (.lst (([1, 1, m + 2, -4] : List Int).map V.int)) := upd_same
    generalize upd H a (.lst [.int 1, .int 1, .int (m + 2), .int (-4)]) = H1 at s1 ha ⊢
    refine ⟨.ref r, .ref a, rfl, .inr ⟨r, ls, rfl, ring.same s1, by omega, by omega, .inr ⟨_, ⟨by simp, a, rfl, .inl ha⟩, ?_⟩⟩⟩
    rw [res_bar (i := 2) (b := m + 2) (fun x hx => by
      have : x = 1 := by simpa using hx
      rw [this]; exact ib 1 (by decide) (by decide)) rfl (fun z => by have := isBar_iff.mp z; omega)]
    exact told_of (ExtN.of s1) (fun _ _ => .n _ _ (ti (by omega) (by omega))) hQ
  | 3, _ =>
    refine ⟨.ref r, h3, 1, rfl, (by show 3 ≤ sizeLine; decide), fun a na => ?_⟩
    have s1 : Same H (upd H a (.lst [.int 1, .int (-1), .int 1])) := (Same.refl H).new na
    have ha : upd H a (.lst [.int 1, .int (-1), .int 1]) a = some (.lst (([1, -1, 1] : List Int).map V.int)) := upd_same
    generalize upd H a (.lst [.int 1, .int (-1), .int 1]) = H1 at s1 ha ⊢
    refine ⟨.ref r, .ref a, rfl, .inr ⟨r, ls, rfl, ring.same s1, by omega, by omega, .inr ⟨_, ⟨by simp, a, rfl, .inl ha⟩, ?_⟩⟩⟩
    rw [res_bar (i := 1) (b := -1) (fun x hx => by
      have : x = 1 := by simpa using hx
      rw [this]; exact ib 1 (by decide) (by decide)) rfl (fun z => by have := isBar_iff.mp z; omega)]
    exact told_of (ExtN.of s1) (fun _ _ => .n _ _ (ti (by omega) (by omega))) hQ
  | 4, _ =>
    refine ⟨.ref r, h3, (by show 5 ≤ sizeLine; decide), fun a na => ?_⟩
    have s1 : Same H (upd H a (.tup [.int 2, .int 0, .int 1, .int 0, .int 2])) := (Same.refl H).new na
    have ha : upd H a (.tup [.int 2, .int 0, .int 1, .int 0, .int 2]) a = some (.tup (([2, 0, 1, 0, 2] : List Int).map V.int)) := upd_same
    generalize upd H a (.tup [.int 2, .int 0, .int 1, .int 0, .int 2]) = H1 at s1 ha ⊢
    refine ⟨.ref r, .ref a, rfl, .inr ⟨r, ls, rfl, ring.same s1, by omega, by omega, .inr ⟨_, ⟨by simp, a, rfl, .inr ha⟩, ?_⟩⟩⟩
    rw [res_all (fun x hx => by
      have : x = 2 ∨ x = 0 ∨ x = 1 := by
        simp only [List.mem_cons, List.not_mem_nil, or_false] at hx
        omega
      rcases this with rfl | rfl | rfl
      · exact ib 2 (by decide) (by decide)
      · exact ib 0 (by decide) (by decide)
      · exact ib 1 (by decide) (by decide))]
    exact told_of (ExtN.of s1) (fun _ _ => .t _ _ (ti (by omega) (by omega))) hQ
  | 5, _ => exact ⟨vO, h2, vB, h6, vB, h6, vO, vB, vB, rfl, .inl ⟨odd.no G, told_of (ExtN.refl H) (fun _ _ => .r _) hQ⟩⟩
  | 6, _ => exact ⟨.ref r, h3, vB, h6, _, h4, _, _, rfl, rfl, .ref r, vB, .int (m + 5), rfl, .inr ⟨r, ls, rfl, ring, by omega, by omega, bd, .inl ⟨kn, n1, by rw [len]; exact n2, told_of (ExtN.refl H) (fun H' s => .n _ _ (tb H' s)) hQ⟩⟩⟩
  | 7, _ => exact ⟨.ref r, h3, _, h4, _, _, rfl, rfl, vB, h6, .ref r, .int (m - 1), vB, rfl, .inr ⟨r, ls, rfl, ring, by omega, by omega, bd, .inr ⟨m - 1, rfl, by omega, by omega, .inl ⟨kn, n1, by rw [len]; exact n2, told_of (ExtN.refl H) (fun H' s => .n _ _ (tb H' s)) hQ⟩⟩⟩⟩
  | 8, _ => exact ⟨.ref r, h3, .ref r, .int 2, .int 2, rfl, .inr ⟨r, ls, rfl, ring, by omega, by omega, bd, .inr ⟨2, rfl, by omega, by omega, .inr ⟨2, rfl, by omega, by omega, .inl ⟨rfl, told_of (ExtN.refl H) (fun _ _ => .t _ _ (ti (by omega) (by omega))) hQ⟩⟩⟩⟩⟩
  | n + 9, h => exact absurd h (by omega)
end K
namespace K
open PySem L2 Rg LamX NdefX
section
variable {K : PySem.W.Frag}
/-- what a row holds as due -/
def DueAt (m : Int) (yB : Str) (j : Nat) (H : Hp) (w : V) : Prop := ∃ q, w = .ref q ∧ H q = some (.tup [.str (dueR m yB j).1, .str (dueR m yB j).2])
theorem DueAt.ext {m : Int} {yB : Str} {w : V} {j : Nat} {H H' : Hp} (h : DueAt m yB j H w) (s : ExtN H H') : DueAt m yB j H' w := let ⟨q, e, z⟩ := h; ⟨q, e, s _ _ z fun _ y => nomatch y⟩
theorem pair_sh {a b : Str} (ha : PyData.strOk a = true) (hb : PyData.strOk b = true) : SeqAt.shaped (.tuple [.str a, .str b]) = true := by
  simp [SeqAt.shaped, PyData.canLay0, PyData.canLayAll0, PyData.depth, PyData.depthAll, ha, hb]; try decide +kernel
theorem int_ok {i : Int} (h0 : -1 ≤ i) (h1 : i ≤ 10) : PyData.strOk (Str.ofString (toString i)) = true := by
  have : i = -1 ∨ i = 0 ∨ i = 1 ∨ i = 2 ∨ i = 3 ∨ i = 4 ∨ i = 5 ∨ i = 6 ∨ i = 7 ∨ i = 8 ∨ i = 9 ∨ i = 10 := by omega
  rcases this with rfl | rfl | rfl | rfl | rfl | rfl | rfl | rfl | rfl | rfl | rfl | rfl <;> decide +kernel
theorem due_sh {m : Int} {yB : Str} (m0 : 3 ≤ m) (m1 : m ≤ 8) (hy : PyData.strOk yB = true) : ∀ j, SeqAt.shaped (.tuple [.str (dueR m yB j).1, .str (dueR m yB j).2]) = true
  | 0 => pair_sh (a := "ring") (b := "ring") (by decide +kernel) (by decide +kernel)
  | 1 => pair_sh (a := "lot") (b := "lot") (by decide +kernel) (by decide +kernel)
  | 2 => pair_sh (a := "bar") (by decide +kernel) (int_ok (by omega) (by omega))
  | 3 => pair_sh (a := "bar") (by decide +kernel) (int_ok (by omega) (by omega))
  | 4 => pair_sh (a := "twice") (by decide +kernel) (int_ok (by omega) (by omega))
  | 5 => pair_sh (a := "ring") (b := "ring") (by decide +kernel) (by decide +kernel)
  | 6 => pair_sh (a := "bar") (by decide +kernel) hy
  | 7 => pair_sh (a := "bar") (by decide +kernel) hy
  | n + 8 => pair_sh (a := "twice") (by decide +kernel) (int_ok (by omega) (by omega))
theorem pair_eq (a b : Str) : PyData.eqv (.tuple [.str a, .str b]) (.tuple [.str a, .str b]) = true := by
  simp [PyData.eqv, PyData.eqvAll]
/-- what a row tells is its due -/
theorem due_ok {m : Int} {yB : Str} {w : V} {H : Hp} {Q : VK} (m0 : 3 ≤ m) (m1 : m ≤ 8) (hy : PyData.strOk yB = true) (hQ : ∀ H2, ExtN H H2 → Q (.bl false) H2) (j : Nat) (h : DueAt m yB j H w) : DueQ m yB j H (fun x H2 => rNeD K x w H2 Q) := by
  intro q H2 s hq
  obtain ⟨q', rfl, z⟩ := h
  have z2 := s _ _ z fun _ y => nomatch y
  exact ⟨_, _, .tup (SqT.of hq) (.cons (.str _) (.cons (.str _) .nil)), .tup (SqT.of z2) (.cons (.str _) (.cons (.str _) .nil)), due_sh m0 m1 hy j, due_sh m0 m1 hy j, by rw [pair_eq]; exact hQ H2 s⟩
theorem RingAt.ext {C : Addr} {H H' : Hp} {r : Addr} {ls : List Int} (h : RingAt K C H r ls) (s : ExtN H H') : RingAt K C H' r ls := by
  obtain ⟨dx, t, h1, h2, o, h3, h4⟩ := h
  have z1 := s _ _ h1 (fun _ y => nomatch y)
  have z3 := s _ _ h3 (fun _ y => nomatch y)
  exact ⟨dx, t, z1, .inl (.inr ⟨o, z3⟩), o, z3, h4⟩
theorem RowF.ext {C p r : Addr} {m : Int} {ls : List Int} {vO vN vB : V} {yB : Str} {H H' : Hp} {px : List V} (F : RowF K C p m r ls vO vN vB yB H) (s : ExtN H H') (hp : H p = some (.lst px)) : RowF K C p m r ls vO vN vB yB H' :=
  ⟨F.m0, F.m1, F.ring.ext s, F.len, F.bd, F.odd.kp (Kp.of s), F.non.kp (Kp.of s) hp, F.bad.kp (Kp.of s)⟩
end
theorem extn_mut {H H' : Hp} {D : Addr} {o : HO} (e : ExtN H H') (n : H D = none) : ExtN H (upd H' D o) := fun b u h t => by
  rw [upd_ne (fun z => by rw [z, n] at h; cases h)]
  exact e b u h t
theorem tabS_but {h : Addr} {xs : List V} {H H' : Hp} {P : Addr} {q : Str} (t : TabS H P q) (b : But h H H') (hh : H h = some (.lst xs)) : TabS H' P q := by
  obtain ⟨ps, h1, h2, h3⟩ := t
  refine ⟨ps, b _ _ (fun e => ?_) h1, h2, fun pos cv hc => ?_⟩
  · rw [e, hh] at h1
    cases h1
  · obtain ⟨c, e1, e2⟩ := h3 pos cv hc
    refine ⟨c, e1, b _ _ (fun e => ?_) e2⟩
    rw [e, hh] at e2
    cases e2
theorem tabs_but {h : Addr} {xs : List V} {H H' : Hp} {T : List (Addr × Str)} (t : Tabs T H) (b : But h H H') (hh : H h = some (.lst xs)) : Tabs T H' := fun p hp => tabS_but (t p hp) b hh
theorem tabs_mut {D : Addr} {us ws : List V} {H : Hp} {T : List (Addr × Str)} (t : Tabs T H) (hh : H D = some (.lst us)) : Tabs T (upd H D (.lst ws)) := tabs_but t (fun b o n e => by rw [upd_ne n]; exact e) hh
theorem RingAt.kp {K : PySem.W.Frag} {C p : Addr} {px : List V} {H H' : Hp} {r : Addr} {ls : List Int} (h : RingAt K C H r ls) (s : Kp p H H') (hp : H p = some (.lst px)) : RingAt K C H' r ls := by
  obtain ⟨dx, t, h1, h2, o, h3, h4⟩ := h
  have z1 := s _ _ h1 (fun z => by rw [z, hp] at h1; cases h1) (fun _ y => nomatch y)
  have z3 := s _ _ h3 (fun z => by rw [z, hp] at h3; cases h3) (fun _ y => nomatch y)
  exact ⟨dx, t, z1, .inl (.inr ⟨o, z3⟩), o, z3, h4⟩
/-! ### the rows: a lambda and its due each -/
def RowQ (q : Str) (cells : List (Str × Addr)) (l : Nat → LamT) (m : Int) (yB : Str) (H : Hp) (v : V) (j : Nat) : Prop := ∃ (b f c' : Addr) (w : V), v = .ref b ∧ H b = some (.tup [.ref f, w]) ∧ H f = some (LamC f q (l j).ar (l j).bo (l j).sco (cloFrom cells (l j).sco.names []) c') ∧ H c' = some (CodeO c' q) ∧ DueAt m yB j H w
def RS (q : Str) (cells : List (Str × Addr)) (l : Nat → LamT) (m : Int) (yB : Str) (D : Addr) (us : List V) (js : List Nat) (H : Hp) : Prop := H D = some (.lst us) ∧ Paired (RowQ q cells l m yB H) us js
section
variable {q : Str} {cells : List (Str × Addr)} {l : Nat → LamT} {m : Int} {yB : Str} {H H' : Hp} {v : V} {j : Nat}
theorem RowQ.ext (h : RowQ q cells l m yB H v j) (s : ExtN H H') : RowQ q cells l m yB H' v j := by
  obtain ⟨b, f, c', w, e, h1, h2, h3, h4⟩ := h
  exact ⟨b, f, c', w, e, s _ _ h1 (fun _ z => nomatch z), s _ _ h2 lamC_ne, s _ _ h3 codeO_ne, h4.ext s⟩
theorem RowQ.at {D : Addr} {us ws : List V} (h : RowQ q cells l m yB H v j) (hD : H D = some (.lst us)) : RowQ q cells l m yB (upd H D (.lst ws)) v j := by
  obtain ⟨b, f, c', w, e, h1, h2, h3, ⟨q', e2, h4⟩⟩ := h
  refine ⟨b, f, c', w, e, ?_, ?_, ?_, q', e2, ?_⟩
  · rw [upd_ne fun y => by rw [y, hD] at h1; cases h1]
    exact h1
  · rw [upd_ne fun y => by rw [y, hD] at h2; cases h2]
    exact h2
  · rw [upd_ne fun y => by rw [y, hD] at h3; cases h3]
    exact h3
  · rw [upd_ne fun y => by rw [y, hD] at h4; cases h4]
    exact h4
/-- one row more -/
theorem row_push {T : List (Addr × Str)} {MB G : Hp} {D b f c' : Addr} {us : List V} {js : List Nat} {w : V} (xG : ExtN MB G) (nD : MB D = none) (ts : RS q cells l m yB D us js G) (x : ExtN G H) (t : Tabs T H)
    (hb : H b = some (.tup [.ref f, w])) (hf : H f = some (LamC f q (l j).ar (l j).bo (l j).sco (cloFrom cells (l j).sco.names []) c')) (hc : H c' = some (CodeO c' q)) (hw : DueAt m yB j H w) :
    ExtN MB (upd H D (.lst (us ++ [.ref b]))) ∧ Tabs T (upd H D (.lst (us ++ [.ref b]))) ∧ RS q cells l m yB D (us ++ [.ref b]) (js ++ [j]) (upd H D (.lst (us ++ [.ref b]))) := by
  have hD := x _ _ ts.1 (fun _ z => nomatch z)
  exact ⟨extn_mut (xG.trans x) nD, tabs_mut t hD, upd_same, par_app (par_imp (fun _ _ z => (z.ext x).at hD) ts.2) (.cons (RowQ.at ⟨b, f, c', w, rfl, hb, hf, hc, hw⟩ hD) .nil)⟩
end
theorem DueQ.mono {m : Int} {yB : Str} {j : Nat} {H : Hp} {Q Q' : VK} (i : ∀ v H, Q v H → Q' v H) (h : DueQ m yB j H Q) : DueQ m yB j H Q' := fun q H2 s z => i _ _ (h q H2 s z)
/-! ### what the picks give -/
section
variable {p : Addr} {H : Hp}
theorem pick_odd {a : Addr} {xs : List V} {v : V} {i : Nat} (n : a ≠ p) (h : H a = some (.lst xs)) (e : ([.non, .int 5, .ref a, .str "3 2 2"] : List V)[i]? = some v) : OddV p H v := by
  have e := List.mem_of_getElem? e
  simp only [List.mem_cons, List.not_mem_nil, or_false] at e
  rcases e with rfl | rfl | rfl | rfl
  · exact .inl rfl
  · exact .inr (.inl rfl)
  · exact .inr (.inr (.inr ⟨_, _, rfl, n, h⟩))
  · exact .inr (.inr (.inl ⟨_, rfl⟩))
theorem pick_bad {m z1 : Int} {a : Addr} {v : V} {i : Nat} (m0 : 3 ≤ m) (m1 : m ≤ 8) (hz : 8 < z1) (lz : z1.natAbs.log2 < 1920) (oz : PyData.strOk (Str.ofString (toString z1)) = true) (n : a ≠ p) (h : H a = some (.lst [.int 0])) (e : ([.int m, .int (-1), .non, .bl true, .str "0", .ref a, .int z1] : List V)[i]? = some v) : ∃ y, NoB p m H v y ∧ PyData.strOk y = true := by
  have e := List.mem_of_getElem? e
  simp only [List.mem_cons, List.not_mem_nil, or_false] at e
  rcases e with rfl | rfl | rfl | rfl | rfl | rfl | rfl
  · exact ⟨_, .inl ⟨_, rfl, by omega, log_small (by omega) (by omega), rfl⟩, int_ok (by omega) (by omega)⟩
  · exact ⟨_, .inl ⟨_, rfl, by omega, log_small (by omega) (by omega), rfl⟩, int_ok (by omega) (by omega)⟩
  · exact ⟨_, .inr (.inl ⟨rfl, rfl⟩), by decide +kernel⟩
  · exact ⟨_, .inr (.inr (.inl ⟨rfl, rfl⟩)), by decide +kernel⟩
  · exact ⟨_, .inr (.inr (.inr (.inl ⟨rfl, rfl⟩))), by decide +kernel⟩
  · exact ⟨_, .inr (.inr (.inr (.inr ⟨_, rfl, n, h, rfl⟩))), by decide +kernel⟩
  · exact ⟨_, .inl ⟨_, rfl, by omega, lz, rfl⟩, oz⟩
def kfV : V → String
  | .int _ => "int"
  | .non => "NoneType"
  | .bl _ => "bool"
  | _ => "list"
theorem itK_int {i : Int} : ItK p H (.int i) (kfV (.int i)) := .inl ⟨_, rfl, rfl⟩
theorem pick_non {a1 a2 a3 a4 a5 : Addr} {v : V} {i : Nat} (n1 : a1 ≠ p) (h1 : H a1 = some (.lst [.int 0, .bl true])) (n2 : a2 ≠ p) (h2 : H a2 = some (.lst [.non])) (h3 : H a3 = some (.dK [])) (n4 : a4 ≠ p) (h4 : H a4 = some (.lst [.ref a5])) (n5 : a5 ≠ p) (h5 : H a5 = some (.lst [.int 0]))
    (e : ([.non, .int 5, .str "01", .ref a1, .ref a2, .ref a3, .ref a4] : List V)[i]? = some v) : NoL p H v := by
  have e := List.mem_of_getElem? e
  simp only [List.mem_cons, List.not_mem_nil, or_false] at e
  rcases e with rfl | rfl | rfl | rfl | rfl | rfl | rfl
  · exact .inl rfl
  · exact .inr (.inl rfl)
  · exact .inr (.inr (.inl ⟨_, rfl⟩))
  · exact .inr (.inr (.inr (.inr ⟨_, _, kfV, rfl, n1, h1, Nat.le_of_ble_eq_true rfl, List.forall_mem_cons.mpr ⟨itK_int, List.forall_mem_cons.mpr ⟨.inr (.inr (.inl ⟨rfl, rfl⟩)), fun _ z => nomatch z⟩⟩, rfl⟩)))
  · exact .inr (.inr (.inr (.inr ⟨_, _, kfV, rfl, n2, h2, Nat.le_of_ble_eq_true rfl, List.forall_mem_cons.mpr ⟨.inr (.inl ⟨rfl, rfl⟩), fun _ z => nomatch z⟩, rfl⟩)))
  · exact .inr (.inr (.inr (.inl ⟨_, rfl, h3⟩)))
  · exact .inr (.inr (.inr (.inr ⟨_, _, kfV, rfl, n4, h4, Nat.le_of_ble_eq_true rfl, List.forall_mem_cons.mpr ⟨.inr (.inr (.inr ⟨_, _, rfl, n5, h5, rfl⟩)), fun _ z => nomatch z⟩, rfl⟩)))
end
end K
namespace K
open PySem L2 Rg LamX NdefX
open Evl (pss_cut)
theorem due3 {m : Int} {yB : Str} : HO.tup [V.str (dueR m yB 3).1, .str (dueR m yB 3).2] = .tup [.str "bar", .str "-1"] := by
  show HO.tup [V.str "bar", .str (Str.ofString (toString (-1 : Int)))] = _
  rw [show toString (-1 : Int) = "-1" by decide +kernel]
theorem due4 {m : Int} {yB : Str} : HO.tup [V.str (dueR m yB 4).1, .str (dueR m yB 4).2] = .tup [.str "twice", .str "0"] := by
  show HO.tup [V.str "twice", .str (Str.ofString (toString (0 : Int)))] = _
  rw [show toString (0 : Int) = "0" by decide +kernel]
theorem due8 {m : Int} {yB : Str} : HO.tup [V.str (dueR m yB 8).1, .str (dueR m yB 8).2] = .tup [.str "twice", .str "2"] := by
  show HO.tup [V.str "twice", .str (Str.ofString (toString (2 : Int)))] = _
  rw [show toString (2 : Int) = "2" by decide +kernel]
section
variable {P : Program} {w : World} {K : PySem.W.Frag} {mg : Str → Option Value} {base : Heap}
abbrev cellsOf (A : Around) (s : Shared) (f cd : Addr) : List (Str × Addr) := (PyProof.Rows.envOfC "_law_refused_right" (defScope sLwRefusedRight) s.heap.objs.size f (.ref cd)).cells
def spRR (K : PySem.W.Frag) (T : List (Addr × Str)) : Sp := fun vs H Q _ => ∃ (p la : Addr) (e : Addr × List Int) (ls : List Int) (n : Nat), vs = [.ref p, .ref la] ∧ H la = some (.lst (ls.map V.int)) ∧ la ≠ p ∧ 3 ≤ ls.length ∧ ls.length ≤ 8 ∧ Bd 1000000 ls ∧ n < 700000 ∧ PenAt K H p e n ∧ Tabs T H ∧ ∀ H', Q (.bl true) H'
theorem ok_rr {C P1 cd eR f fR fPK fCP fAG fH : Addr} {fd fdR fdPK fdCP fdAG fdH : FuncData} {hc : Hs} (F : FunC K "_law_refused_right" "_law_refused_right" sLwRefusedRight f fd cd) (T : Bi mg) (Tr : mg "repr" = none) (R : RingP P w K mg base C fR fdR) (RG : RingC K mg C)
    (PK : DefAt P w K mg base CX0 3 "_law_pick" ["_law_bench_here", "_law_some"] (spPick K) fPK fdPK) (CP : DefAt P w K mg base (L2.CX P w) 8 "can_point" ["ring", "lot"] (spCP K C hc.r ⟨hc.o, hc.n, hc.t⟩) fCP fdCP)
    (AG : DefAt P w K mg base (L2.CX P w) 8 "against" ["ring", "one", "other"] (spAG K C hc.r hc.n hc.t) fAG fdAG) (Hc : HeardC K mg hc eR) (TB : TabB base mg cd P1) (hmT : (P1, qRf) ∈ T1 P1) (hu : ∀ p ∈ T1 P1, p.1 = P1 → p.2 = qRf)
    (KC : KitT K C) (FH : Fun K "_law_heard" "_law_heard" sLwHeard fH fdH) (BH : Binds K fdH ["_law_ask"] []) (GH : mg "_law_heard" = some (.ref fH)) : FnG P w K mg base CX0 14 f fd ["_law_bench_here", "_law_lengths_here"] (spRR K (T1 P1)) := by
  refine F.okG scRR (fun vs H Q E h => ?_) (fun A outer s H vs Q E ga hr h => ?_)
  · obtain ⟨p, la, e, ls, n, rfl, _⟩ := h
    rfl
  · have nd := scRR.nd
    have gX : (A.deeper (PyProof.Rows.envOfC "_law_refused_right" (defScope sLwRefusedRight) s.heap.objs.size f (.ref cd))).guards = some [] := ga
    have hu65 : (A.deeper (PyProof.Rows.envOfC "_law_refused_right" (defScope sLwRefusedRight) s.heap.objs.size f (.ref cd))).units + 65 < cLine := by have := hr.un; omega
    have hu100 : (A.deeper (PyProof.Rows.envOfC "_law_refused_right" (defScope sLwRefusedRight) s.heap.objs.size f (.ref cd))).units + 100 < cLine := by have := hr.un; omega
    obtain ⟨oc, od, kV, doc, pm, an, cdv, ct, osl, rfl, lk, hcd⟩ := FH.ex
    have RL := row_ok (hc := hc) (cd := cd) (f := f) (A := A) (outer := outer) (s := s) (H := H) (E := E) CP AG
    refine ⟨_, (pss_cons (ps_asg (pe_tup (pa_cons (pe_call PK.ok (hr.mono (by decide)) rfl PK.g PK.kp PK.b .nil pass0 (pa_cons (pv 0) (pa_cons (pe_lst (pa_cons pe_non (pa_cons pe_int (pa_cons (pv 1) (pa_cons pe_str pa_nil))))) pa_nil))) (pa_cons (pe_make R.made R.ok (hr.mono (by decide)) (by rfl) RG.g R.b .nil pass0 (pa_cons (pv 1) pa_nil)) (pa_cons (pe_callB (r := rLenS K) call_len_seq (by rfl) T.len PySem.boot_len (pa_cons (pv 1) pa_nil)) pa_nil)))) (pg_tup (by rfl) (pgs_cons (pg_name (i := 2) nd rfl (Or.inr rfl)) (pgs_cons (pg_name (i := 3) nd rfl (Or.inr rfl)) (pgs_cons (pg_name (i := 4) nd rfl (Or.inr rfl)) pgs_nil)))))
      (pss_cons (ps_asg (pe_tup (pa_cons (pe_call PK.ok (hr.mono (by decide)) rfl PK.g PK.kp PK.b .nil pass0 (pa_cons (pv 0) (pa_cons (pe_lst (pa_cons pe_non (pa_cons pe_int (pa_cons pe_str (pa_cons (pe_lst (pa_cons pe_int (pa_cons pe_bl pa_nil))) (pa_cons (pe_lst (pa_cons pe_non pa_nil)) (pa_cons pe_dnewK (pa_cons (pe_lst (pa_cons (pe_lst (pa_cons pe_int pa_nil)) pa_nil)) pa_nil)))))))) pa_nil))) (pa_cons (pe_call PK.ok (hr.mono (by decide)) rfl PK.g PK.kp PK.b .nil pass0 (pa_cons (pv 0) (pa_cons (pe_lst (pa_cons (pv 4) (pa_cons (pe_un un_neg pe_int) (pa_cons pe_non (pa_cons pe_bl (pa_cons pe_str (pa_cons (pe_lst (pa_cons pe_int pa_nil)) (pa_cons (pe_op op_pow pe_int pe_int) pa_nil)))))))) pa_nil))) pa_nil))) (pg_tup (by rfl) (pgs_cons (pg_name (i := 5) nd rfl (Or.inr rfl)) (pgs_cons (pg_name (i := 6) nd rfl (Or.inr rfl)) pgs_nil))))
      (pss_cons (ps_set (i := 7) nd rfl (Or.inl rfl) (pe_lst (pa_cons (pe_tup (pa_cons (pe_lamcap (T := T1 P1) TB rfl hmT hu rfl (lamS_by (sc := defScope sLwRefusedRight) (by decide +kernel))) (pa_cons (pe_tup (pa_cons pe_str (pa_cons pe_str pa_nil))) pa_nil))) pa_nil)))
      (pss_cons (ps_expr (pe_bm PySem.F.plainAttrs_list PySem.F.slot_list_append PySem.F.type_list_append mt_append (pv 7) (pa_cons (pe_tup (pa_cons (pe_lamcap (T := T1 P1) TB rfl hmT hu rfl (lamS_by (sc := defScope sLwRefusedRight) (by decide +kernel))) (pa_cons (pe_tup (pa_cons pe_str (pa_cons pe_str pa_nil))) pa_nil))) pa_nil)))
      (pss_cons (ps_expr (pe_bm PySem.F.plainAttrs_list PySem.F.slot_list_append PySem.F.type_list_append mt_append (pv 7) (pa_cons (pe_tup (pa_cons (pe_lamcap (T := T1 P1) TB rfl hmT hu rfl (lamS_by (sc := defScope sLwRefusedRight) (by decide +kernel))) (pa_cons (pe_tup (pa_cons pe_str (pa_cons (pe_callB (cr_reprV (K := K) rfl gX hu65) (by rfl) Tr (by decide +kernel) (pa_cons (pe_op op_add (pv 4) pe_int) pa_nil)) pa_nil))) pa_nil))) pa_nil)))
      (pss_cons (ps_expr (pe_bm PySem.F.plainAttrs_list PySem.F.slot_list_append PySem.F.type_list_append mt_append (pv 7) (pa_cons (pe_tup (pa_cons (pe_lamcap (T := T1 P1) TB rfl hmT hu rfl (lamS_by (sc := defScope sLwRefusedRight) (by decide +kernel))) (pa_cons (pe_tup (pa_cons pe_str (pa_cons pe_str pa_nil))) pa_nil))) pa_nil)))
      (pss_cons (ps_expr (pe_bm PySem.F.plainAttrs_list PySem.F.slot_list_append PySem.F.type_list_append mt_append (pv 7) (pa_cons (pe_tup (pa_cons (pe_lamcap (T := T1 P1) TB rfl hmT hu rfl (lamS_by (sc := defScope sLwRefusedRight) (by decide +kernel))) (pa_cons (pe_tup (pa_cons pe_str (pa_cons pe_str pa_nil))) pa_nil))) pa_nil)))
      (pss_cons (ps_expr (pe_bm PySem.F.plainAttrs_list PySem.F.slot_list_append PySem.F.type_list_append mt_append (pv 7) (pa_cons (pe_tup (pa_cons (pe_lamcap (T := T1 P1) TB rfl hmT hu rfl (lamS_by (sc := defScope sLwRefusedRight) (by decide +kernel))) (pa_cons (pe_tup (pa_cons pe_str (pa_cons pe_str pa_nil))) pa_nil))) pa_nil)))
      (pss_cons (ps_expr (pe_bm PySem.F.plainAttrs_list PySem.F.slot_list_append PySem.F.type_list_append mt_append (pv 7) (pa_cons (pe_tup (pa_cons (pe_lamcap (T := T1 P1) TB rfl hmT hu rfl (lamS_by (sc := defScope sLwRefusedRight) (by decide +kernel))) (pa_cons (pe_tup (pa_cons pe_str (pa_cons (pe_callB (cr_reprV (K := K) rfl gX hu65) (by rfl) Tr (by decide +kernel) (pa_cons (pv 6) pa_nil)) pa_nil))) pa_nil))) pa_nil)))
      (pss_cons (ps_expr (pe_bm PySem.F.plainAttrs_list PySem.F.slot_list_append PySem.F.type_list_append mt_append (pv 7) (pa_cons (pe_tup (pa_cons (pe_lamcap (T := T1 P1) TB rfl hmT hu rfl (lamS_by (sc := defScope sLwRefusedRight) (by decide +kernel))) (pa_cons (pe_tup (pa_cons pe_str (pa_cons (pe_callB (cr_reprV (K := K) rfl gX hu65) (by rfl) Tr (by decide +kernel) (pa_cons (pv 6) pa_nil)) pa_nil))) pa_nil))) pa_nil)))
      (pss_cons (ps_expr (pe_bm PySem.F.plainAttrs_list PySem.F.slot_list_append PySem.F.type_list_append mt_append (pv 7) (pa_cons (pe_tup (pa_cons (pe_lamcap (T := T1 P1) TB rfl hmT hu rfl (lamS_by (sc := defScope sLwRefusedRight) (by decide +kernel))) (pa_cons (pe_tup (pa_cons pe_str (pa_cons pe_str pa_nil))) pa_nil))) pa_nil)))
      (pss_one (ps_ret (pe_cmpR (op_eqE hr.units) (pe_lcF (Ex := fun _ _ _ => False) (own := [("_law_ask", 8), ("_law_due", 9)]) (g := (gTup K 2 (gCons (gName 8) (gCons (gName 9) gNil)))) (tt := tTest (tOp (rNeD K) (tLamB [8, 9] (THeard K hc) 8 9 qRf (cellsOf A s f cd) (rowL K C hc)) (tVar 9))) (te := tVar 9) rfl rfl L2.takes0 rfl nd (pi_list (pv 7))
        (blkOk_by (N := nRR) (sc := defScope sLwRefusedRight) (by decide +kernel)) (fun _ _ _ _ _ => pg_tup rfl (pgs_cons (pg_name (i := 8) nd rfl (Or.inl rfl)) (pgs_cons (pg_name (i := 9) nd rfl (Or.inl rfl)) pgs_nil)))
        (fun pins0 σ0 s0 H0 C0 cl fp I0 f0 => pts_one (pt_cmpR (op_neD hr.units) (pe_lamB (vs := [8, 9]) (i := 8) (n := 9) (k := 10) (Ng := nHeard) (a := "_law_ask") (x := "_law_heard") (y := "_law_ask") (C := C0) (cl := cl) I0 f0 (by rfl) GH FH.kp lk hcd BH scHeard rfl (Or.inl rfl) (heard_gives T Tr gX hu100 Hc) (hr.mono (by decide)) RL rfl (by exact Or.inl rfl)) (pv 9) (nomark _)))
        (fun _ _ _ _ _ _ _ => pv 9)) (pe_lst pa_nil) (nomark _))))))))))))))), ?_⟩
    obtain ⟨p, la, e, ls, n, rfl, hla, lap, l3, l8, bd, hn, pen, tab, q⟩ := h
    refine ⟨_, rfl, _, rfl, (by show 4 ≤ sizeLine; decide), fun o1 n1 => ?_⟩
    have a1 : Same H (upd H o1 (.lst [.non, .int 5, .ref la, .str "3 2 2"])) := (Same.refl H).new n1
    have q1 : o1 ≠ p := pen.ne n1
    have v1 : upd H o1 (.lst [.non, .int 5, .ref la, .str "3 2 2"]) o1 = some (.lst [.non, .int 5, .ref la, .str "3 2 2"]) := upd_same
    generalize upd H o1 (.lst [.non, .int 5, .ref la, .str "3 2 2"]) = J1 at a1 v1 ⊢
    have pen := pen.same a1
    have tab := tab.ext a1
    have hla := a1 _ _ hla
    obtain ⟨px, hpx⟩ := pen.some
    refine ⟨p, o1, e, _, n, rfl, SqL.of v1, q1, (by show 1 ≤ 4; decide), (by show 4 ≤ 1000; decide), by omega, pen, fun iO vO GO hO bO pen => ?_⟩
    have tab := tabs_but tab bO hpx
    have kO : Kp p GO GO := Kp.of (ExtN.of (Same.refl GO))
    have hla := bO _ _ lap hla
    have v1 := bO _ _ q1 v1
    obtain ⟨px, hpx⟩ := pen.some
    have odO : OddV p GO vO := pick_odd lap hla hO
    refine ⟨_, rfl, madeL2 hla l3 l8 bd fun r JR ring aR nr => ⟨rfl, ?_⟩⟩
    have pen := pen.same aR
    have tab := tab.ext aR
    have kO := kO.trans (Kp.of (ExtN.of aR))
    have hla := aR _ _ hla
    have kR : Kp p JR JR := Kp.of (ExtN.of (Same.refl JR))
    obtain ⟨pxR, hpR⟩ := pen.some
    refine ⟨_, rfl, la, _, rfl, .inl (SqL.of hla), ?_⟩
    rw [List.length_map]
    refine ⟨(by show 3 ≤ sizeLine; decide), fun o2 n2 => ?_⟩
    have a2 : Same JR (upd JR o2 (.tup [vO, .ref r, .int (ls.length : Nat)])) := (Same.refl JR).new n2
    have q2 : o2 ≠ p := pen.ne n2
    have v2 : upd JR o2 (.tup [vO, .ref r, .int (ls.length : Nat)]) o2 = some (.tup [vO, .ref r, .int (ls.length : Nat)]) := upd_same
    generalize upd JR o2 (.tup [vO, .ref r, .int (ls.length : Nat)]) = J2 at a2 v2 ⊢
    have pen := pen.same a2
    have tab := tab.ext a2
    have kO := kO.trans (Kp.of (ExtN.of a2))
    have kR := kR.trans (Kp.of (ExtN.of a2))
    have hla := a2 _ _ hla
    refine ⟨o2, _, rfl, SqT.of v2, rfl, _, _, rfl, _, _, rfl, _, _, rfl, rfl, ?_⟩
    refine ⟨_, rfl, (by show 2 ≤ sizeLine; decide), fun o3 n3 => ?_⟩
    have a3 : Same J2 (upd J2 o3 (.lst [.int 0, .bl true])) := (Same.refl J2).new n3
    have q3 : o3 ≠ p := pen.ne n3
    have v3 : upd J2 o3 (.lst [.int 0, .bl true]) o3 = some (.lst [.int 0, .bl true]) := upd_same
    generalize upd J2 o3 (.lst [.int 0, .bl true]) = J3 at a3 v3 ⊢
    have pen := pen.same a3
    have tab := tab.ext a3
    have kO := kO.trans (Kp.of (ExtN.of a3))
    have kR := kR.trans (Kp.of (ExtN.of a3))
    have hla := a3 _ _ hla
    refine ⟨(by show 1 ≤ sizeLine; decide), fun o4 n4 => ?_⟩
    have a4 : Same J3 (upd J3 o4 (.lst [.non])) := (Same.refl J3).new n4
    have q4 : o4 ≠ p := pen.ne n4
    have v4 : upd J3 o4 (.lst [.non]) o4 = some (.lst [.non]) := upd_same
    generalize upd J3 o4 (.lst [.non]) = J4 at a4 v4 ⊢
    have pen := pen.same a4
    have tab := tab.ext a4
    have kO := kO.trans (Kp.of (ExtN.of a4))
    have kR := kR.trans (Kp.of (ExtN.of a4))
    have hla := a4 _ _ hla
    have v3 := a4 _ _ v3
    refine fun o5 n5 => ?_
    have a5 : Same J4 (upd J4 o5 (.dK [])) := (Same.refl J4).new n5
    have q5 : o5 ≠ p := pen.ne n5
    have v5 : upd J4 o5 (.dK []) o5 = some (.dK []) := upd_same
    generalize upd J4 o5 (.dK []) = J5 at a5 v5 ⊢
    have pen := pen.same a5
    have tab := tab.ext a5
    have kO := kO.trans (Kp.of (ExtN.of a5))
    have kR := kR.trans (Kp.of (ExtN.of a5))
    have hla := a5 _ _ hla
    have v3 := a5 _ _ v3
    have v4 := a5 _ _ v4
    refine ⟨(by show 1 ≤ sizeLine; decide), fun o6 n6 => ?_⟩
    have a6 : Same J5 (upd J5 o6 (.lst [.int 0])) := (Same.refl J5).new n6
    have q6 : o6 ≠ p := pen.ne n6
    have v6 : upd J5 o6 (.lst [.int 0]) o6 = some (.lst [.int 0]) := upd_same
    generalize upd J5 o6 (.lst [.int 0]) = J6 at a6 v6 ⊢
    have pen := pen.same a6
    have tab := tab.ext a6
    have kO := kO.trans (Kp.of (ExtN.of a6))
    have kR := kR.trans (Kp.of (ExtN.of a6))
    have hla := a6 _ _ hla
    have v3 := a6 _ _ v3
    have v4 := a6 _ _ v4
    have v5 := a6 _ _ v5
    refine ⟨(by show 1 ≤ sizeLine; decide), fun o7 n7 => ?_⟩
    have a7 : Same J6 (upd J6 o7 (.lst [.ref o6])) := (Same.refl J6).new n7
    have q7 : o7 ≠ p := pen.ne n7
    have v7 : upd J6 o7 (.lst [.ref o6]) o7 = some (.lst [.ref o6]) := upd_same
    generalize upd J6 o7 (.lst [.ref o6]) = J7 at a7 v7 ⊢
    have pen := pen.same a7
    have tab := tab.ext a7
    have kO := kO.trans (Kp.of (ExtN.of a7))
    have kR := kR.trans (Kp.of (ExtN.of a7))
    have hla := a7 _ _ hla
    have v3 := a7 _ _ v3
    have v4 := a7 _ _ v4
    have v5 := a7 _ _ v5
    have v6 := a7 _ _ v6
    refine ⟨(by show 7 ≤ sizeLine; decide), fun o8 n8 => ?_⟩
    have a8 : Same J7 (upd J7 o8 (.lst [.non, .int 5, .str "01", .ref o3, .ref o4, .ref o5, .ref o7])) := (Same.refl J7).new n8
    have q8 : o8 ≠ p := pen.ne n8
    have v8 : upd J7 o8 (.lst [.non, .int 5, .str "01", .ref o3, .ref o4, .ref o5, .ref o7]) o8 = some (.lst [.non, .int 5, .str "01", .ref o3, .ref o4, .ref o5, .ref o7]) := upd_same
    generalize upd J7 o8 (.lst [.non, .int 5, .str "01", .ref o3, .ref o4, .ref o5, .ref o7]) = J8 at a8 v8 ⊢
    have pen := pen.same a8
    have tab := tab.ext a8
    have kO := kO.trans (Kp.of (ExtN.of a8))
    have kR := kR.trans (Kp.of (ExtN.of a8))
    have hla := a8 _ _ hla
    have v3 := a8 _ _ v3
    have v4 := a8 _ _ v4
    have v5 := a8 _ _ v5
    have v6 := a8 _ _ v6
    have v7 := a8 _ _ v7
    obtain ⟨px, hpx⟩ := pen.some
    refine ⟨p, o8, e, _, n + 1, rfl, SqL.of v8, q8, (by show 1 ≤ 7; decide), (by show 7 ≤ 1000; decide), by omega, pen, fun iN vN GN hN bN pen => ?_⟩
    have tab := tabs_but tab bN hpx
    have kO := kO.trans (Kp.but bN)
    have kR := kR.trans (Kp.but bN)
    have kN : Kp p GN GN := Kp.of (ExtN.of (Same.refl GN))
    have hla := bN _ _ lap hla
    have v3 := bN _ _ q3 v3
    have v4 := bN _ _ q4 v4
    have v5 := bN _ _ q5 v5
    have v6 := bN _ _ q6 v6
    have v7 := bN _ _ q7 v7
    have v8 := bN _ _ q8 v8
    obtain ⟨px, hpx⟩ := pen.some
    have hpN := hpx
    have noN : NoL p GN vN := pick_non q3 v3 q4 v4 v5 q7 v7 q6 v6 hN
    refine ⟨_, rfl, _, rfl, 1, rfl, (by show 1 ≤ sizeLine; decide), fun o9 n9 => ?_⟩
    have a9 : Same GN (upd GN o9 (.lst [.int 0])) := (Same.refl GN).new n9
    have q9 : o9 ≠ p := pen.ne n9
    have v9 : upd GN o9 (.lst [.int 0]) o9 = some (.lst [.int 0]) := upd_same
    generalize upd GN o9 (.lst [.int 0]) = J9 at a9 v9 ⊢
    have pen := pen.same a9
    have tab := tab.ext a9
    have kO := kO.trans (Kp.of (ExtN.of a9))
    have kR := kR.trans (Kp.of (ExtN.of a9))
    have kN := kN.trans (Kp.of (ExtN.of a9))
    have hla := a9 _ _ hla
    refine ⟨_, _, rfl, rfl, ⟨by decide, by decide, by decide⟩, (by show 7 ≤ sizeLine; decide), fun o10 n10 => ?_⟩
    have a10 : Same J9 (upd J9 o10 (.lst [.int (ls.length : Nat), .int (-1), .non, .bl true, .str "0", .ref o9, .int (10 ^ Int.toNat 30)])) := (Same.refl J9).new n10
    have q10 : o10 ≠ p := pen.ne n10
    have v10 : upd J9 o10 (.lst [.int (ls.length : Nat), .int (-1), .non, .bl true, .str "0", .ref o9, .int (10 ^ Int.toNat 30)]) o10 = some (.lst [.int (ls.length : Nat), .int (-1), .non, .bl true, .str "0", .ref o9, .int (10 ^ Int.toNat 30)]) := upd_same
    generalize upd J9 o10 (.lst [.int (ls.length : Nat), .int (-1), .non, .bl true, .str "0", .ref o9, .int (10 ^ Int.toNat 30)]) = J10 at a10 v10 ⊢
    have pen := pen.same a10
    have tab := tab.ext a10
    have kO := kO.trans (Kp.of (ExtN.of a10))
    have kR := kR.trans (Kp.of (ExtN.of a10))
    have kN := kN.trans (Kp.of (ExtN.of a10))
    have hla := a10 _ _ hla
    have v9 := a10 _ _ v9
    obtain ⟨px, hpx⟩ := pen.some
    refine ⟨p, o10, e, _, n + 2, rfl, SqL.of v10, q10, (by show 1 ≤ 7; decide), (by show 7 ≤ 1000; decide), by omega, pen, fun iB vB GB hB bB pen => ?_⟩
    have tab := tabs_but tab bB hpx
    have kO := kO.trans (Kp.but bB)
    have kR := kR.trans (Kp.but bB)
    have kN := kN.trans (Kp.but bB)
    have kB : Kp p GB GB := Kp.of (ExtN.of (Same.refl GB))
    have hla := bB _ _ lap hla
    have v9 := bB _ _ q9 v9
    have v10 := bB _ _ q10 v10
    obtain ⟨px, hpx⟩ := pen.some
    obtain ⟨yB, baB, hy⟩ : ∃ y, NoB p (ls.length : Nat) GB vB y ∧ PyData.strOk y = true := pick_bad (by omega) (by omega) (by decide) (by decide +kernel) (by decide +kernel) q9 v9 hB
    refine ⟨(by show 2 ≤ sizeLine; decide), fun o11 n11 => ?_⟩
    have a11 : Same GB (upd GB o11 (.tup [vN, vB])) := (Same.refl GB).new n11
    have q11 : o11 ≠ p := pen.ne n11
    have v11 : upd GB o11 (.tup [vN, vB]) o11 = some (.tup [vN, vB]) := upd_same
    generalize upd GB o11 (.tup [vN, vB]) = J11 at a11 v11 ⊢
    have pen := pen.same a11
    have tab := tab.ext a11
    have kO := kO.trans (Kp.of (ExtN.of a11))
    have kR := kR.trans (Kp.of (ExtN.of a11))
    have kN := kN.trans (Kp.of (ExtN.of a11))
    have kB := kB.trans (Kp.of (ExtN.of a11))
    have hla := a11 _ _ hla
    refine ⟨o11, _, rfl, SqT.of v11, rfl, _, _, rfl, _, _, rfl, rfl, ?_⟩
    obtain ⟨px, hpx⟩ := pen.some
    have F : RowF K C p (ls.length : Nat) r ls vO vN vB yB J11 := ⟨by omega, by omega, ring.kp kR hpR, rfl, bd, odO.kp kO, noN.kp kN hpN, baB.kp kB⟩
    refine ⟨tab, fun f0 c0 M0 x0 tab nf0 hf0 hc0 => ?_⟩
    have hf0 : M0 f0 = some (LamC f0 qRf (rowL K C hc 0).ar (rowL K C hc 0).bo (rowL K C hc 0).sco (cloFrom (cellsOf A s f cd) (rowL K C hc 0).sco.names []) c0) := hf0
    refine ⟨(by show 2 ≤ sizeLine; decide), fun d0 nd0 => ?_⟩
    have y0 : Same M0 (upd M0 d0 (.tup [.str "ring", .str ("ring")])) := (Same.refl M0).new nd0
    have hd0 : upd M0 d0 (.tup [.str "ring", .str ("ring")]) d0 = some (.tup [.str (dueR (ls.length : Nat) yB 0).1, .str (dueR (ls.length : Nat) yB 0).2]) := upd_same
    generalize upd M0 d0 (.tup [.str "ring", .str ("ring")]) = D0 at y0 hd0 ⊢
    have hf0 := y0 _ _ hf0
    have hc0 := y0 _ _ hc0
    have tab := tab.ext y0
    have x0 := x0.trans (ExtN.of y0)
    refine ⟨(by show 2 ≤ sizeLine; decide), fun b0 nb0 => ?_⟩
    have z0 : Same D0 (upd D0 b0 (.tup [.ref f0, .ref d0])) := (Same.refl D0).new nb0
    have hb0 : upd D0 b0 (.tup [.ref f0, .ref d0]) b0 = some (.tup [.ref f0, .ref d0]) := upd_same
    generalize upd D0 b0 (.tup [.ref f0, .ref d0]) = B0 at z0 hb0 ⊢
    have hf0 := z0 _ _ hf0
    have hc0 := z0 _ _ hc0
    have tab := tab.ext z0
    have x0 := x0.trans (ExtN.of z0)
    have hd0 := z0 _ _ hd0
    have hw0 : DueAt (ls.length : Nat) yB 0 B0 (.ref d0) := ⟨d0, rfl, hd0⟩
    refine ⟨(by show 1 ≤ sizeLine; decide), fun D nD => ?_⟩
    have F := F.ext x0 hpx
    have hpx := x0 _ _ hpx (fun _ z => nomatch z)
    have xG : ExtN B0 (upd B0 D (.lst [.ref b0])) := ExtN.of ((Same.refl B0).new nD)
    have ts : RS qRf (cellsOf A s f cd) (rowL K C hc) (ls.length : Nat) yB D [.ref b0] [0] (upd B0 D (.lst [.ref b0])) := ⟨upd_same, .cons (RowQ.ext ⟨b0, f0, c0, _, rfl, hb0, hf0, hc0, hw0⟩ xG) .nil⟩
    have tab := tab.ext ((Same.refl B0).new nD (o := .lst [.ref b0]))
    generalize upd B0 D (.lst [.ref b0]) = G0 at xG ts tab ⊢
    refine ⟨_, rfl, .inl ⟨rfl, _, SqL.of ts.1⟩, tab, fun f1 c1 M1 x1 tab nf1 hf1 hc1 => ?_⟩
    have hf1 : M1 f1 = some (LamC f1 qRf (rowL K C hc 1).ar (rowL K C hc 1).bo (rowL K C hc 1).sco (cloFrom (cellsOf A s f cd) (rowL K C hc 1).sco.names []) c1) := hf1
    refine ⟨(by show 2 ≤ sizeLine; decide), fun d1 nd1 => ?_⟩
    have y1 : Same M1 (upd M1 d1 (.tup [.str "lot", .str ("lot")])) := (Same.refl M1).new nd1
    have hd1 : upd M1 d1 (.tup [.str "lot", .str ("lot")]) d1 = some (.tup [.str (dueR (ls.length : Nat) yB 1).1, .str (dueR (ls.length : Nat) yB 1).2]) := upd_same
    generalize upd M1 d1 (.tup [.str "lot", .str ("lot")]) = D1 at y1 hd1 ⊢
    have hf1 := y1 _ _ hf1
    have hc1 := y1 _ _ hc1
    have tab := tab.ext y1
    have x1 := x1.trans (ExtN.of y1)
    refine ⟨(by show 2 ≤ sizeLine; decide), fun b1 nb1 => ?_⟩
    have z1 : Same D1 (upd D1 b1 (.tup [.ref f1, .ref d1])) := (Same.refl D1).new nb1
    have hb1 : upd D1 b1 (.tup [.ref f1, .ref d1]) b1 = some (.tup [.ref f1, .ref d1]) := upd_same
    generalize upd D1 b1 (.tup [.ref f1, .ref d1]) = B1 at z1 hb1 ⊢
    have hf1 := z1 _ _ hf1
    have hc1 := z1 _ _ hc1
    have tab := tab.ext z1
    have x1 := x1.trans (ExtN.of z1)
    have hd1 := z1 _ _ hd1
    have hw1 : DueAt (ls.length : Nat) yB 1 B1 (.ref d1) := ⟨d1, rfl, hd1⟩
    have hD1 := x1 _ _ ts.1 (fun _ z => nomatch z)
    obtain ⟨xG, tab, ts⟩ := row_push xG nD ts x1 tab hb1 hf1 hc1 hw1
    refine ⟨D, _, _, rfl, rfl, hD1, (by show 1 < sizeLine; decide), ?_⟩
    generalize upd B1 D (.lst ([.ref b0] ++ [.ref b1])) = G1 at xG ts tab ⊢
    refine ⟨_, rfl, .inl ⟨rfl, _, SqL.of ts.1⟩, tab, fun f2 c2 M2 x2 tab nf2 hf2 hc2 => ?_⟩
    have hf2 : M2 f2 = some (LamC f2 qRf (rowL K C hc 2).ar (rowL K C hc 2).bo (rowL K C hc 2).sco (cloFrom (cellsOf A s f cd) (rowL K C hc 2).sco.names []) c2) := hf2
    refine ⟨_, rfl, _, _, rfl, rfl, .int (((ls.length : Nat) : Int) + 2), toString (((ls.length : Nat) : Int) + 2), rfl, shows_int (log_small (by omega) (by omega)), (by show 2 ≤ sizeLine; decide), fun d2 nd2 => ?_⟩
    have y2 : Same M2 (upd M2 d2 (.tup [.str "bar", .str (toString (((ls.length : Nat) : Int) + 2))])) := (Same.refl M2).new nd2
    have hd2 : upd M2 d2 (.tup [.str "bar", .str (toString (((ls.length : Nat) : Int) + 2))]) d2 = some (.tup [.str (dueR (ls.length : Nat) yB 2).1, .str (dueR (ls.length : Nat) yB 2).2]) := upd_same
    generalize upd M2 d2 (.tup [.str "bar", .str (toString (((ls.length : Nat) : Int) + 2))]) = D2 at y2 hd2 ⊢
    have hf2 := y2 _ _ hf2
    have hc2 := y2 _ _ hc2
    have tab := tab.ext y2
    have x2 := x2.trans (ExtN.of y2)
    refine ⟨(by show 2 ≤ sizeLine; decide), fun b2 nb2 => ?_⟩
    have z2 : Same D2 (upd D2 b2 (.tup [.ref f2, .ref d2])) := (Same.refl D2).new nb2
    have hb2 : upd D2 b2 (.tup [.ref f2, .ref d2]) b2 = some (.tup [.ref f2, .ref d2]) := upd_same
    generalize upd D2 b2 (.tup [.ref f2, .ref d2]) = B2 at z2 hb2 ⊢
    have hf2 := z2 _ _ hf2
    have hc2 := z2 _ _ hc2
    have tab := tab.ext z2
    have x2 := x2.trans (ExtN.of z2)
    have hd2 := z2 _ _ hd2
    have hw2 : DueAt (ls.length : Nat) yB 2 B2 (.ref d2) := ⟨d2, rfl, hd2⟩
    have hD2 := x2 _ _ ts.1 (fun _ z => nomatch z)
    obtain ⟨xG, tab, ts⟩ := row_push xG nD ts x2 tab hb2 hf2 hc2 hw2
    refine ⟨D, _, _, rfl, rfl, hD2, (by show 2 < sizeLine; decide), ?_⟩
    generalize upd B2 D (.lst (([.ref b0] ++ [.ref b1]) ++ [.ref b2])) = G2 at xG ts tab ⊢
    refine ⟨_, rfl, .inl ⟨rfl, _, SqL.of ts.1⟩, tab, fun f3 c3 M3 x3 tab nf3 hf3 hc3 => ?_⟩
    have hf3 : M3 f3 = some (LamC f3 qRf (rowL K C hc 3).ar (rowL K C hc 3).bo (rowL K C hc 3).sco (cloFrom (cellsOf A s f cd) (rowL K C hc 3).sco.names []) c3) := hf3
    refine ⟨(by show 2 ≤ sizeLine; decide), fun d3 nd3 => ?_⟩
    have y3 : Same M3 (upd M3 d3 (.tup [.str "bar", .str ("-1")])) := (Same.refl M3).new nd3
    have hd3 : upd M3 d3 (.tup [.str "bar", .str ("-1")]) d3 = some (.tup [.str (dueR (ls.length : Nat) yB 3).1, .str (dueR (ls.length : Nat) yB 3).2]) := by rw [upd_same, due3]
    generalize upd M3 d3 (.tup [.str "bar", .str ("-1")]) = D3 at y3 hd3 ⊢
    have hf3 := y3 _ _ hf3
    have hc3 := y3 _ _ hc3
    have tab := tab.ext y3
    have x3 := x3.trans (ExtN.of y3)
    refine ⟨(by show 2 ≤ sizeLine; decide), fun b3 nb3 => ?_⟩
    have z3 : Same D3 (upd D3 b3 (.tup [.ref f3, .ref d3])) := (Same.refl D3).new nb3
    have hb3 : upd D3 b3 (.tup [.ref f3, .ref d3]) b3 = some (.tup [.ref f3, .ref d3]) := upd_same
    generalize upd D3 b3 (.tup [.ref f3, .ref d3]) = B3 at z3 hb3 ⊢
    have hf3 := z3 _ _ hf3
    have hc3 := z3 _ _ hc3
    have tab := tab.ext z3
    have x3 := x3.trans (ExtN.of z3)
    have hd3 := z3 _ _ hd3
    have hw3 : DueAt (ls.length : Nat) yB 3 B3 (.ref d3) := ⟨d3, rfl, hd3⟩
    have hD3 := x3 _ _ ts.1 (fun _ z => nomatch z)
    obtain ⟨xG, tab, ts⟩ := row_push xG nD ts x3 tab hb3 hf3 hc3 hw3
    refine ⟨D, _, _, rfl, rfl, hD3, (by show 3 < sizeLine; decide), ?_⟩
    generalize upd B3 D (.lst ((([.ref b0] ++ [.ref b1]) ++ [.ref b2]) ++ [.ref b3])) = G3 at xG ts tab ⊢
    refine ⟨_, rfl, .inl ⟨rfl, _, SqL.of ts.1⟩, tab, fun f4 c4 M4 x4 tab nf4 hf4 hc4 => ?_⟩
    have hf4 : M4 f4 = some (LamC f4 qRf (rowL K C hc 4).ar (rowL K C hc 4).bo (rowL K C hc 4).sco (cloFrom (cellsOf A s f cd) (rowL K C hc 4).sco.names []) c4) := hf4
    refine ⟨(by show 2 ≤ sizeLine; decide), fun d4 nd4 => ?_⟩
    have y4 : Same M4 (upd M4 d4 (.tup [.str "twice", .str ("0")])) := (Same.refl M4).new nd4
    have hd4 : upd M4 d4 (.tup [.str "twice", .str ("0")]) d4 = some (.tup [.str (dueR (ls.length : Nat) yB 4).1, .str (dueR (ls.length : Nat) yB 4).2]) := by rw [upd_same, due4]
    generalize upd M4 d4 (.tup [.str "twice", .str ("0")]) = D4 at y4 hd4 ⊢
    have hf4 := y4 _ _ hf4
    have hc4 := y4 _ _ hc4
    have tab := tab.ext y4
    have x4 := x4.trans (ExtN.of y4)
    refine ⟨(by show 2 ≤ sizeLine; decide), fun b4 nb4 => ?_⟩
    have z4 : Same D4 (upd D4 b4 (.tup [.ref f4, .ref d4])) := (Same.refl D4).new nb4
    have hb4 : upd D4 b4 (.tup [.ref f4, .ref d4]) b4 = some (.tup [.ref f4, .ref d4]) := upd_same
    generalize upd D4 b4 (.tup [.ref f4, .ref d4]) = B4 at z4 hb4 ⊢
    have hf4 := z4 _ _ hf4
    have hc4 := z4 _ _ hc4
    have tab := tab.ext z4
    have x4 := x4.trans (ExtN.of z4)
    have hd4 := z4 _ _ hd4
    have hw4 : DueAt (ls.length : Nat) yB 4 B4 (.ref d4) := ⟨d4, rfl, hd4⟩
    have hD4 := x4 _ _ ts.1 (fun _ z => nomatch z)
    obtain ⟨xG, tab, ts⟩ := row_push xG nD ts x4 tab hb4 hf4 hc4 hw4
    refine ⟨D, _, _, rfl, rfl, hD4, (by show 4 < sizeLine; decide), ?_⟩
    generalize upd B4 D (.lst (((([.ref b0] ++ [.ref b1]) ++ [.ref b2]) ++ [.ref b3]) ++ [.ref b4])) = G4 at xG ts tab ⊢
    refine ⟨_, rfl, .inl ⟨rfl, _, SqL.of ts.1⟩, tab, fun f5 c5 M5 x5 tab nf5 hf5 hc5 => ?_⟩
    have hf5 : M5 f5 = some (LamC f5 qRf (rowL K C hc 5).ar (rowL K C hc 5).bo (rowL K C hc 5).sco (cloFrom (cellsOf A s f cd) (rowL K C hc 5).sco.names []) c5) := hf5
    refine ⟨(by show 2 ≤ sizeLine; decide), fun d5 nd5 => ?_⟩
    have y5 : Same M5 (upd M5 d5 (.tup [.str "ring", .str ("ring")])) := (Same.refl M5).new nd5
    have hd5 : upd M5 d5 (.tup [.str "ring", .str ("ring")]) d5 = some (.tup [.str (dueR (ls.length : Nat) yB 5).1, .str (dueR (ls.length : Nat) yB 5).2]) := upd_same
    generalize upd M5 d5 (.tup [.str "ring", .str ("ring")]) = D5 at y5 hd5 ⊢
    have hf5 := y5 _ _ hf5
    have hc5 := y5 _ _ hc5
    have tab := tab.ext y5
    have x5 := x5.trans (ExtN.of y5)
    refine ⟨(by show 2 ≤ sizeLine; decide), fun b5 nb5 => ?_⟩
    have z5 : Same D5 (upd D5 b5 (.tup [.ref f5, .ref d5])) := (Same.refl D5).new nb5
    have hb5 : upd D5 b5 (.tup [.ref f5, .ref d5]) b5 = some (.tup [.ref f5, .ref d5]) := upd_same
    generalize upd D5 b5 (.tup [.ref f5, .ref d5]) = B5 at z5 hb5 ⊢
    have hf5 := z5 _ _ hf5
    have hc5 := z5 _ _ hc5
    have tab := tab.ext z5
    have x5 := x5.trans (ExtN.of z5)
    have hd5 := z5 _ _ hd5
    have hw5 : DueAt (ls.length : Nat) yB 5 B5 (.ref d5) := ⟨d5, rfl, hd5⟩
    have hD5 := x5 _ _ ts.1 (fun _ z => nomatch z)
    obtain ⟨xG, tab, ts⟩ := row_push xG nD ts x5 tab hb5 hf5 hc5 hw5
    refine ⟨D, _, _, rfl, rfl, hD5, (by show 5 < sizeLine; decide), ?_⟩
    generalize upd B5 D (.lst ((((([.ref b0] ++ [.ref b1]) ++ [.ref b2]) ++ [.ref b3]) ++ [.ref b4]) ++ [.ref b5])) = G5 at xG ts tab ⊢
    refine ⟨_, rfl, .inl ⟨rfl, _, SqL.of ts.1⟩, tab, fun f6 c6 M6 x6 tab nf6 hf6 hc6 => ?_⟩
    have hf6 : M6 f6 = some (LamC f6 qRf (rowL K C hc 6).ar (rowL K C hc 6).bo (rowL K C hc 6).sco (cloFrom (cellsOf A s f cd) (rowL K C hc 6).sco.names []) c6) := hf6
    refine ⟨_, rfl, vB, yB, rfl, (F.bad.kp (Kp.of (xG.trans x6))).shows, (by show 2 ≤ sizeLine; decide), fun d6 nd6 => ?_⟩
    have y6 : Same M6 (upd M6 d6 (.tup [.str "bar", .str yB])) := (Same.refl M6).new nd6
    have hd6 : upd M6 d6 (.tup [.str "bar", .str yB]) d6 = some (.tup [.str (dueR (ls.length : Nat) yB 6).1, .str (dueR (ls.length : Nat) yB 6).2]) := upd_same
    generalize upd M6 d6 (.tup [.str "bar", .str yB]) = D6 at y6 hd6 ⊢
    have hf6 := y6 _ _ hf6
    have hc6 := y6 _ _ hc6
    have tab := tab.ext y6
    have x6 := x6.trans (ExtN.of y6)
    refine ⟨(by show 2 ≤ sizeLine; decide), fun b6 nb6 => ?_⟩
    have z6 : Same D6 (upd D6 b6 (.tup [.ref f6, .ref d6])) := (Same.refl D6).new nb6
    have hb6 : upd D6 b6 (.tup [.ref f6, .ref d6]) b6 = some (.tup [.ref f6, .ref d6]) := upd_same
    generalize upd D6 b6 (.tup [.ref f6, .ref d6]) = B6 at z6 hb6 ⊢
    have hf6 := z6 _ _ hf6
    have hc6 := z6 _ _ hc6
    have tab := tab.ext z6
    have x6 := x6.trans (ExtN.of z6)
    have hd6 := z6 _ _ hd6
    have hw6 : DueAt (ls.length : Nat) yB 6 B6 (.ref d6) := ⟨d6, rfl, hd6⟩
    have hD6 := x6 _ _ ts.1 (fun _ z => nomatch z)
    obtain ⟨xG, tab, ts⟩ := row_push xG nD ts x6 tab hb6 hf6 hc6 hw6
    refine ⟨D, _, _, rfl, rfl, hD6, (by show 6 < sizeLine; decide), ?_⟩
    generalize upd B6 D (.lst (((((([.ref b0] ++ [.ref b1]) ++ [.ref b2]) ++ [.ref b3]) ++ [.ref b4]) ++ [.ref b5]) ++ [.ref b6])) = G6 at xG ts tab ⊢
    refine ⟨_, rfl, .inl ⟨rfl, _, SqL.of ts.1⟩, tab, fun f7 c7 M7 x7 tab nf7 hf7 hc7 => ?_⟩
    have hf7 : M7 f7 = some (LamC f7 qRf (rowL K C hc 7).ar (rowL K C hc 7).bo (rowL K C hc 7).sco (cloFrom (cellsOf A s f cd) (rowL K C hc 7).sco.names []) c7) := hf7
    refine ⟨_, rfl, vB, yB, rfl, (F.bad.kp (Kp.of (xG.trans x7))).shows, (by show 2 ≤ sizeLine; decide), fun d7 nd7 => ?_⟩
    have y7 : Same M7 (upd M7 d7 (.tup [.str "bar", .str yB])) := (Same.refl M7).new nd7
    have hd7 : upd M7 d7 (.tup [.str "bar", .str yB]) d7 = some (.tup [.str (dueR (ls.length : Nat) yB 7).1, .str (dueR (ls.length : Nat) yB 7).2]) := upd_same
    generalize upd M7 d7 (.tup [.str "bar", .str yB]) = D7 at y7 hd7 ⊢
    have hf7 := y7 _ _ hf7
    have hc7 := y7 _ _ hc7
    have tab := tab.ext y7
    have x7 := x7.trans (ExtN.of y7)
    refine ⟨(by show 2 ≤ sizeLine; decide), fun b7 nb7 => ?_⟩
    have z7 : Same D7 (upd D7 b7 (.tup [.ref f7, .ref d7])) := (Same.refl D7).new nb7
    have hb7 : upd D7 b7 (.tup [.ref f7, .ref d7]) b7 = some (.tup [.ref f7, .ref d7]) := upd_same
    generalize upd D7 b7 (.tup [.ref f7, .ref d7]) = B7 at z7 hb7 ⊢
    have hf7 := z7 _ _ hf7
    have hc7 := z7 _ _ hc7
    have tab := tab.ext z7
    have x7 := x7.trans (ExtN.of z7)
    have hd7 := z7 _ _ hd7
    have hw7 : DueAt (ls.length : Nat) yB 7 B7 (.ref d7) := ⟨d7, rfl, hd7⟩
    have hD7 := x7 _ _ ts.1 (fun _ z => nomatch z)
    obtain ⟨xG, tab, ts⟩ := row_push xG nD ts x7 tab hb7 hf7 hc7 hw7
    refine ⟨D, _, _, rfl, rfl, hD7, (by show 7 < sizeLine; decide), ?_⟩
    generalize upd B7 D (.lst ((((((([.ref b0] ++ [.ref b1]) ++ [.ref b2]) ++ [.ref b3]) ++ [.ref b4]) ++ [.ref b5]) ++ [.ref b6]) ++ [.ref b7])) = G7 at xG ts tab ⊢
    refine ⟨_, rfl, .inl ⟨rfl, _, SqL.of ts.1⟩, tab, fun f8 c8 M8 x8 tab nf8 hf8 hc8 => ?_⟩
    have hf8 : M8 f8 = some (LamC f8 qRf (rowL K C hc 8).ar (rowL K C hc 8).bo (rowL K C hc 8).sco (cloFrom (cellsOf A s f cd) (rowL K C hc 8).sco.names []) c8) := hf8
    refine ⟨(by show 2 ≤ sizeLine; decide), fun d8 nd8 => ?_⟩
    have y8 : Same M8 (upd M8 d8 (.tup [.str "twice", .str ("2")])) := (Same.refl M8).new nd8
    have hd8 : upd M8 d8 (.tup [.str "twice", .str ("2")]) d8 = some (.tup [.str (dueR (ls.length : Nat) yB 8).1, .str (dueR (ls.length : Nat) yB 8).2]) := by rw [upd_same, due8]
    generalize upd M8 d8 (.tup [.str "twice", .str ("2")]) = D8 at y8 hd8 ⊢
    have hf8 := y8 _ _ hf8
    have hc8 := y8 _ _ hc8
    have tab := tab.ext y8
    have x8 := x8.trans (ExtN.of y8)
    refine ⟨(by show 2 ≤ sizeLine; decide), fun b8 nb8 => ?_⟩
    have z8 : Same D8 (upd D8 b8 (.tup [.ref f8, .ref d8])) := (Same.refl D8).new nb8
    have hb8 : upd D8 b8 (.tup [.ref f8, .ref d8]) b8 = some (.tup [.ref f8, .ref d8]) := upd_same
    generalize upd D8 b8 (.tup [.ref f8, .ref d8]) = B8 at z8 hb8 ⊢
    have hf8 := z8 _ _ hf8
    have hc8 := z8 _ _ hc8
    have tab := tab.ext z8
    have x8 := x8.trans (ExtN.of z8)
    have hd8 := z8 _ _ hd8
    have hw8 : DueAt (ls.length : Nat) yB 8 B8 (.ref d8) := ⟨d8, rfl, hd8⟩
    have hD8 := x8 _ _ ts.1 (fun _ z => nomatch z)
    obtain ⟨xG, tab, ts⟩ := row_push xG nD ts x8 tab hb8 hf8 hc8 hw8
    refine ⟨D, _, _, rfl, rfl, hD8, (by show 8 < sizeLine; decide), ?_⟩
    generalize upd B8 D (.lst (((((((([.ref b0] ++ [.ref b1]) ++ [.ref b2]) ++ [.ref b3]) ++ [.ref b4]) ++ [.ref b5]) ++ [.ref b6]) ++ [.ref b7]) ++ [.ref b8])) = G8 at xG ts tab ⊢
    have F := F.ext xG hpx
    have hpx := xG _ _ hpx (fun _ z => nomatch z)
    generalize (((((((([V.ref b0] ++ [V.ref b1]) ++ [V.ref b2]) ++ [V.ref b3]) ++ [V.ref b4]) ++ [V.ref b5]) ++ [V.ref b6]) ++ [V.ref b7]) ++ [V.ref b8]) = us at ts
    refine ⟨_, rfl, D, rfl, ⟨us, SqL.of ts.1⟩, fun DD hDD => ?_⟩
    have fr : ExtN G8 (upd G8 DD (.lst [])) := ExtN.of ((Same.refl G8).new hDD)
    refine lc_list (K := K) (a := D) (xs := us) (fun i H' => ExtN G8 H' ∧ H' DD = some (.lst [])) ⟨fr, upd_same⟩ (fun i H' _ z => SqL.of (z.1 _ _ ts.1 (fun _ z => nomatch z))) ?_ ?_
    · rintro i x Hx hx ⟨xx, hdd⟩
      obtain ⟨j, hj, b, f', c', w, rfl, hb, hf, hc', hw⟩ := par_get (par_imp (fun _ _ z => z.ext xx) ts.2) hx
      have lt : j < 9 := by
        have := List.mem_of_getElem? hj
        simp only [List.cons_append, List.nil_append, List.mem_cons, List.not_mem_nil, or_false] at this
        omega
      have Fx := F.ext xx hpx
      refine ⟨b, _, rfl, SqT.of hb, rfl, _, _, rfl, _, _, rfl, rfl, rfl, ?_⟩
      refine ⟨j, f', c', lt, rfl, hf, hc', fun R => ⟨hf, (row_reads Fx KC rfl rfl rfl rfl rfl j lt (DueQ.mono (fun v H z => ⟨_, rfl, z⟩) (due_ok Fx.m0 Fx.m1 hy (fun H2 s => ⟨false, rfl, xx.trans s, s _ _ hdd (fun _ z => nomatch z)⟩) j hw)) R).2⟩⟩
    · rintro Hx ⟨xx, hdd⟩
      refine ⟨(by show 0 ≤ sizeLine; decide), fun e0 ne0 => ?_⟩
      have se : Same Hx (upd Hx e0 (.lst [])) := (Same.refl Hx).new ne0
      exact ⟨DD, e0, [], rfl, rfl, SqL.of (se _ _ hdd), SqL.of upd_same, q _⟩
end
end K
namespace L2
open PySem PySem.Spec PyProof.Rows Rg
variable {P : Program} {w : World} {K : PySem.W.Frag} {mg : Str → Option Value} {base : Heap}
theorem Fun.okG {x qual : Str} {st : Stmt} {f : Addr} {fd : FuncData} {N ps : List Str} {k : Nat} {sp : Sp} (F : Fun K x qual st f fd) (S : FnScope N ps (defScope st)) (len : ∀ vs H Q E, sp vs H Q E → vs.length = ps.length)
    (hbody : ∀ (cdv : Value) (A : Around) (outer : List Env) (s : Shared) (H : Hp) (vs : List V) (Q : VK) (E : XK), A.guards = some [] → Room k (A.deeper (envOfC qual (defScope st) s.heap.objs.size f cdv)) → sp vs H Q E →
      ∃ t, PSs (cxOf CX0 P w K mg base N qual (defScope st) f cdv A outer s H E).nox (defBody st) t ∧ t { nx := fun _ H' => Q .non H', rt := Q } (start N vs) H) : FnG P w K mg base CX0 (k + 1) f fd ps sp := by
  obtain ⟨oc, od, kV, doc, pm, an, cdv, ct, osl, rfl, lk, hcd⟩ := F.ex
  refine fn_ofG lk hcd S len fun A outer s H vs Q E ga hr hsp => ?_
  obtain ⟨t, h, q⟩ := hbody cdv A outer s H vs Q E ga hr hsp
  exact ⟨t, h.nox, q⟩
end L2
namespace K
open PySem L2 Rg LamX
open Evl (pss_cut)
section
variable {P : Program} {w : World} {K : PySem.W.Frag} {mg : Str → Option Value} {base : Heap}
/-! ### the law -/
abbrev nLW : List Str := ["_law_script", "_law_bench_here", "_law_turn", "_law_lengths_here"]
theorem scLaw : FnScope nLW ["_law_script"] (defScope sLaw) := ⟨rfl, rfl, rfl, by decide +kernel, rfl, by decide +kernel, by decide +kernel⟩
def spLaw (K : PySem.W.Frag) (T : List (Addr × Str)) : Sp := fun vs H Q _ => ∃ (a : Addr) (ns : List Int), vs = [.ref a] ∧ SqL K H a (ns.map V.int) ∧ ns.length ≤ 63 ∧ Tabs T H ∧ ∀ H', Q (.bl true) H'
theorem ok_law {P1 f fP fLn fK fPR fAR fRR : Addr} {fd fdP fdLn fdK fdPR fdAR fdRR : FuncData} (F : Fun K "law" "law" sLaw f fd) (T : Bi mg)
    (PN : DefAt P w K mg base CX0 2 "_law_bench" ["_law_script"] (spPen K) fP fdP) (LN : DefAt P w K mg base CX0 3 "_law_lengths" ["_law_bench_here", "_law_many"] (spLengths K) fLn fdLn) (PK : DefAt P w K mg base CX0 3 "_law_pick" ["_law_bench_here", "_law_some"] (spPick K) fK fdK)
    (PR : DefAt P w K mg base CX0 10 "_law_points_right" ["_law_bench_here", "_law_lengths_here"] (spPTS K) fPR fdPR) (AR : DefAt P w K mg base CX0 10 "_law_against_right" ["_law_bench_here", "_law_lengths_here"] (spAGR K) fAR fdAR)
    (RR : DefAtG P w K mg base CX0 14 "_law_refused_right" ["_law_bench_here", "_law_lengths_here"] (spRR K (T1 P1)) fRR fdRR) :
    FnG P w K mg base CX0 15 f fd ["_law_script"] (spLaw K (T1 P1)) := by
  refine F.okG scLaw (fun vs H Q E h => ?_) (fun cdv A outer s H vs Q E ga hr h => ?_)
  · obtain ⟨a, ns, rfl, _⟩ := h
    rfl
  · have nd := scLaw.nd
    have gX : (A.deeper (PyProof.Rows.envOfC "law" (defScope sLaw) s.heap.objs.size f cdv)).guards = some [] := ga
    refine ⟨_, (pss_cons (ps_set (i := 1) nd rfl (Or.inl rfl) (pe_call PN.ok (hr.mono (by decide)) rfl PN.g PN.kp PN.b .nil pass0 (pa_cons (pv 0) pa_nil)))
      (pss_cons (ps_for PassesOwn.never rfl (pi_range1 (by rfl) T.range (pa_cons pe_int pa_nil)) (pg_name (i := 2) nd rfl (Or.inl rfl))
        (pss_cons (ps_set (i := 3) nd rfl (Or.inl rfl) (pe_call LN.ok (hr.mono (by decide)) rfl LN.g LN.kp LN.b .nil pass0 (pa_cons (pv 1) (pa_cons (pe_call PK.ok (hr.mono (by decide)) rfl PK.g PK.kp PK.b .nil pass0 (pa_cons (pv 1) (pa_cons (pe_lst (pa_cons pe_int (pa_cons pe_int (pa_cons pe_int (pa_cons pe_int (pa_cons pe_int (pa_cons pe_int (pa_cons pe_int pa_nil)))))))) pa_nil))) pa_nil))))
        (pss_one (ps_if (PW.pt (pw_or (pt_not (pt_val (pe_call PR.ok (hr.mono (by decide)) rfl PR.g PR.kp PR.b .nil pass0 (pa_cons (pv 1) (pa_cons (pv 3) pa_nil))))) (pw_or1 (pt_not (pt_val (pe_call AR.ok (hr.mono (by decide)) rfl AR.g AR.kp AR.b .nil pass0 (pa_cons (pv 1) (pa_cons (pv 3) pa_nil)))))))) (pss_one ps_never) pss_nil))))
      (pss_one (ps_ret (pe_callG RR.ok gX (hr.mono (by decide)) rfl RR.g RR.kp RR.b .nil pass0 (pa_cons (pv 1) (pa_cons (pv 3) pa_nil))))))), ?_⟩
    obtain ⟨a, ns, rfl, hs, hl, tab, q⟩ := h
    refine ⟨_, rfl, a, ns, rfl, hs, hl, fun p e H1 s1 np pen1 => ?_⟩
    have tab1 := tab.ext s1
    refine ⟨_, rfl, by decide, by decide, ?_⟩
    refine for_range (lo := 0) (n := (2 : Int).toNat) (fun i σ H' => PenAt K H' p e (i * 400) ∧ Tabs (T1 P1) H' ∧ ∃ z2 z3 : Option V, σ = [some (.ref a), some (.ref p), z2, z3] ∧ (0 < i → ∃ (la : Addr) (ls : List Int), z3 = some (.ref la) ∧ H' la = some (.lst (ls.map V.int)) ∧ la ≠ p ∧ 3 ≤ ls.length ∧ ls.length ≤ 8 ∧ Bd 1000000 ls))
      ⟨by simpa using pen1, tab1, _, _, rfl, fun z => absurd z (Nat.lt_irrefl _)⟩ ?_ ?_
    · rintro i σ H1 hi ⟨pen1, tab1, z2, z3, rfl, _⟩
      have hi2 : i < 2 := hi
      refine ⟨_, rfl, _, rfl, (by show 7 ≤ sizeLine; decide), fun u nu => ?_⟩
      have npu := pen1.ne nu
      have s2 : Same H1 (upd H1 u (.lst [.int 3, .int 4, .int 5, .int 6, .int 6, .int 7, .int 8])) := (Same.refl H1).new nu
      have hu : upd H1 u (.lst [.int 3, .int 4, .int 5, .int 6, .int 6, .int 7, .int 8]) u = some (.lst [.int 3, .int 4, .int 5, .int 6, .int 6, .int 7, .int 8]) := upd_same
      generalize upd H1 u (.lst [.int 3, .int 4, .int 5, .int 6, .int 6, .int 7, .int 8]) = H2 at s2 hu ⊢
      have pen2 := pen1.same s2
      refine ⟨p, u, e, _, _, rfl, SqL.of hu, npu, (by show 1 ≤ 7; decide), (by show 7 ≤ 1000; decide), by omega, pen2, fun i0 v0 H3 hv0 b3 pen3 => ?_⟩
      obtain ⟨px2, hp2⟩ := pen2.some
      have tab3 := tabs_but (tab1.ext s2) b3 hp2
      obtain ⟨m, rfl, m3, m8⟩ : ∃ m : Nat, v0 = .int (m : Nat) ∧ 3 ≤ m ∧ m ≤ 8 := by
        have hm := List.mem_of_getElem? hv0
        simp only [List.mem_cons, List.not_mem_nil, or_false] at hm
        rcases hm with z | z | z | z | z | z | z
        · exact ⟨3, z, by decide, by decide⟩
        · exact ⟨4, z, by decide, by decide⟩
        · exact ⟨5, z, by decide, by decide⟩
        · exact ⟨6, z, by decide, by decide⟩
        · exact ⟨6, z, by decide, by decide⟩
        · exact ⟨7, z, by decide, by decide⟩
        · exact ⟨8, z, by decide, by decide⟩
      refine ⟨p, e, m, _, rfl, m3, m8, by omega, pen3, fun la ls H4 ll bd nl b4 hl4 pen4 => ?_⟩
      obtain ⟨px3, hp3⟩ := pen3.some
      have tab4 := tabs_but tab3 b4 hp3
      have lap := pen3.ne nl
      have l3 : 3 ≤ ls.length := by omega
      have l8 : ls.length ≤ 8 := by omega
      refine ⟨_, rfl, _, rfl, p, la, e, ls, _, rfl, hl4, lap, l3, l8, bd, by omega, pen4, fun H5 b5 pen5 => ⟨_, rfl, iteF ?_⟩⟩
      obtain ⟨px4, hp4⟩ := pen4.some
      have tab5 := tabs_but tab4 b5 hp4
      have hl5 := b5 _ _ lap hl4
      refine ⟨_, rfl, _, rfl, p, la, e, ls, _, rfl, hl5, lap, l3, l8, bd, by omega, pen5, fun H6 b6 pen6 => ⟨_, rfl, iteF ?_⟩⟩
      obtain ⟨px5, hp5⟩ := pen5.some
      exact ⟨pen6.mono (by omega), tabs_but tab5 b6 hp5, _, _, rfl, fun _ => ⟨la, ls, rfl, b6 _ _ lap hl5, lap, l3, l8, bd⟩⟩
    · rintro σ H' ⟨pen, tab, z2, z3, rfl, z⟩
      obtain ⟨la, ls, rfl, hla, lap, l3, l8, bd⟩ := z (by decide)
      exact ⟨_, rfl, _, rfl, p, la, e, ls, _, rfl, hla, lap, l3, l8, bd, by decide, pen, tab, q⟩
end
end K
/-! the head by one kernel run, with the empty tables of the makers behind the written part -/
namespace K
open PySem
def tabF (ts : List Addr) : PySem.W.Frag := ts.map fun P => (P, PySem.W.tabObj #[])
theorem tabF_fst : ∀ ts : List Addr, (tabF ts).map (·.1) = ts
  | [] => rfl
  | P :: ts => congrArg (P :: ·) (tabF_fst ts)
theorem tabF_at : ∀ {ts : List Addr} {P : Addr}, P ∈ ts → List.lookup P (tabF ts) = some (PySem.W.tabObj #[])
  | Q :: ts, P, h => by
    show List.lookup P ((Q, PySem.W.tabObj #[]) :: tabF ts) = _
    rw [List.lookup_cons]
    by_cases c : P = Q
    · rw [c]
      simp
    · rw [show (P == Q) = false from beq_eq_false_iff_ne.mpr c]
      exact tabF_at ((List.mem_cons.mp h).resolve_left c)
section
variable {K : Params → PySem.W.Frag} {as ts : List Addr} {e : ∀ P, as ++ ts = (K P ++ tabF ts).map (·.1)} {w : World} {h : Heap}
theorem kk_in_of (Y : (PySem.W.kHook (fun P => K P ++ tabF ts) (as ++ ts) e).says w h) : (K w.params).In h := fun a o q => (show (K w.params ++ tabF ts).In h from Y) a o (by
  show List.lookup a (K w.params ++ tabF ts) = _
  rw [List.lookup_append, show List.lookup a (K w.params) = some o from q]
  rfl)
theorem kk_out_of (_ : (PySem.W.kHook (fun P => K P ++ tabF ts) (as ++ ts) e).says w h) {P : Addr} (hP : P ∉ as) : (K w.params).lookup P = none := by
  have q := e w.params
  rw [List.map_append, tabF_fst] at q
  have q2 : as = (K w.params).map (·.1) := List.append_cancel_right q
  show List.lookup P (K w.params) = none
  rw [q2] at hP
  clear q q2
  generalize K w.params = l at hP
  induction l with
  | nil => rfl
  | cons x l ih =>
    obtain ⟨a, o⟩ := x
    rw [List.lookup_cons]
    rw [List.map_cons] at hP
    rw [show (P == a) = false from beq_eq_false_iff_ne.mpr fun z => hP (by rw [z]; exact List.mem_cons_self ..)]
    exact ih fun z => hP (List.mem_cons_of_mem _ z)
theorem kk_tabs_of (Y : (PySem.W.kHook (fun P => K P ++ tabF ts) (as ++ ts) e).says w h) {P : Addr} (hP : P ∈ ts) (hn : P ∉ as) : h.get? P = some (PySem.W.tabObj #[]) := (show (K w.params ++ tabF ts).In h from Y) P _ (by
  show List.lookup P (K w.params ++ tabF ts) = _
  rw [List.lookup_append, show List.lookup P (K w.params) = none from kk_out_of Y hn, tabF_at hP]
  rfl)
end
end K
/-! the head by three kernel runs: the looks, the view (law alone), the written part -/
namespace K
open PySem PySem.W PySem.Calls PyProof.Rows HeadRun
def lo51_0 : List PySem.Str := ["_wall", "__name__", "fixed", "Paper", "Denial", "are_equal", "__name__", "is_integer", "is_within", "is_list", "is_numbers", "first_twice", "twice_at", "__name__", "RingError", "BadRing", "BadLot", "BadLineUp", "BadNumber", "Misfit", "Missing", "NoBar", "Twice", "TooMany", "BadText", "__name__", "want_number", "want_bar", "want_lot", "want_as_many", "__name__", "sort_by"]
def lo51_1 : List PySem.Str := ["__name__", "MOST_DIGITS", "items_of", "integer_of", "item_at", "number_at", "__name__", "LEAST_BARS", "MOST_BARS", "MOST_LENGTH", "Ring", "are_lengths", "has_level", "read_ring", "want_ring", "__name__", "LineUp", "pointing", "with_alone", "are_strands", "is_strand", "as_strand", "lineup_items", "item_of", "read_lineup", "pairs_next", "__name__", "Nets", "TooGreat", "can_line", "can_point", "against"]
def lo51_2 : List PySem.Str := ["nets_of", "too_great", "is_had", "want_lineup", "want_lined", "__name__", "_law_bench", "_law_draw", "_law_pick", "_law_mixed", "_law_lengths", "_law_is_home", "_law_lots", "_law_points_right", "_law_against_right", "_law_heard", "_law_refused_right"]
def lo51 : List PySem.Str := lo51_0 ++ lo51_1 ++ lo51_2
abbrev rr51 : OpenRow := OpenLaw.row PySem.Challenge.rw_ringbars_k51_pointing_one_way_and_agains
abbrev qv51 : Program := view rr51.prog [81]
def topD (p : Program) (i : Nat) : DefRec := match p.main.body[i]? with
  | some (.FunctionDef n a b _ _ _ sc _ _ pos) => ⟨n, a, b, sc, pos⟩
  | _ => ⟨"law", ⟨[], [], none, [], [], none, []⟩, [], ⟨.function, [], false, false, []⟩, default⟩
abbrev d51 : DefRec := topD rr51.prog 81
theorem d51_name : d51.name = ("law" : PySem.Str) := by kernel_rfl
theorem seen51 (w : World) (os : OsState) : (endF (stepQ (denQ tabQ) rr51.prog w) 14736 rr51.prog w os).map (fun s => seenQ qv51 lo51 (importedModules rr51.prog.main.body) (fun s => xlAt qv51 [] s && recOk (RowW.records rr51.toRowW) s) s.abs) = some (openGood qv51 lo51) := by kernel_rfl
theorem looks51 (w : World) (os : OsState) : (endF (stepQ (denQ tabQ) rr51.prog w) 14736 rr51.prog w os).map (fun s => looksF rr51.prog (boot_heap w.params) s.abs) = some true := by kernel_rfl
theorem map3 {α β γ δ : Type} {o : Option α} {A : α → β} {B : α → γ} {C : α → δ} {a : β} {b : γ} {c : δ} (h1 : o.map A = some a) (h2 : o.map B = some b) (h3 : o.map C = some c) : o.map (fun s => (A s, B s, C s)) = some (a, b, c) := by
  cases o with
  | none => cases h1
  | some x =>
    cases h1
    cases h2
    cases h3
    rfl
section
variable {Kf : Params → Frag} {as ts : List Addr}
theorem left51 (e : ∀ P, as ++ ts = (Kf P ++ tabF ts).map (·.1)) (ob : ∀ (w : World) (os : OsState), (endF (stepQ (denQ tabQ) rr51.prog w) 14736 rr51.prog w os).map (fun s => (as ++ ts).map (getT s)) = some ((Kf w.params ++ tabF ts).map fun x => some x.2)) :
    LeftO rr51.prog qv51 lo51 (fun s => xlAt qv51 [] s && recOk (RowW.records rr51.toRowW) s) (Hook.obs (kHook (fun P => Kf P ++ tabF ts) (as ++ ts) e)) (Hook.val (kHook (fun P => Kf P ++ tabF ts) (as ++ ts) e)) 15436 true :=
  left_oneK (M := 14736) (by kernel_rfl) (by rfl) (fun s => by kernel_rfl) (by rfl) fun w os => map3 (looks51 w os) (seen51 w os) (ob w os)
theorem head51 (e : ∀ P, as ++ ts = (Kf P ++ tabF ts).map (·.1)) (ob : ∀ (w : World) (os : OsState), (endF (stepQ (denQ tabQ) rr51.prog w) 14736 rr51.prog w os).map (fun s => (as ++ ts).map (getT s)) = some ((Kf w.params ++ tabF ts).map fun x => some x.2))
    (hw : rr51.toRowW.promised) (call : WalkO qv51 lo51 (XL qv51 []) (Hook.says (kHook (fun P => Kf P ++ tabF ts) (as ++ ts) e)) rr51.toRowW d51 [] fun f vs => PySem.call f vs) : rr51.Holds :=
  holds_open (r := rr51) (q := qv51) (loose := lo51) (XP := XL qv51 []) (YP := Hook.says (kHook (fun P => Kf P ++ tabF ts) (as ++ ts) e)) (d := d51) (kwd := []) (left51 e ob) (Hook.of _) (Hook.keeps _) (fun s z => xl_of s (Bool.and_eq_true_iff.mp z).1) XL.keeps (by kernel_rfl) (by kernel_rfl) (by kernel_rfl) (fun s z => recFacts_of (Bool.and_eq_true_iff.mp z).2) (by kernel_rfl) (by first | assumption | decide +kernel) (by decide +kernel) ⟨rfl, rfl, rfl, rfl, rfl, by decide +kernel⟩ hw call
end
end K
namespace K
open PySem L2 Rg LamX
theorem kb_cp {K : PySem.W.Frag} {fd : FuncData} (h : ∀ (a b : Value) (s : Shared), BindsTo s fd ⟨[], [("lot", a), ("ring", b)]⟩ [("ring", b), ("lot", a)]) : KBinds K fd ["ring", "lot"] ["lot", "ring"] gK2 gK2 := by
  refine ⟨fun s us ws _ hl => ?_, fun {vs us zs ws} r1 r2 => ?_⟩
  · match us, ws, hl with
    | [], [a, b], _ => exact h a b s
  · cases r1 with
    | nil =>
      cases r2 with
      | nil => exact .nil
      | cons x t =>
        cases t with
        | nil => exact .nil
        | cons y t2 =>
          cases t2 with
          | nil => exact .cons y (.cons x .nil)
          | cons _ _ => exact .nil
    | cons _ _ => exact .nil
theorem kb_ag {K : PySem.W.Frag} {fd : FuncData} (h : ∀ (v a b : Value) (s : Shared), BindsTo s fd ⟨[], [("other", v), ("one", a), ("ring", b)]⟩ [("ring", b), ("one", a), ("other", v)]) : KBinds K fd ["ring", "one", "other"] ["other", "one", "ring"] gK3 gK3 := by
  refine ⟨fun s us ws _ hl => ?_, fun {vs us zs ws} r1 r2 => ?_⟩
  · match us, ws, hl with
    | [], [v, a, b], _ => exact h v a b s
  · cases r1 with
    | nil =>
      cases r2 with
      | nil => exact .nil
      | cons x t =>
        cases t with
        | nil => exact .nil
        | cons y t2 =>
          cases t2 with
          | nil => exact .nil
          | cons z t3 =>
            cases t3 with
            | nil => exact .cons z (.cons y (.cons x .nil))
            | cons _ _ => exact .nil
    | cons _ _ => exact .nil
section
variable {P : Program} {w : World} {K : PySem.W.Frag} {mg : Str → Option Value} {base : Heap}
theorem scBadRing : FnScope ["self", "part"] ["self", "part"] (defScope sBadRingInit) := ⟨rfl, rfl, rfl, by decide +kernel, rfl, by decide +kernel, by decide +kernel⟩
theorem ok_badRingI {f : Addr} {fd : FuncData} (F : Fun K "__init__" "BadRing.__init__" sBadRingInit f fd) : FnOk P w K mg base CX0 1 f fd ["self", "part"] (spIni K "part") := by
  refine F.ok scBadRing (fun vs H Q E h => ?_) (fun cdv A outer s H vs Q E hr h => ?_)
  · obtain ⟨a, C, v, rfl, _⟩ := h
    rfl
  · refine ⟨_, pss_one (ps_ost (pv 0) (pv 1)), ?_⟩
    obtain ⟨a, C, v, rfl, o, n, ha, k⟩ := h
    exact ⟨_, rfl, _, rfl, a, C, rfl, o, n, .inl ⟨ha, fun d h1 h2 => k d h1 h2⟩⟩
theorem scBadLineUp : FnScope ["self", "part"] ["self", "part"] (defScope sBadLineUpInit) := ⟨rfl, rfl, rfl, by decide +kernel, rfl, by decide +kernel, by decide +kernel⟩
theorem ok_badLineUpI {f : Addr} {fd : FuncData} (F : Fun K "__init__" "BadLineUp.__init__" sBadLineUpInit f fd) : FnOk P w K mg base CX0 1 f fd ["self", "part"] (spIni K "part") := by
  refine F.ok scBadLineUp (fun vs H Q E h => ?_) (fun cdv A outer s H vs Q E hr h => ?_)
  · obtain ⟨a, C, v, rfl, _⟩ := h
    rfl
  · refine ⟨_, pss_one (ps_ost (pv 0) (pv 1)), ?_⟩
    obtain ⟨a, C, v, rfl, o, n, ha, k⟩ := h
    exact ⟨_, rfl, _, rfl, a, C, rfl, o, n, .inl ⟨ha, fun d h1 h2 => k d h1 h2⟩⟩
theorem scMisfit : FnScope ["self", "part"] ["self", "part"] (defScope sMisfitInit) := ⟨rfl, rfl, rfl, by decide +kernel, rfl, by decide +kernel, by decide +kernel⟩
theorem ok_misfitI {f : Addr} {fd : FuncData} (F : Fun K "__init__" "Misfit.__init__" sMisfitInit f fd) : FnOk P w K mg base CX0 1 f fd ["self", "part"] (spIni K "part") := by
  refine F.ok scMisfit (fun vs H Q E h => ?_) (fun cdv A outer s H vs Q E hr h => ?_)
  · obtain ⟨a, C, v, rfl, _⟩ := h
    rfl
  · refine ⟨_, pss_one (ps_ost (pv 0) (pv 1)), ?_⟩
    obtain ⟨a, C, v, rfl, o, n, ha, k⟩ := h
    exact ⟨_, rfl, _, rfl, a, C, rfl, o, n, .inl ⟨ha, fun d h1 h2 => k d h1 h2⟩⟩
theorem scPBT : FnScope ["self"] ["self"] (defScope sPaperBool) := ⟨rfl, rfl, rfl, by decide +kernel, rfl, by decide +kernel, by decide +kernel⟩
theorem ok_PBT {f : Addr} {fd : FuncData} (F : Fun K "__bool__" "Paper.__bool__" sPaperBool f fd) : FnOk P w K mg base CX0 1 f fd ["self"] (fun vs H Q _ => ∃ v, vs = [v] ∧ Q (.bl true) H) := by
  refine F.ok scPBT (fun vs H Q E h => ?_) (fun cdv A outer s H vs Q E hr h => ?_)
  · obtain ⟨v, rfl, _⟩ := h
    rfl
  · refine ⟨_, (pss_one (ps_ret pe_bl)), ?_⟩
    obtain ⟨v, rfl, q⟩ := h
    exact q
theorem scPBF : FnScope ["self"] ["self"] (defScope sDenialBool) := ⟨rfl, rfl, rfl, by decide +kernel, rfl, by decide +kernel, by decide +kernel⟩
theorem ok_PBF {f : Addr} {fd : FuncData} (F : Fun K "__bool__" "Denial.__bool__" sDenialBool f fd) : FnOk P w K mg base CX0 1 f fd ["self"] (fun vs H Q _ => ∃ v, vs = [v] ∧ Q (.bl false) H) := by
  refine F.ok scPBF (fun vs H Q E h => ?_) (fun cdv A outer s H vs Q E hr h => ?_)
  · obtain ⟨v, rfl, _⟩ := h
    rfl
  · refine ⟨_, (pss_one (ps_ret pe_bl)), ?_⟩
    obtain ⟨v, rfl, q⟩ := h
    exact q
end
theorem code_hd {K : PySem.W.Frag} {c P : Addr} {o : Obj} (l : K.lookup c = some o) (h : PySem.W.codeHdIn [(c, o)] c P = true) : PySem.W.codeHdIn K c P = true := by
  have e : List.lookup c [(c, o)] = some o := by simp [List.lookup]
  unfold PySem.W.codeHdIn at h ⊢
  rw [e] at h
  rw [l]
  exact h
theorem lookup_out {K : PySem.W.Frag} {P : Addr} : ∀ {as : List Addr}, as = K.map (·.1) → P ∉ as → K.lookup P = none := by
  intro as e h
  subst e
  induction K with
  | nil => rfl
  | cons x r ih =>
    obtain ⟨a, o⟩ := x
    rw [List.map_cons, List.mem_cons, not_or] at h
    have hne : (P == a) = false := by simpa using h.1
    rw [List.lookup_cons, hne]
    exact ih h.2
theorem out_of {K : Params → PySem.W.Frag} {as : List Addr} {e : ∀ P, as = (K P).map (·.1)} {ts : List Addr} {w : World} {h : Heap} (_ : (PySem.W.kmHook K as e ts).says w h) {P : Addr} (hP : P ∉ as) : (K w.params).lookup P = none := lookup_out (e w.params) hP


theorem all_mk {fileEN fileEG : Str} {l : PySem.W.OpenLaw} {w : World} {K : PySem.W.Frag} {h : Heap} {mg : Str → Option Value} {fa : Addr} (X : K.In h) (G : h.Ns mainGlobals mg) (hfa : mg "law" = some (.ref fa))
    {C CL CN CG eX eR eL eN eT eU eM f0 f1 f2 f3 f4 f5 f6 f7 f8 f9 f10 f11 f12 f13 f14 f15 f16 f17 f18 f19 f20 f21 f22 f23 f24 f25 f26 f27 f28 f29 f30 f31 f32 f33 f34 f35 f36 f37 f38 cRR f39 fm0 fm1 fm2 fm3 fm4 fm5 fm6 fm7 fm8 fm9 fm10 fm11 fm12 P1 fPi fEN ccEN cEN fEG ccEG cEG : Addr} {od0 an0 od1 an1 od2 an2 od3 an3 od4 an4 od5 an5 od6 an6 od7 an7 od8 an8 od9 an9 od10 an10 od11 an11 od12 an12 od13 an13 od14 an14 od15 an15 od16 an16 od17 an17 od18 an18 od19 an19 od20 an20 od21 an21 od22 an22 od23 an23 od24 an24 od25 an25 od26 an26 od27 an27 od28 an28 od29 an29 od30 an30 od31 an31 od32 an32 od33 an33 od34 an34 od35 an35 od36 an36 od37 an37 od38 an38 od39 an39 odm0 anm0 odm1 anm1 odm2 anm2 odm3 anm3 odm4 anm4 odm5 anm5 odm6 anm6 odm7 anm7 odm8 anm8 odm9 anm9 odm10 anm10 odm11 anm11 odm12 anm12 odc1 odP anP odEN anEN cddEN kcdEN odEG anEG cddEG kcdEG : Option Addr} {sl0 sl1 sl2 sl3 sl4 sl5 sl6 sl7 sl8 sl9 sl10 sl11 sl12 sl13 sl14 sl15 sl16 sl17 sl18 sl19 sl20 sl21 sl22 sl23 sl24 sl25 sl26 sl27 sl28 sl29 sl30 sl31 sl32 sl33 sl34 sl35 sl36 sl37 sl38 sl39 slm0 slm1 slm2 slm3 slm4 slm5 slm6 slm7 slm8 slm9 slm10 slm11 slm12 slc1 slP slEN ccsEN kcsEN slEG ccsEG kcsEG : Array (Option Value)} {oc0 kV0 dc0 pm0 ct0 cd0 oc1 kV1 dc1 pm1 ct1 cd1 oc2 kV2 dc2 pm2 ct2 cd2 oc3 kV3 dc3 pm3 ct3 cd3 oc4 kV4 dc4 pm4 ct4 cd4 oc5 kV5 dc5 pm5 ct5 cd5 oc6 kV6 dc6 pm6 ct6 cd6 oc7 kV7 dc7 pm7 ct7 cd7 oc8 kV8 dc8 pm8 ct8 cd8 oc9 kV9 dc9 pm9 ct9 cd9 oc10 kV10 dc10 pm10 ct10 cd10 oc11 kV11 dc11 pm11 ct11 cd11 oc12 kV12 dc12 pm12 ct12 cd12 oc13 kV13 dc13 pm13 ct13 cd13 oc14 kV14 dc14 pm14 ct14 cd14 oc15 kV15 dc15 pm15 ct15 cd15 oc16 kV16 dc16 pm16 ct16 cd16 oc17 kV17 dc17 pm17 ct17 cd17 oc18 kV18 dc18 pm18 ct18 cd18 oc19 kV19 dc19 pm19 ct19 cd19 oc20 kV20 dc20 pm20 ct20 cd20 oc21 kV21 dc21 pm21 ct21 cd21 oc22 kV22 dc22 pm22 ct22 cd22 oc23 kV23 dc23 pm23 ct23 cd23 oc24 kV24 dc24 pm24 ct24 cd24 oc25 kV25 dc25 pm25 ct25 cd25 oc26 kV26 dc26 pm26 ct26 cd26 oc27 kV27 dc27 pm27 ct27 cd27 oc28 kV28 dc28 pm28 ct28 cd28 oc29 kV29 dc29 pm29 ct29 cd29 oc30 kV30 dc30 pm30 ct30 cd30 oc31 kV31 dc31 pm31 ct31 cd31 oc32 kV32 dc32 pm32 ct32 cd32 oc33 kV33 dc33 pm33 ct33 cd33 oc34 kV34 dc34 pm34 ct34 cd34 oc35 kV35 dc35 pm35 ct35 cd35 oc36 kV36 dc36 pm36 ct36 cd36 oc37 kV37 dc37 pm37 ct37 cd37 oc38 kV38 dc38 pm38 ct38 oc39 kV39 dc39 pm39 ct39 cd39 ocm0 kVm0 dcm0 pmm0 ctm0 cdm0 ocm1 kVm1 dcm1 pmm1 ctm1 cdm1 ocm2 kVm2 dcm2 pmm2 ctm2 cdm2 ocm3 kVm3 dcm3 pmm3 ctm3 cdm3 ocm4 kVm4 dcm4 pmm4 ctm4 cdm4 ocm5 kVm5 dcm5 pmm5 ctm5 cdm5 ocm6 kVm6 dcm6 pmm6 ctm6 cdm6 ocm7 kVm7 dcm7 pmm7 ctm7 cdm7 ocm8 kVm8 dcm8 pmm8 ctm8 cdm8 ocm9 kVm9 dcm9 pmm9 ctm9 cdm9 ocm10 kVm10 dcm10 pmm10 ctm10 cdm10 ocm11 kVm11 dcm11 pmm11 ctm11 cdm11 ocm12 kVm12 dcm12 pmm12 ctm12 cdm12 ocP kVP dcP pmP cdP ctP ocEN kVEN dcEN pmEN ctEN cclEN kclEN ocEG kVEG dcEG pmEG ctEG cclEG kclEG : Value} {tkMOST_LENGTH tkLEAST_BARS tkMOST_BARS tfEN tfEG : Tok} {vsc1 vsEN vsEG : Array Value}
    {nmeR nmeL nmeN nmeT nmeU nmeM qqeR qqeL qqeN qqeT qqeU qqeM : Str} {NeR NeL NeN NeT NeU NeM : Addr} {bseR bseL bseN bseT bseU bseM : List Value} {bmeR bmeL bmeN bmeT bmeU bmeM : List Value} {sneR sneL sneN sneT sneU sneM : List Str} {subeR subeL subeN subeT subeU subeM : List Value} {abeR abeL abeN abeT abeU abeM : Bool} {coleR coleL coleN coleT coleU coleM : Option Bool} {ddeR ddeL ddeN ddeT ddeU ddeM : Option Addr} {k0eR k1eR k2eR k3eR k5eR k0eL k1eL k2eL k3eL k5eL k0eN k1eN k2eN k3eN k5eN k0eT k1eT k2eT k3eT k5eT k0eU k1eU k2eU k3eU k5eU k0eM k1eM k2eM k3eM k5eM : Option Value}
    (aC : PySem.W.nsIn K mainGlobals "Ring" = some (some (.ref C)))
    (aCL : PySem.W.nsIn K mainGlobals "LineUp" = some (some (.ref CL)))
    (aCN : PySem.W.nsIn K mainGlobals "Nets" = some (some (.ref CN)))
    (aCG : PySem.W.nsIn K mainGlobals "TooGreat" = some (some (.ref CG)))
    (aeX : PySem.W.nsIn K mainGlobals "RingError" = some (some (.ref eX)))
    (aeR : PySem.W.nsIn K mainGlobals "BadRing" = some (some (.ref eR)))
    (aeL : PySem.W.nsIn K mainGlobals "BadLot" = some (some (.ref eL)))
    (aeN : PySem.W.nsIn K mainGlobals "NoBar" = some (some (.ref eN)))
    (aeT : PySem.W.nsIn K mainGlobals "Twice" = some (some (.ref eT)))
    (aeU : PySem.W.nsIn K mainGlobals "BadLineUp" = some (some (.ref eU)))
    (aeM : PySem.W.nsIn K mainGlobals "Misfit" = some (some (.ref eM)))
    (a0 : PySem.W.nsIn K mainGlobals "is_integer" = some (some (.ref f0)))
    (l0 : K.lookup f0 = some ⟨oc0, od0, .func (PySem.W.fnOf "is_integer" "is_integer" (defArgs sIsInteger) (defBody sIsInteger) (defScope sIsInteger) .none kV0 dc0 pm0 an0 cd0 ct0), sl0⟩)
    (c0 : PySem.W.codeIn K cd0 "is_integer" = true)
    (k0 : PySem.W.keepIn K (.ref f0) = true)
    (a1 : PySem.W.nsIn K mainGlobals "is_within" = some (some (.ref f1)))
    (l1 : K.lookup f1 = some ⟨oc1, od1, .func (PySem.W.fnOf "is_within" "is_within" (defArgs sIsWithin) (defBody sIsWithin) (defScope sIsWithin) .none kV1 dc1 pm1 an1 cd1 ct1), sl1⟩)
    (c1 : PySem.W.codeIn K cd1 "is_within" = true)
    (k1 : PySem.W.keepIn K (.ref f1) = true)
    (a2 : PySem.W.nsIn K mainGlobals "is_list" = some (some (.ref f2)))
    (l2 : K.lookup f2 = some ⟨oc2, od2, .func (PySem.W.fnOf "is_list" "is_list" (defArgs sIsList) (defBody sIsList) (defScope sIsList) .none kV2 dc2 pm2 an2 cd2 ct2), sl2⟩)
    (c2 : PySem.W.codeIn K cd2 "is_list" = true)
    (k2 : PySem.W.keepIn K (.ref f2) = true)
    (a3 : PySem.W.nsIn K mainGlobals "is_numbers" = some (some (.ref f3)))
    (l3 : K.lookup f3 = some ⟨oc3, od3, .func (PySem.W.fnOf "is_numbers" "is_numbers" (defArgs sIsNumbers) (defBody sIsNumbers) (defScope sIsNumbers) .none kV3 dc3 pm3 an3 cd3 ct3), sl3⟩)
    (c3 : PySem.W.codeIn K cd3 "is_numbers" = true)
    (k3 : PySem.W.keepIn K (.ref f3) = true)
    (a4 : PySem.W.nsIn K mainGlobals "fixed" = some (some (.ref f4)))
    (l4 : K.lookup f4 = some ⟨oc4, od4, .func (PySem.W.fnOf "fixed" "fixed" (defArgs sFixed) (defBody sFixed) (defScope sFixed) .none kV4 dc4 pm4 an4 cd4 ct4), sl4⟩)
    (c4 : PySem.W.codeIn K cd4 "fixed" = true)
    (k4 : PySem.W.keepIn K (.ref f4) = true)
    (a5 : PySem.W.nsIn K mainGlobals "first_twice" = some (some (.ref f5)))
    (l5 : K.lookup f5 = some ⟨oc5, od5, .func (PySem.W.fnOf "first_twice" "first_twice" (defArgs sFirstTwice) (defBody sFirstTwice) (defScope sFirstTwice) .none kV5 dc5 pm5 an5 cd5 ct5), sl5⟩)
    (c5 : PySem.W.codeIn K cd5 "first_twice" = true)
    (k5 : PySem.W.keepIn K (.ref f5) = true)
    (a6 : PySem.W.nsIn K mainGlobals "twice_at" = some (some (.ref f6)))
    (l6 : K.lookup f6 = some ⟨oc6, od6, .func (PySem.W.fnOf "twice_at" "twice_at" (defArgs sTwiceAt) (defBody sTwiceAt) (defScope sTwiceAt) .none kV6 dc6 pm6 an6 cd6 ct6), sl6⟩)
    (c6 : PySem.W.codeIn K cd6 "twice_at" = true)
    (k6 : PySem.W.keepIn K (.ref f6) = true)
    (a7 : PySem.W.nsIn K mainGlobals "want_number" = some (some (.ref f7)))
    (l7 : K.lookup f7 = some ⟨oc7, od7, .func (PySem.W.fnOf "want_number" "want_number" (defArgs sWantNumber) (defBody sWantNumber) (defScope sWantNumber) .none kV7 dc7 pm7 an7 cd7 ct7), sl7⟩)
    (c7 : PySem.W.codeIn K cd7 "want_number" = true)
    (k7 : PySem.W.keepIn K (.ref f7) = true)
    (a8 : PySem.W.nsIn K mainGlobals "want_bar" = some (some (.ref f8)))
    (l8 : K.lookup f8 = some ⟨oc8, od8, .func (PySem.W.fnOf "want_bar" "want_bar" (defArgs sWantBar) (defBody sWantBar) (defScope sWantBar) .none kV8 dc8 pm8 an8 cd8 ct8), sl8⟩)
    (c8 : PySem.W.codeIn K cd8 "want_bar" = true)
    (k8 : PySem.W.keepIn K (.ref f8) = true)
    (a9 : PySem.W.nsIn K mainGlobals "want_lot" = some (some (.ref f9)))
    (l9 : K.lookup f9 = some ⟨oc9, od9, .func (PySem.W.fnOf "want_lot" "want_lot" (defArgs sWantLot) (defBody sWantLot) (defScope sWantLot) .none kV9 dc9 pm9 an9 cd9 ct9), sl9⟩)
    (c9 : PySem.W.codeIn K cd9 "want_lot" = true)
    (k9 : PySem.W.keepIn K (.ref f9) = true)
    (a10 : PySem.W.nsIn K mainGlobals "want_as_many" = some (some (.ref f10)))
    (l10 : K.lookup f10 = some ⟨oc10, od10, .func (PySem.W.fnOf "want_as_many" "want_as_many" (defArgs sWantAsMany) (defBody sWantAsMany) (defScope sWantAsMany) .none kV10 dc10 pm10 an10 cd10 ct10), sl10⟩)
    (c10 : PySem.W.codeIn K cd10 "want_as_many" = true)
    (k10 : PySem.W.keepIn K (.ref f10) = true)
    (a11 : PySem.W.nsIn K mainGlobals "are_lengths" = some (some (.ref f11)))
    (l11 : K.lookup f11 = some ⟨oc11, od11, .func (PySem.W.fnOf "are_lengths" "are_lengths" (defArgs sAreLengths) (defBody sAreLengths) (defScope sAreLengths) .none kV11 dc11 pm11 an11 cd11 ct11), sl11⟩)
    (c11 : PySem.W.codeIn K cd11 "are_lengths" = true)
    (k11 : PySem.W.keepIn K (.ref f11) = true)
    (a12 : PySem.W.nsIn K mainGlobals "has_level" = some (some (.ref f12)))
    (l12 : K.lookup f12 = some ⟨oc12, od12, .func (PySem.W.fnOf "has_level" "has_level" (defArgs sHasLevel) (defBody sHasLevel) (defScope sHasLevel) .none kV12 dc12 pm12 an12 cd12 ct12), sl12⟩)
    (c12 : PySem.W.codeIn K cd12 "has_level" = true)
    (k12 : PySem.W.keepIn K (.ref f12) = true)
    (a13 : PySem.W.nsIn K mainGlobals "want_ring" = some (some (.ref f13)))
    (l13 : K.lookup f13 = some ⟨oc13, od13, .func (PySem.W.fnOf "want_ring" "want_ring" (defArgs sWantRing) (defBody sWantRing) (defScope sWantRing) .none kV13 dc13 pm13 an13 cd13 ct13), sl13⟩)
    (c13 : PySem.W.codeIn K cd13 "want_ring" = true)
    (k13 : PySem.W.keepIn K (.ref f13) = true)
    (a14 : PySem.W.nsIn K mainGlobals "sort_by" = some (some (.ref f14)))
    (l14 : K.lookup f14 = some ⟨oc14, od14, .func (PySem.W.fnOf "sort_by" "sort_by" (defArgs sSortBy) (defBody sSortBy) (defScope sSortBy) .none kV14 dc14 pm14 an14 cd14 ct14), sl14⟩)
    (c14 : PySem.W.codeIn K cd14 "sort_by" = true)
    (k14 : PySem.W.keepIn K (.ref f14) = true)
    (a15 : PySem.W.nsIn K mainGlobals "are_strands" = some (some (.ref f15)))
    (l15 : K.lookup f15 = some ⟨oc15, od15, .func (PySem.W.fnOf "are_strands" "are_strands" (defArgs sAreStrands) (defBody sAreStrands) (defScope sAreStrands) .none kV15 dc15 pm15 an15 cd15 ct15), sl15⟩)
    (c15 : PySem.W.codeIn K cd15 "are_strands" = true)
    (k15 : PySem.W.keepIn K (.ref f15) = true)
    (a16 : PySem.W.nsIn K mainGlobals "is_strand" = some (some (.ref f16)))
    (l16 : K.lookup f16 = some ⟨oc16, od16, .func (PySem.W.fnOf "is_strand" "is_strand" (defArgs sIsStrand) (defBody sIsStrand) (defScope sIsStrand) .none kV16 dc16 pm16 an16 cd16 ct16), sl16⟩)
    (c16 : PySem.W.codeIn K cd16 "is_strand" = true)
    (k16 : PySem.W.keepIn K (.ref f16) = true)
    (a17 : PySem.W.nsIn K mainGlobals "as_strand" = some (some (.ref f17)))
    (l17 : K.lookup f17 = some ⟨oc17, od17, .func (PySem.W.fnOf "as_strand" "as_strand" (defArgs sAsStrand) (defBody sAsStrand) (defScope sAsStrand) .none kV17 dc17 pm17 an17 cd17 ct17), sl17⟩)
    (c17 : PySem.W.codeIn K cd17 "as_strand" = true)
    (k17 : PySem.W.keepIn K (.ref f17) = true)
    (a18 : PySem.W.nsIn K mainGlobals "with_alone" = some (some (.ref f18)))
    (l18 : K.lookup f18 = some ⟨oc18, od18, .func (PySem.W.fnOf "with_alone" "with_alone" (defArgs sWithAlone) (defBody sWithAlone) (defScope sWithAlone) .none kV18 dc18 pm18 an18 cd18 ct18), sl18⟩)
    (c18 : PySem.W.codeIn K cd18 "with_alone" = true)
    (k18 : PySem.W.keepIn K (.ref f18) = true)
    (a19 : PySem.W.nsIn K mainGlobals "pointing" = some (some (.ref f19)))
    (l19 : K.lookup f19 = some ⟨oc19, od19, .func (PySem.W.fnOf "pointing" "pointing" (defArgs sPointing) (defBody sPointing) (defScope sPointing) .none kV19 dc19 pm19 an19 cd19 ct19), sl19⟩)
    (c19 : PySem.W.codeIn K cd19 "pointing" = true)
    (k19 : PySem.W.keepIn K (.ref f19) = true)
    (a20 : PySem.W.nsIn K mainGlobals "can_line" = some (some (.ref f20)))
    (l20 : K.lookup f20 = some ⟨oc20, od20, .func (PySem.W.fnOf "can_line" "can_line" (defArgs sCanLine) (defBody sCanLine) (defScope sCanLine) .none kV20 dc20 pm20 an20 cd20 ct20), sl20⟩)
    (c20 : PySem.W.codeIn K cd20 "can_line" = true)
    (k20 : PySem.W.keepIn K (.ref f20) = true)
    (a21 : PySem.W.nsIn K mainGlobals "can_point" = some (some (.ref f21)))
    (l21 : K.lookup f21 = some ⟨oc21, od21, .func (PySem.W.fnOf "can_point" "can_point" (defArgs sCanPoint) (defBody sCanPoint) (defScope sCanPoint) .none kV21 dc21 pm21 an21 cd21 ct21), sl21⟩)
    (c21 : PySem.W.codeIn K cd21 "can_point" = true)
    (k21 : PySem.W.keepIn K (.ref f21) = true)
    (a22 : PySem.W.nsIn K mainGlobals "against" = some (some (.ref f22)))
    (l22 : K.lookup f22 = some ⟨oc22, od22, .func (PySem.W.fnOf "against" "against" (defArgs sAgainst) (defBody sAgainst) (defScope sAgainst) .none kV22 dc22 pm22 an22 cd22 ct22), sl22⟩)
    (c22 : PySem.W.codeIn K cd22 "against" = true)
    (k22 : PySem.W.keepIn K (.ref f22) = true)
    (a23 : PySem.W.nsIn K mainGlobals "nets_of" = some (some (.ref f23)))
    (l23 : K.lookup f23 = some ⟨oc23, od23, .func (PySem.W.fnOf "nets_of" "nets_of" (defArgs sNetsOf) (defBody sNetsOf) (defScope sNetsOf) .none kV23 dc23 pm23 an23 cd23 ct23), sl23⟩)
    (c23 : PySem.W.codeIn K cd23 "nets_of" = true)
    (k23 : PySem.W.keepIn K (.ref f23) = true)
    (a24 : PySem.W.nsIn K mainGlobals "too_great" = some (some (.ref f24)))
    (l24 : K.lookup f24 = some ⟨oc24, od24, .func (PySem.W.fnOf "too_great" "too_great" (defArgs sTooGreat) (defBody sTooGreat) (defScope sTooGreat) .none kV24 dc24 pm24 an24 cd24 ct24), sl24⟩)
    (c24 : PySem.W.codeIn K cd24 "too_great" = true)
    (k24 : PySem.W.keepIn K (.ref f24) = true)
    (a25 : PySem.W.nsIn K mainGlobals "is_had" = some (some (.ref f25)))
    (l25 : K.lookup f25 = some ⟨oc25, od25, .func (PySem.W.fnOf "is_had" "is_had" (defArgs sIsHad) (defBody sIsHad) (defScope sIsHad) .none kV25 dc25 pm25 an25 cd25 ct25), sl25⟩)
    (c25 : PySem.W.codeIn K cd25 "is_had" = true)
    (k25 : PySem.W.keepIn K (.ref f25) = true)
    (a26 : PySem.W.nsIn K mainGlobals "want_lineup" = some (some (.ref f26)))
    (l26 : K.lookup f26 = some ⟨oc26, od26, .func (PySem.W.fnOf "want_lineup" "want_lineup" (defArgs sWantLineup) (defBody sWantLineup) (defScope sWantLineup) .none kV26 dc26 pm26 an26 cd26 ct26), sl26⟩)
    (c26 : PySem.W.codeIn K cd26 "want_lineup" = true)
    (k26 : PySem.W.keepIn K (.ref f26) = true)
    (a27 : PySem.W.nsIn K mainGlobals "want_lined" = some (some (.ref f27)))
    (l27 : K.lookup f27 = some ⟨oc27, od27, .func (PySem.W.fnOf "want_lined" "want_lined" (defArgs sWantLined) (defBody sWantLined) (defScope sWantLined) .none kV27 dc27 pm27 an27 cd27 ct27), sl27⟩)
    (c27 : PySem.W.codeIn K cd27 "want_lined" = true)
    (k27 : PySem.W.keepIn K (.ref f27) = true)
    (a28 : PySem.W.nsIn K mainGlobals "_law_bench" = some (some (.ref f28)))
    (l28 : K.lookup f28 = some ⟨oc28, od28, .func (PySem.W.fnOf "_law_bench" "_law_bench" (defArgs sLwBench) (defBody sLwBench) (defScope sLwBench) .none kV28 dc28 pm28 an28 cd28 ct28), sl28⟩)
    (c28 : PySem.W.codeIn K cd28 "_law_bench" = true)
    (k28 : PySem.W.keepIn K (.ref f28) = true)
    (a29 : PySem.W.nsIn K mainGlobals "_law_draw" = some (some (.ref f29)))
    (l29 : K.lookup f29 = some ⟨oc29, od29, .func (PySem.W.fnOf "_law_draw" "_law_draw" (defArgs sLwDraw) (defBody sLwDraw) (defScope sLwDraw) .none kV29 dc29 pm29 an29 cd29 ct29), sl29⟩)
    (c29 : PySem.W.codeIn K cd29 "_law_draw" = true)
    (k29 : PySem.W.keepIn K (.ref f29) = true)
    (a30 : PySem.W.nsIn K mainGlobals "_law_pick" = some (some (.ref f30)))
    (l30 : K.lookup f30 = some ⟨oc30, od30, .func (PySem.W.fnOf "_law_pick" "_law_pick" (defArgs sLwPick) (defBody sLwPick) (defScope sLwPick) .none kV30 dc30 pm30 an30 cd30 ct30), sl30⟩)
    (c30 : PySem.W.codeIn K cd30 "_law_pick" = true)
    (k30 : PySem.W.keepIn K (.ref f30) = true)
    (a31 : PySem.W.nsIn K mainGlobals "_law_mixed" = some (some (.ref f31)))
    (l31 : K.lookup f31 = some ⟨oc31, od31, .func (PySem.W.fnOf "_law_mixed" "_law_mixed" (defArgs sLwMixed) (defBody sLwMixed) (defScope sLwMixed) .none kV31 dc31 pm31 an31 cd31 ct31), sl31⟩)
    (c31 : PySem.W.codeIn K cd31 "_law_mixed" = true)
    (k31 : PySem.W.keepIn K (.ref f31) = true)
    (a32 : PySem.W.nsIn K mainGlobals "_law_lengths" = some (some (.ref f32)))
    (l32 : K.lookup f32 = some ⟨oc32, od32, .func (PySem.W.fnOf "_law_lengths" "_law_lengths" (defArgs sLwLengths) (defBody sLwLengths) (defScope sLwLengths) .none kV32 dc32 pm32 an32 cd32 ct32), sl32⟩)
    (c32 : PySem.W.codeIn K cd32 "_law_lengths" = true)
    (k32 : PySem.W.keepIn K (.ref f32) = true)
    (a33 : PySem.W.nsIn K mainGlobals "_law_is_home" = some (some (.ref f33)))
    (l33 : K.lookup f33 = some ⟨oc33, od33, .func (PySem.W.fnOf "_law_is_home" "_law_is_home" (defArgs sLwIsHome) (defBody sLwIsHome) (defScope sLwIsHome) .none kV33 dc33 pm33 an33 cd33 ct33), sl33⟩)
    (c33 : PySem.W.codeIn K cd33 "_law_is_home" = true)
    (k33 : PySem.W.keepIn K (.ref f33) = true)
    (a34 : PySem.W.nsIn K mainGlobals "_law_lots" = some (some (.ref f34)))
    (l34 : K.lookup f34 = some ⟨oc34, od34, .func (PySem.W.fnOf "_law_lots" "_law_lots" (defArgs sLwLots) (defBody sLwLots) (defScope sLwLots) .none kV34 dc34 pm34 an34 cd34 ct34), sl34⟩)
    (c34 : PySem.W.codeIn K cd34 "_law_lots" = true)
    (k34 : PySem.W.keepIn K (.ref f34) = true)
    (a35 : PySem.W.nsIn K mainGlobals "_law_points_right" = some (some (.ref f35)))
    (l35 : K.lookup f35 = some ⟨oc35, od35, .func (PySem.W.fnOf "_law_points_right" "_law_points_right" (defArgs sLwPointsRight) (defBody sLwPointsRight) (defScope sLwPointsRight) .none kV35 dc35 pm35 an35 cd35 ct35), sl35⟩)
    (c35 : PySem.W.codeIn K cd35 "_law_points_right" = true)
    (k35 : PySem.W.keepIn K (.ref f35) = true)
    (a36 : PySem.W.nsIn K mainGlobals "_law_against_right" = some (some (.ref f36)))
    (l36 : K.lookup f36 = some ⟨oc36, od36, .func (PySem.W.fnOf "_law_against_right" "_law_against_right" (defArgs sLwAgainstRight) (defBody sLwAgainstRight) (defScope sLwAgainstRight) .none kV36 dc36 pm36 an36 cd36 ct36), sl36⟩)
    (c36 : PySem.W.codeIn K cd36 "_law_against_right" = true)
    (k36 : PySem.W.keepIn K (.ref f36) = true)
    (a37 : PySem.W.nsIn K mainGlobals "_law_heard" = some (some (.ref f37)))
    (l37 : K.lookup f37 = some ⟨oc37, od37, .func (PySem.W.fnOf "_law_heard" "_law_heard" (defArgs sLwHeard) (defBody sLwHeard) (defScope sLwHeard) .none kV37 dc37 pm37 an37 cd37 ct37), sl37⟩)
    (c37 : PySem.W.codeIn K cd37 "_law_heard" = true)
    (k37 : PySem.W.keepIn K (.ref f37) = true)
    (a38 : PySem.W.nsIn K mainGlobals "_law_refused_right" = some (some (.ref f38)))
    (l38 : K.lookup f38 = some ⟨oc38, od38, .func (PySem.W.fnOf "_law_refused_right" "_law_refused_right" (defArgs sLwRefusedRight) (defBody sLwRefusedRight) (defScope sLwRefusedRight) .none kV38 dc38 pm38 an38 (.ref cRR) ct38), sl38⟩)
    (c38 : PySem.W.codeIn K (.ref cRR) "_law_refused_right" = true)
    (k38 : PySem.W.keepIn K (.ref f38) = true)
    (a39 : PySem.W.nsIn K mainGlobals "law" = some (some (.ref f39)))
    (l39 : K.lookup f39 = some ⟨oc39, od39, .func (PySem.W.fnOf "law" "law" (defArgs sLaw) (defBody sLaw) (defScope sLaw) .none kV39 dc39 pm39 an39 cd39 ct39), sl39⟩)
    (c39 : PySem.W.codeIn K cd39 "law" = true)
    (k39 : PySem.W.keepIn K (.ref f39) = true)
    (am0 : PySem.W.findIn K (.ref C) "__init__" = some (some (.ref fm0)))
    (im0 : PySem.W.isFn K (.ref fm0) = true)
    (lm0 : K.lookup fm0 = some ⟨ocm0, odm0, .func (PySem.W.fnOf "__init__" "Ring.__init__" (defArgs sRingInit) (defBody sRingInit) (defScope sRingInit) .none kVm0 dcm0 pmm0 anm0 cdm0 ctm0), slm0⟩)
    (cm0 : PySem.W.codeIn K cdm0 "Ring.__init__" = true)
    (km0 : PySem.W.keepIn K (.ref fm0) = true)
    (am1 : PySem.W.findIn K (.ref C) "__len__" = some (some (.ref fm1)))
    (im1 : PySem.W.isFn K (.ref fm1) = true)
    (lm1 : K.lookup fm1 = some ⟨ocm1, odm1, .func (PySem.W.fnOf "__len__" "Ring.__len__" (defArgs sRingLen) (defBody sRingLen) (defScope sRingLen) .none kVm1 dcm1 pmm1 anm1 cdm1 ctm1), slm1⟩)
    (cm1 : PySem.W.codeIn K cdm1 "Ring.__len__" = true)
    (km1 : PySem.W.keepIn K (.ref fm1) = true)
    (am2 : PySem.W.findIn K (.ref C) "length_of" = some (some (.ref fm2)))
    (im2 : PySem.W.isFn K (.ref fm2) = true)
    (lm2 : K.lookup fm2 = some ⟨ocm2, odm2, .func (PySem.W.fnOf "length_of" "Ring.length_of" (defArgs sRingLengthOf) (defBody sRingLengthOf) (defScope sRingLengthOf) .none kVm2 dcm2 pmm2 anm2 cdm2 ctm2), slm2⟩)
    (cm2 : PySem.W.codeIn K cdm2 "Ring.length_of" = true)
    (km2 : PySem.W.keepIn K (.ref fm2) = true)
    (am3 : PySem.W.findIn K (.ref C) "sort_of" = some (some (.ref fm3)))
    (im3 : PySem.W.isFn K (.ref fm3) = true)
    (lm3 : K.lookup fm3 = some ⟨ocm3, odm3, .func (PySem.W.fnOf "sort_of" "Ring.sort_of" (defArgs sRingSortOf) (defBody sRingSortOf) (defScope sRingSortOf) .none kVm3 dcm3 pmm3 anm3 cdm3 ctm3), slm3⟩)
    (cm3 : PySem.W.codeIn K cdm3 "Ring.sort_of" = true)
    (km3 : PySem.W.keepIn K (.ref fm3) = true)
    (am4 : PySem.W.findIn K (.ref CL) "__init__" = some (some (.ref fm4)))
    (im4 : PySem.W.isFn K (.ref fm4) = true)
    (lm4 : K.lookup fm4 = some ⟨ocm4, odm4, .func (PySem.W.fnOf "__init__" "LineUp.__init__" (defArgs sLineUpInit) (defBody sLineUpInit) (defScope sLineUpInit) .none kVm4 dcm4 pmm4 anm4 cdm4 ctm4), slm4⟩)
    (cm4 : PySem.W.codeIn K cdm4 "LineUp.__init__" = true)
    (km4 : PySem.W.keepIn K (.ref fm4) = true)
    (am5 : PySem.W.findIn K (.ref eR) "__init__" = some (some (.ref fm5)))
    (im5 : PySem.W.isFn K (.ref fm5) = true)
    (lm5 : K.lookup fm5 = some ⟨ocm5, odm5, .func (PySem.W.fnOf "__init__" "BadRing.__init__" (defArgs sBadRingInit) (defBody sBadRingInit) (defScope sBadRingInit) .none kVm5 dcm5 pmm5 anm5 cdm5 ctm5), slm5⟩)
    (cm5 : PySem.W.codeIn K cdm5 "BadRing.__init__" = true)
    (km5 : PySem.W.keepIn K (.ref fm5) = true)
    (tim5 : PySem.W.typeIn K (.ref fm5) = some (.type "function"))
    (am6 : PySem.W.findIn K (.ref eL) "__init__" = some (some (.ref fm6)))
    (im6 : PySem.W.isFn K (.ref fm6) = true)
    (lm6 : K.lookup fm6 = some ⟨ocm6, odm6, .func (PySem.W.fnOf "__init__" "BadLot.__init__" (defArgs sBadLotInit) (defBody sBadLotInit) (defScope sBadLotInit) .none kVm6 dcm6 pmm6 anm6 cdm6 ctm6), slm6⟩)
    (cm6 : PySem.W.codeIn K cdm6 "BadLot.__init__" = true)
    (km6 : PySem.W.keepIn K (.ref fm6) = true)
    (tim6 : PySem.W.typeIn K (.ref fm6) = some (.type "function"))
    (am7 : PySem.W.findIn K (.ref eN) "__init__" = some (some (.ref fm7)))
    (im7 : PySem.W.isFn K (.ref fm7) = true)
    (lm7 : K.lookup fm7 = some ⟨ocm7, odm7, .func (PySem.W.fnOf "__init__" "Missing.__init__" (defArgs sMissingInit) (defBody sMissingInit) (defScope sMissingInit) .none kVm7 dcm7 pmm7 anm7 cdm7 ctm7), slm7⟩)
    (cm7 : PySem.W.codeIn K cdm7 "Missing.__init__" = true)
    (km7 : PySem.W.keepIn K (.ref fm7) = true)
    (tim7 : PySem.W.typeIn K (.ref fm7) = some (.type "function"))
    (am8 : PySem.W.findIn K (.ref eT) "__init__" = some (some (.ref fm8)))
    (im8 : PySem.W.isFn K (.ref fm8) = true)
    (lm8 : K.lookup fm8 = some ⟨ocm8, odm8, .func (PySem.W.fnOf "__init__" "Twice.__init__" (defArgs sTwiceInit) (defBody sTwiceInit) (defScope sTwiceInit) .none kVm8 dcm8 pmm8 anm8 cdm8 ctm8), slm8⟩)
    (cm8 : PySem.W.codeIn K cdm8 "Twice.__init__" = true)
    (km8 : PySem.W.keepIn K (.ref fm8) = true)
    (tim8 : PySem.W.typeIn K (.ref fm8) = some (.type "function"))
    (am9 : PySem.W.findIn K (.ref eU) "__init__" = some (some (.ref fm9)))
    (im9 : PySem.W.isFn K (.ref fm9) = true)
    (lm9 : K.lookup fm9 = some ⟨ocm9, odm9, .func (PySem.W.fnOf "__init__" "BadLineUp.__init__" (defArgs sBadLineUpInit) (defBody sBadLineUpInit) (defScope sBadLineUpInit) .none kVm9 dcm9 pmm9 anm9 cdm9 ctm9), slm9⟩)
    (cm9 : PySem.W.codeIn K cdm9 "BadLineUp.__init__" = true)
    (km9 : PySem.W.keepIn K (.ref fm9) = true)
    (tim9 : PySem.W.typeIn K (.ref fm9) = some (.type "function"))
    (am10 : PySem.W.findIn K (.ref eM) "__init__" = some (some (.ref fm10)))
    (im10 : PySem.W.isFn K (.ref fm10) = true)
    (lm10 : K.lookup fm10 = some ⟨ocm10, odm10, .func (PySem.W.fnOf "__init__" "Misfit.__init__" (defArgs sMisfitInit) (defBody sMisfitInit) (defScope sMisfitInit) .none kVm10 dcm10 pmm10 anm10 cdm10 ctm10), slm10⟩)
    (cm10 : PySem.W.codeIn K cdm10 "Misfit.__init__" = true)
    (km10 : PySem.W.keepIn K (.ref fm10) = true)
    (tim10 : PySem.W.typeIn K (.ref fm10) = some (.type "function"))
    (am11 : PySem.W.findIn K (.ref CN) "__bool__" = some (some (.ref fm11)))
    (im11 : PySem.W.isFn K (.ref fm11) = true)
    (lm11 : K.lookup fm11 = some ⟨ocm11, odm11, .func (PySem.W.fnOf "__bool__" "Paper.__bool__" (defArgs sPaperBool) (defBody sPaperBool) (defScope sPaperBool) .none kVm11 dcm11 pmm11 anm11 cdm11 ctm11), slm11⟩)
    (cm11 : PySem.W.codeIn K cdm11 "Paper.__bool__" = true)
    (km11 : PySem.W.keepIn K (.ref fm11) = true)
    (am12 : PySem.W.findIn K (.ref CG) "__bool__" = some (some (.ref fm12)))
    (im12 : PySem.W.isFn K (.ref fm12) = true)
    (lm12 : K.lookup fm12 = some ⟨ocm12, odm12, .func (PySem.W.fnOf "__bool__" "Denial.__bool__" (defArgs sDenialBool) (defBody sDenialBool) (defScope sDenialBool) .none kVm12 dcm12 pmm12 anm12 cdm12 ctm12), slm12⟩)
    (cm12 : PySem.W.codeIn K cdm12 "Denial.__bool__" = true)
    (km12 : PySem.W.keepIn K (.ref fm12) = true)
    (rC_pg : PySem.W.plainGet K C Str.empty = true)
    (rC_hd : PySem.W.hasDictIn K C = true)
    (rC_po : PySem.W.plainOver K C = true)
    (rC_sa : PySem.W.findIn K (.ref C) "__setattr__" = some (some (.builtin "object.__setattr__")))
    (rC_mk : PySem.W.makesIn K C = true)
    (rC_kc : PySem.W.keepIn K (.ref C) = true)
    (rC_ha : PySem.W.findIn K (.ref C) "__class__" = some (some (.builtin "object.__class__")))
    (rC_hm : PySem.W.mroIn K C (.type "object") = some true)
    (rC_n_lengths : PySem.W.findIn K (.ref C) "lengths" = some none)
    (rC_n_total : PySem.W.findIn K (.ref C) "total" = some none)
    (rC_n_closes : PySem.W.findIn K (.ref C) "closes" = some none)
    (rC_n_is_clear : PySem.W.findIn K (.ref C) "is_clear" = some none)
    (rCL_pg : PySem.W.plainGet K CL Str.empty = true)
    (rCL_hd : PySem.W.hasDictIn K CL = true)
    (rCL_po : PySem.W.plainOver K CL = true)
    (rCL_sa : PySem.W.findIn K (.ref CL) "__setattr__" = some (some (.builtin "object.__setattr__")))
    (rCL_mk : PySem.W.makesIn K CL = true)
    (rCL_kc : PySem.W.keepIn K (.ref CL) = true)
    (rCL_ha : PySem.W.findIn K (.ref CL) "__class__" = some (some (.builtin "object.__class__")))
    (rCL_hm : PySem.W.mroIn K CL (.type "object") = some true)
    (rCL_n_strands : PySem.W.findIn K (.ref CL) "strands" = some none)
    (rCL_n_lots : PySem.W.findIn K (.ref CL) "lots" = some none)
    (rCL_n_many : PySem.W.findIn K (.ref CL) "many" = some none)
    (rCN_pg : PySem.W.plainGet K CN Str.empty = true)
    (rCN_hd : PySem.W.hasDictIn K CN = true)
    (rCN_po : PySem.W.plainOver K CN = true)
    (rCN_sa : PySem.W.findIn K (.ref CN) "__setattr__" = some (some (.builtin "object.__setattr__")))
    (rCN_mk : PySem.W.makesIn K CN = true)
    (rCN_kc : PySem.W.keepIn K (.ref CN) = true)
    (rCN_ha : PySem.W.findIn K (.ref CN) "__class__" = some (some (.builtin "object.__class__")))
    (rCN_hm : PySem.W.mroIn K CN (.type "object") = some true)
    (rCN_n_word : PySem.W.findIn K (.ref CN) "word" = some none)
    (rCN_n_parts : PySem.W.findIn K (.ref CN) "parts" = some none)
    (rCN_n_nets : PySem.W.findIn K (.ref CN) "nets" = some none)
    (rCG_pg : PySem.W.plainGet K CG Str.empty = true)
    (rCG_hd : PySem.W.hasDictIn K CG = true)
    (rCG_po : PySem.W.plainOver K CG = true)
    (rCG_sa : PySem.W.findIn K (.ref CG) "__setattr__" = some (some (.builtin "object.__setattr__")))
    (rCG_mk : PySem.W.makesIn K CG = true)
    (rCG_kc : PySem.W.keepIn K (.ref CG) = true)
    (rCG_ha : PySem.W.findIn K (.ref CG) "__class__" = some (some (.builtin "object.__class__")))
    (rCG_hm : PySem.W.mroIn K CG (.type "object") = some true)
    (rCG_n_word : PySem.W.findIn K (.ref CG) "word" = some none)
    (rCG_n_parts : PySem.W.findIn K (.ref CG) "parts" = some none)
    (rCG_n_lot : PySem.W.findIn K (.ref CG) "lot" = some none)
    (rCG_n_net : PySem.W.findIn K (.ref CG) "net" = some none)
    (rCG_n_others : PySem.W.findIn K (.ref CG) "others" = some none)
    (rhn : PySem.W.specialIn K (.builtin "object.__class__") "__get__" = some (some (.builtin "getset_descriptor.__get__")))
    (rht : PySem.W.takesIn K (.builtin "object.__class__") = some true)
    (kN : PySem.W.kitOne K (.type "NoneType") (.ref C) = some false)
    (kI : PySem.W.kitOne K (.type "int") (.ref C) = some false)
    (kS : PySem.W.kitOne K (.type "str") (.ref C) = some false)
    (kL : PySem.W.kitOne K (.type "list") (.ref C) = some false)
    (q_ro : PySem.W.kitOne K (.ref eR) (.ref eL) = some false)
    (q_no : PySem.W.kitOne K (.ref eN) (.ref eL) = some false)
    (q_nr : PySem.W.kitOne K (.ref eN) (.ref eR) = some false)
    (q_to : PySem.W.kitOne K (.ref eT) (.ref eL) = some false)
    (q_tr : PySem.W.kitOne K (.ref eT) (.ref eR) = some false)
    (q_tn : PySem.W.kitOne K (.ref eT) (.ref eN) = some false)
    (topS : (l.prog.main.scope.names.lookup ("super" : Str)).isSome = false)
    (thE : PySem.W.nsIn K cStatics "thirdparty.any" = some none)
    (tyP : PySem.W.typeIn K (.ref fPi) = some (.type "function"))
    (fnP : PySem.W.fnIn K fPi = true)
    (lPi : K.lookup fPi = some ⟨ocP, odP, .func (PySem.W.fnOf "__init__" "Paper.__init__" (defArgs sPaperInit) (defBody sPaperInit) (defScope sPaperInit) .none kVP dcP pmP anP cdP ctP), slP⟩)
    (cPi : PySem.W.codeIn K cdP "Paper.__init__" = true)
    (kPi : PySem.W.keepIn K (.ref fPi) = true)
    (aEiN : PySem.W.findIn K (.ref CN) "__init__" = some (some (.ref fEN)))
    (iEiN : PySem.W.isFn K (.ref fEN) = true)
    (lEiN : K.lookup fEN = some ⟨ocEN, odEN, .func (PySem.W.fnX "__init__" "Nets.__init__" (defArgs sNetsInit) (defBody sNetsInit) (defScope sNetsInit) [(("__class__" : Str), ccEN)] .none kVEN dcEN pmEN anEN (.ref cEN) ctEN), slEN⟩)
    (cEiN : PySem.W.codeIn K (.ref cEN) "Nets.__init__" = true)
    (kEiN : PySem.W.keepIn K (.ref fEN) = true)
    (loEN : K.lookup cEN = some ⟨cclEN, cddEN, .fields vsEN, ccsEN⟩)
    (vsE2N : vsEN[2]? = some (.str fileEN tfEN))
    (fiEN : ((l.prog.main.file : Str) == fileEN) = true)
    (ceEN : K.lookup ccEN = some ⟨kclEN, kcdEN, .cell (some (.ref CN)), kcsEN⟩)
    (mEEN : PySem.W.mroIn K CN (.ref CN) = some true)
    (toEN : PySem.W.ks_superIn K CN CN "__init__" = some (some (.ref fPi)))
    (aEiG : PySem.W.findIn K (.ref CG) "__init__" = some (some (.ref fEG)))
    (iEiG : PySem.W.isFn K (.ref fEG) = true)
    (lEiG : K.lookup fEG = some ⟨ocEG, odEG, .func (PySem.W.fnX "__init__" "TooGreat.__init__" (defArgs sTooGreatInit) (defBody sTooGreatInit) (defScope sTooGreatInit) [(("__class__" : Str), ccEG)] .none kVEG dcEG pmEG anEG (.ref cEG) ctEG), slEG⟩)
    (cEiG : PySem.W.codeIn K (.ref cEG) "TooGreat.__init__" = true)
    (kEiG : PySem.W.keepIn K (.ref fEG) = true)
    (loEG : K.lookup cEG = some ⟨cclEG, cddEG, .fields vsEG, ccsEG⟩)
    (vsE2G : vsEG[2]? = some (.str fileEG tfEG))
    (fiEG : ((l.prog.main.file : Str) == fileEG) = true)
    (ceEG : K.lookup ccEG = some ⟨kclEG, kcdEG, .cell (some (.ref CG)), kcsEG⟩)
    (mEEG : PySem.W.mroIn K CG (.ref CG) = some true)
    (toEG : PySem.W.ks_superIn K CG CG "__init__" = some (some (.ref fPi)))
    (z_int : PySem.W.nsIn K mainGlobals "int" = some none)
    (z_len : PySem.W.nsIn K mainGlobals "len" = some none)
    (z_abs : PySem.W.nsIn K mainGlobals "abs" = some none)
    (z_list : PySem.W.nsIn K mainGlobals "list" = some none)
    (z_tuple : PySem.W.nsIn K mainGlobals "tuple" = some none)
    (z_bool : PySem.W.nsIn K mainGlobals "bool" = some none)
    (z_range : PySem.W.nsIn K mainGlobals "range" = some none)
    (z_sum : PySem.W.nsIn K mainGlobals "sum" = some none)
    (z_max : PySem.W.nsIn K mainGlobals "max" = some none)
    (z_all : PySem.W.nsIn K mainGlobals "all" = some none)
    (z_any : PySem.W.nsIn K mainGlobals "any" = some none)
    (z_sorted : PySem.W.nsIn K mainGlobals "sorted" = some none)
    (z_enumerate : PySem.W.nsIn K mainGlobals "enumerate" = some none)
    (z_isinstance : PySem.W.nsIn K mainGlobals "isinstance" = some none)
    (z_super : PySem.W.nsIn K mainGlobals "super" = some none)
    (z_repr : PySem.W.nsIn K mainGlobals "repr" = some none)
    (g_MOST_LENGTH : PySem.W.nsIn K mainGlobals "MOST_LENGTH" = some (some (.int 1000000 tkMOST_LENGTH)))
    (g_LEAST_BARS : PySem.W.nsIn K mainGlobals "LEAST_BARS" = some (some (.int 3 tkLEAST_BARS)))
    (g_MOST_BARS : PySem.W.nsIn K mainGlobals "MOST_BARS" = some (some (.int 8 tkMOST_BARS)))
    (xeR : K.lookup eR = some (excClassObj nmeR qqeR eR NeR bseR bmeR true sneR subeR abeR coleR ddeR k0eR k1eR k2eR k3eR k5eR "ValueError.__new__"))
    (rveR : PySem.HandSPX.refsVE bmeR = true)
    (saeR : PySem.W.findIn K (.ref eR) "__setattr__" = some (some (.builtin "object.__setattr__")))
    (eCeR : PySem.W.subIn K (.ref eR) (.type "BaseException") = some true)
    (tCeR : PySem.W.typeIn K (.ref eR) = some (.type "type"))
    (kCeR : PySem.W.keepIn K (.ref eR) = true)
    (nfeRpart : PySem.W.findIn K (.ref eR) "part" = some none)
    (gaeR : PySem.W.findIn K (.ref eR) "__getattribute__" = some (some (.builtin "BaseException.__getattribute__")))
    (ggeR : PySem.W.findIn K (.ref eR) "__getattr__" = some none)
    (hdeR : PySem.W.hasDictIn K eR = true)
    (haeR : PySem.W.findIn K (.ref eR) "__class__" = some (some (.builtin "object.__class__")))
    (hmeR : PySem.W.mroIn K eR (.type "object") = some true)
    (sbeR : PySem.W.subIn K (.ref eR) (.ref eX) = some true)
    (xeL : K.lookup eL = some (excClassObj nmeL qqeL eL NeL bseL bmeL true sneL subeL abeL coleL ddeL k0eL k1eL k2eL k3eL k5eL "ValueError.__new__"))
    (rveL : PySem.HandSPX.refsVE bmeL = true)
    (saeL : PySem.W.findIn K (.ref eL) "__setattr__" = some (some (.builtin "object.__setattr__")))
    (eCeL : PySem.W.subIn K (.ref eL) (.type "BaseException") = some true)
    (tCeL : PySem.W.typeIn K (.ref eL) = some (.type "type"))
    (kCeL : PySem.W.keepIn K (.ref eL) = true)
    (nfeLpart : PySem.W.findIn K (.ref eL) "part" = some none)
    (gaeL : PySem.W.findIn K (.ref eL) "__getattribute__" = some (some (.builtin "BaseException.__getattribute__")))
    (ggeL : PySem.W.findIn K (.ref eL) "__getattr__" = some none)
    (hdeL : PySem.W.hasDictIn K eL = true)
    (haeL : PySem.W.findIn K (.ref eL) "__class__" = some (some (.builtin "object.__class__")))
    (hmeL : PySem.W.mroIn K eL (.type "object") = some true)
    (sbeL : PySem.W.subIn K (.ref eL) (.ref eX) = some true)
    (xeN : K.lookup eN = some (excClassObj nmeN qqeN eN NeN bseN bmeN true sneN subeN abeN coleN ddeN k0eN k1eN k2eN k3eN k5eN "ValueError.__new__"))
    (rveN : PySem.HandSPX.refsVE bmeN = true)
    (saeN : PySem.W.findIn K (.ref eN) "__setattr__" = some (some (.builtin "object.__setattr__")))
    (eCeN : PySem.W.subIn K (.ref eN) (.type "BaseException") = some true)
    (tCeN : PySem.W.typeIn K (.ref eN) = some (.type "type"))
    (kCeN : PySem.W.keepIn K (.ref eN) = true)
    (nfeNvalue : PySem.W.findIn K (.ref eN) "value" = some none)
    (gaeN : PySem.W.findIn K (.ref eN) "__getattribute__" = some (some (.builtin "BaseException.__getattribute__")))
    (ggeN : PySem.W.findIn K (.ref eN) "__getattr__" = some none)
    (hdeN : PySem.W.hasDictIn K eN = true)
    (haeN : PySem.W.findIn K (.ref eN) "__class__" = some (some (.builtin "object.__class__")))
    (hmeN : PySem.W.mroIn K eN (.type "object") = some true)
    (sbeN : PySem.W.subIn K (.ref eN) (.ref eX) = some true)
    (xeT : K.lookup eT = some (excClassObj nmeT qqeT eT NeT bseT bmeT true sneT subeT abeT coleT ddeT k0eT k1eT k2eT k3eT k5eT "ValueError.__new__"))
    (rveT : PySem.HandSPX.refsVE bmeT = true)
    (saeT : PySem.W.findIn K (.ref eT) "__setattr__" = some (some (.builtin "object.__setattr__")))
    (eCeT : PySem.W.subIn K (.ref eT) (.type "BaseException") = some true)
    (tCeT : PySem.W.typeIn K (.ref eT) = some (.type "type"))
    (kCeT : PySem.W.keepIn K (.ref eT) = true)
    (nfeTvalue : PySem.W.findIn K (.ref eT) "value" = some none)
    (gaeT : PySem.W.findIn K (.ref eT) "__getattribute__" = some (some (.builtin "BaseException.__getattribute__")))
    (ggeT : PySem.W.findIn K (.ref eT) "__getattr__" = some none)
    (hdeT : PySem.W.hasDictIn K eT = true)
    (haeT : PySem.W.findIn K (.ref eT) "__class__" = some (some (.builtin "object.__class__")))
    (hmeT : PySem.W.mroIn K eT (.type "object") = some true)
    (sbeT : PySem.W.subIn K (.ref eT) (.ref eX) = some true)
    (xeU : K.lookup eU = some (excClassObj nmeU qqeU eU NeU bseU bmeU true sneU subeU abeU coleU ddeU k0eU k1eU k2eU k3eU k5eU "ValueError.__new__"))
    (rveU : PySem.HandSPX.refsVE bmeU = true)
    (saeU : PySem.W.findIn K (.ref eU) "__setattr__" = some (some (.builtin "object.__setattr__")))
    (eCeU : PySem.W.subIn K (.ref eU) (.type "BaseException") = some true)
    (tCeU : PySem.W.typeIn K (.ref eU) = some (.type "type"))
    (kCeU : PySem.W.keepIn K (.ref eU) = true)
    (nfeUpart : PySem.W.findIn K (.ref eU) "part" = some none)
    (xeM : K.lookup eM = some (excClassObj nmeM qqeM eM NeM bseM bmeM true sneM subeM abeM coleM ddeM k0eM k1eM k2eM k3eM k5eM "ValueError.__new__"))
    (rveM : PySem.HandSPX.refsVE bmeM = true)
    (saeM : PySem.W.findIn K (.ref eM) "__setattr__" = some (some (.builtin "object.__setattr__")))
    (eCeM : PySem.W.subIn K (.ref eM) (.type "BaseException") = some true)
    (tCeM : PySem.W.typeIn K (.ref eM) = some (.type "type"))
    (kCeM : PySem.W.keepIn K (.ref eM) = true)
    (nfeMpart : PySem.W.findIn K (.ref eM) "part" = some none)
    (eCeX : PySem.W.subIn K (.ref eX) (.type "BaseException") = some true)
    (hdeX : PySem.W.hasDictIn K eX = true)
    (tCeX : PySem.W.typeIn K (.ref eX) = some (.type "type"))
    (lc1 : K.lookup cRR = some ⟨.type "code", odc1, .fields vsc1, slc1⟩)
    (hdc1 : PySem.W.codeHdIn [(cRR, ⟨.type "code", odc1, .fields vsc1, slc1⟩)] cRR P1 = true)
    (nT1 : K.lookup P1 = none)
    (hT1 : h.get? P1 = some { cls := .none, data := .fields #[] }) :
    LawAtG l w K CX0 15 63 "_law_script" mg fa h := by
  have e := hfa.symm.trans (PySem.W.mg_of X G a39)
  cases e
  have gl : ∀ {x : Str} {v : Value}, PySem.W.nsIn K mainGlobals x = some (some v) → mg x = some v := fun q => PySem.W.mg_of X G q
  have T : Bi mg := ⟨PySem.W.mg_none_of X G z_int, PySem.W.mg_none_of X G z_len, PySem.W.mg_none_of X G z_abs, PySem.W.mg_none_of X G z_list, PySem.W.mg_none_of X G z_tuple, PySem.W.mg_none_of X G z_bool, PySem.W.mg_none_of X G z_range, PySem.W.mg_none_of X G z_sum, PySem.W.mg_none_of X G z_max, PySem.W.mg_none_of X G z_all, PySem.W.mg_none_of X G z_any, PySem.W.mg_none_of X G z_sorted, PySem.W.mg_none_of X G z_enumerate, PySem.W.mg_none_of X G z_isinstance⟩
  have N : Nm mg := ⟨⟨_, gl g_MOST_LENGTH⟩, ⟨_, gl g_LEAST_BARS⟩, ⟨_, gl g_MOST_BARS⟩⟩
  have Tr : mg "repr" = none := PySem.W.mg_none_of X G z_repr
  have R : RingC K mg C := ⟨⟨rC_pg, rC_hd, rC_po, rC_sa⟩, rC_n_lengths, rC_n_total, rC_n_closes, rC_n_is_clear, gl aC, rC_ha, rhn, rht, rC_hm⟩
  have RL : LineC K mg CL := ⟨⟨rCL_pg, rCL_hd, rCL_po, rCL_sa⟩, rCL_n_strands, rCL_n_lots, rCL_n_many, gl aCL⟩
  have clN : Cls K CN := ⟨rCN_pg, rCN_hd, rCN_po, rCN_sa⟩
  have clG : Cls K CG := ⟨rCG_pg, rCG_hd, rCG_po, rCG_sa⟩
  have clL : Cls K CL := ⟨rCL_pg, rCL_hd, rCL_po, rCL_sa⟩
  have RN : NetsC K mg CN := ⟨⟨clN, rCN_n_word, rCN_n_parts⟩, rCN_n_nets, gl aCN⟩
  have TGC : TooGreatC K mg CG := ⟨⟨clG, rCG_n_word, rCG_n_parts⟩, rCG_n_lot, rCG_n_net, rCG_n_others, gl aCG⟩
  have EL : C8.InsC K CL := ⟨clL, rCL_ha, rhn, rht, rCL_hm, kit_self⟩
  have KT : KitT K C := ⟨kN, kI, kS, kL⟩
  have oeR : OexC K eR := ⟨⟨_, _, _, _, _, _, _, _, _, _, _, _, _, _, _, xeR, rveR⟩, saeR, eCeR, tCeR, kCeR⟩
  have oeL : OexC K eL := ⟨⟨_, _, _, _, _, _, _, _, _, _, _, _, _, _, _, xeL, rveL⟩, saeL, eCeL, tCeL, kCeL⟩
  have oeN : OexC K eN := ⟨⟨_, _, _, _, _, _, _, _, _, _, _, _, _, _, _, xeN, rveN⟩, saeN, eCeN, tCeN, kCeN⟩
  have oeT : OexC K eT := ⟨⟨_, _, _, _, _, _, _, _, _, _, _, _, _, _, _, xeT, rveT⟩, saeT, eCeT, tCeT, kCeT⟩
  have oeU : OexC K eU := ⟨⟨_, _, _, _, _, _, _, _, _, _, _, _, _, _, _, xeU, rveU⟩, saeU, eCeU, tCeU, kCeU⟩
  have oeM : OexC K eM := ⟨⟨_, _, _, _, _, _, _, _, _, _, _, _, _, _, _, xeM, rveM⟩, saeM, eCeM, tCeM, kCeM⟩
  have Hc : HeardC K mg ⟨eL, eR, eN, eT⟩ eX := ⟨gl aeX, gl aeL, ⟨gaeL, ggeL, eCeL, hdeL, haeL, rhn, rht, hmeL⟩, ⟨gaeL, ggeL, eCeL, hdeL⟩, PySem.W.exm_ref eCeX hdeX tCeX sbeL, nfeLpart, gl aeR, ⟨gaeR, ggeR, eCeR, hdeR, haeR, rhn, rht, hmeR⟩, ⟨gaeR, ggeR, eCeR, hdeR⟩, PySem.W.exm_ref eCeX hdeX tCeX sbeR, nfeRpart, gl aeN, ⟨gaeN, ggeN, eCeN, hdeN, haeN, rhn, rht, hmeN⟩, ⟨gaeN, ggeN, eCeN, hdeN⟩, PySem.W.exm_ref eCeX hdeX tCeX sbeN, nfeNvalue, gl aeT, ⟨gaeT, ggeT, eCeT, hdeT, haeT, rhn, rht, hmeT⟩, ⟨gaeT, ggeT, eCeT, hdeT⟩, PySem.W.exm_ref eCeX hdeX tCeX sbeT, nfeTvalue, q_ro, q_no, q_nr, q_to, q_tr, q_tn⟩
  have F0 := fun_mk (st := sIsInteger) l0 c0 k0
  have b0 := F0.binds (ps := ["value"]) fun _ _ _ _ _ _ us hl => match us, hl with | [_], _ => rfl
  have F1 := fun_mk (st := sIsWithin) l1 c1 k1
  have b1 := F1.binds (ps := ["value", "least", "most"]) fun _ _ _ _ _ _ us hl => match us, hl with | [_, _, _], _ => rfl
  have F2 := fun_mk (st := sIsList) l2 c2 k2
  have b2 := F2.binds (ps := ["value"]) fun _ _ _ _ _ _ us hl => match us, hl with | [_], _ => rfl
  have F3 := fun_mk (st := sIsNumbers) l3 c3 k3
  have b3 := F3.binds (ps := ["value"]) fun _ _ _ _ _ _ us hl => match us, hl with | [_], _ => rfl
  have F4 := fun_mk (st := sFixed) l4 c4 k4
  have b4 := F4.binds (ps := ["value"]) fun _ _ _ _ _ _ us hl => match us, hl with | [_], _ => rfl
  have F5 := fun_mk (st := sFirstTwice) l5 c5 k5
  have b5 := F5.binds (ps := ["values"]) fun _ _ _ _ _ _ us hl => match us, hl with | [_], _ => rfl
  have F6 := fun_mk (st := sTwiceAt) l6 c6 k6
  have b6 := F6.binds (ps := ["values"]) fun _ _ _ _ _ _ us hl => match us, hl with | [_], _ => rfl
  have F7 := fun_mk (st := sWantNumber) l7 c7 k7
  have b7 := F7.binds (ps := ["value", "least", "most", "part"]) fun _ _ _ _ _ _ us hl => match us, hl with | [_, _, _, _], _ => rfl
  have F8 := fun_mk (st := sWantBar) l8 c8 k8
  have b8 := F8.binds (ps := ["value", "many"]) fun _ _ _ _ _ _ us hl => match us, hl with | [_, _], _ => rfl
  have F9 := fun_mk (st := sWantLot) l9 c9 k9
  have b9 := F9.binds (ps := ["value", "many", "part"]) fun _ _ _ _ _ _ us hl => match us, hl with | [_, _, _], _ => rfl
  have F10 := fun_mk (st := sWantAsMany) l10 c10 k10
  have b10 := F10.binds (ps := ["one", "other"]) fun _ _ _ _ _ _ us hl => match us, hl with | [_, _], _ => rfl
  have F11 := fun_mk (st := sAreLengths) l11 c11 k11
  have b11 := F11.binds (ps := ["value"]) fun _ _ _ _ _ _ us hl => match us, hl with | [_], _ => rfl
  have F12 := fun_mk (st := sHasLevel) l12 c12 k12
  have b12 := F12.binds (ps := ["lengths"]) fun _ _ _ _ _ _ us hl => match us, hl with | [_], _ => rfl
  have F13 := fun_mk (st := sWantRing) l13 c13 k13
  have b13 := F13.binds (ps := ["value", "part"]) fun _ _ _ _ _ _ us hl => match us, hl with | [_, _], _ => rfl
  have F14 := fun_mk (st := sSortBy) l14 c14 k14
  have b14 := F14.binds (ps := ["excess"]) fun _ _ _ _ _ _ us hl => match us, hl with | [_], _ => rfl
  have F15 := fun_mk (st := sAreStrands) l15 c15 k15
  have b15 := F15.binds (ps := ["value"]) fun _ _ _ _ _ _ us hl => match us, hl with | [_], _ => rfl
  have F16 := fun_mk (st := sIsStrand) l16 c16 k16
  have b16 := F16.binds (ps := ["value"]) fun _ _ _ _ _ _ us hl => match us, hl with | [_], _ => rfl
  have F17 := fun_mk (st := sAsStrand) l17 c17 k17
  have b17 := F17.binds (ps := ["pairs"]) fun _ _ _ _ _ _ us hl => match us, hl with | [_], _ => rfl
  have F18 := fun_mk (st := sWithAlone) l18 c18 k18
  have b18 := F18.binds (ps := ["many", "strands"]) fun _ _ _ _ _ _ us hl => match us, hl with | [_, _], _ => rfl
  have F19 := fun_mk (st := sPointing) l19 c19 k19
  have b19 := F19.binds (ps := ["many", "lot"]) fun _ _ _ _ _ _ us hl => match us, hl with | [_, _], _ => rfl
  have F20 := fun_mk (st := sCanLine) l20 c20 k20
  have b20 := F20.binds (ps := ["ring", "lineup"]) fun _ _ _ _ _ _ us hl => match us, hl with | [_, _], _ => rfl
  have F21 := fun_mk (st := sCanPoint) l21 c21 k21
  have b21 := F21.binds (ps := ["ring", "lot"]) fun _ _ _ _ _ _ us hl => match us, hl with | [_, _], _ => rfl
  have F22 := fun_mk (st := sAgainst) l22 c22 k22
  have b22 := F22.binds (ps := ["ring", "one", "other"]) fun _ _ _ _ _ _ us hl => match us, hl with | [_, _, _], _ => rfl
  have F23 := fun_mk (st := sNetsOf) l23 c23 k23
  have b23 := F23.binds (ps := ["ring", "lineup"]) fun _ _ _ _ _ _ us hl => match us, hl with | [_, _], _ => rfl
  have F24 := fun_mk (st := sTooGreat) l24 c24 k24
  have b24 := F24.binds (ps := ["nets"]) fun _ _ _ _ _ _ us hl => match us, hl with | [_], _ => rfl
  have F25 := fun_mk (st := sIsHad) l25 c25 k25
  have b25 := F25.binds (ps := ["ring", "lineup"]) fun _ _ _ _ _ _ us hl => match us, hl with | [_, _], _ => rfl
  have F26 := fun_mk (st := sWantLineup) l26 c26 k26
  have b26 := F26.binds (ps := ["value", "part"]) fun _ _ _ _ _ _ us hl => match us, hl with | [_, _], _ => rfl
  have F27 := fun_mk (st := sWantLined) l27 c27 k27
  have b27 := F27.binds (ps := ["ring", "lineup"]) fun _ _ _ _ _ _ us hl => match us, hl with | [_, _], _ => rfl
  have F28 := fun_mk (st := sLwBench) l28 c28 k28
  have b28 := F28.binds (ps := ["_law_script"]) fun _ _ _ _ _ _ us hl => match us, hl with | [_], _ => rfl
  have F29 := fun_mk (st := sLwDraw) l29 c29 k29
  have b29 := F29.binds (ps := ["_law_bench_here", "_law_many"]) fun _ _ _ _ _ _ us hl => match us, hl with | [_, _], _ => rfl
  have F30 := fun_mk (st := sLwPick) l30 c30 k30
  have b30 := F30.binds (ps := ["_law_bench_here", "_law_some"]) fun _ _ _ _ _ _ us hl => match us, hl with | [_, _], _ => rfl
  have F31 := fun_mk (st := sLwMixed) l31 c31 k31
  have b31 := F31.binds (ps := ["_law_bench_here", "_law_some"]) fun _ _ _ _ _ _ us hl => match us, hl with | [_, _], _ => rfl
  have F32 := fun_mk (st := sLwLengths) l32 c32 k32
  have b32 := F32.binds (ps := ["_law_bench_here", "_law_many"]) fun _ _ _ _ _ _ us hl => match us, hl with | [_, _], _ => rfl
  have F33 := fun_mk (st := sLwIsHome) l33 c33 k33
  have b33 := F33.binds (ps := ["_law_nets"]) fun _ _ _ _ _ _ us hl => match us, hl with | [_], _ => rfl
  have F34 := fun_mk (st := sLwLots) l34 c34 k34
  have b34 := F34.binds (ps := ["_law_many"]) fun _ _ _ _ _ _ us hl => match us, hl with | [_], _ => rfl
  have F35 := fun_mk (st := sLwPointsRight) l35 c35 k35
  have b35 := F35.binds (ps := ["_law_bench_here", "_law_lengths_here"]) fun _ _ _ _ _ _ us hl => match us, hl with | [_, _], _ => rfl
  have F36 := fun_mk (st := sLwAgainstRight) l36 c36 k36
  have b36 := F36.binds (ps := ["_law_bench_here", "_law_lengths_here"]) fun _ _ _ _ _ _ us hl => match us, hl with | [_, _], _ => rfl
  have F37 := fun_mk (st := sLwHeard) l37 c37 k37
  have b37 := F37.binds (ps := ["_law_ask"]) fun _ _ _ _ _ _ us hl => match us, hl with | [_], _ => rfl
  have F38 : FunC K "_law_refused_right" "_law_refused_right" sLwRefusedRight f38 _ cRR := ⟨⟨_, _, _, _, _, _, _, _, rfl, l38, c38⟩⟩
  have F380 := fun_mk (st := sLwRefusedRight) l38 c38 k38
  have b38 := F380.binds (ps := ["_law_bench_here", "_law_lengths_here"]) fun _ _ _ _ _ _ us hl => match us, hl with | [_, _], _ => rfl
  have F39 := fun_mk (st := sLaw) l39 c39 k39
  have b39 := F39.binds (ps := ["_law_script"]) fun _ _ _ _ _ _ us hl => match us, hl with | [_], _ => rfl
  have Fm0 := fun_mk (st := sRingInit) lm0 cm0 km0
  have bm0 := Fm0.binds (ps := ["self", "lengths"]) fun _ _ _ _ _ _ us hl => match us, hl with | [_, _], _ => rfl
  have Fm1 := fun_mk (st := sRingLen) lm1 cm1 km1
  have bm1 := Fm1.binds (ps := ["self"]) fun _ _ _ _ _ _ us hl => match us, hl with | [_], _ => rfl
  have Fm2 := fun_mk (st := sRingLengthOf) lm2 cm2 km2
  have bm2 := Fm2.binds (ps := ["self", "lot"]) fun _ _ _ _ _ _ us hl => match us, hl with | [_, _], _ => rfl
  have Fm3 := fun_mk (st := sRingSortOf) lm3 cm3 km3
  have bm3 := Fm3.binds (ps := ["self", "lot"]) fun _ _ _ _ _ _ us hl => match us, hl with | [_, _], _ => rfl
  have Fm4 := fun_mk (st := sLineUpInit) lm4 cm4 km4
  have bm4 := Fm4.binds (ps := ["self", "strands"]) fun _ _ _ _ _ _ us hl => match us, hl with | [_, _], _ => rfl
  have Fm5 := fun_mk (st := sBadRingInit) lm5 cm5 km5
  have bm5 := Fm5.binds (ps := ["self", "part"]) fun _ _ _ _ _ _ us hl => match us, hl with | [_, _], _ => rfl
  have Fm6 := fun_mk (st := sBadLotInit) lm6 cm6 km6
  have bm6 := Fm6.binds (ps := ["self", "part"]) fun _ _ _ _ _ _ us hl => match us, hl with | [_, _], _ => rfl
  have Fm7 := fun_mk (st := sMissingInit) lm7 cm7 km7
  have bm7 := Fm7.binds (ps := ["self", "value"]) fun _ _ _ _ _ _ us hl => match us, hl with | [_, _], _ => rfl
  have Fm8 := fun_mk (st := sTwiceInit) lm8 cm8 km8
  have bm8 := Fm8.binds (ps := ["self", "value"]) fun _ _ _ _ _ _ us hl => match us, hl with | [_, _], _ => rfl
  have Fm9 := fun_mk (st := sBadLineUpInit) lm9 cm9 km9
  have bm9 := Fm9.binds (ps := ["self", "part"]) fun _ _ _ _ _ _ us hl => match us, hl with | [_, _], _ => rfl
  have Fm10 := fun_mk (st := sMisfitInit) lm10 cm10 km10
  have bm10 := Fm10.binds (ps := ["self", "part"]) fun _ _ _ _ _ _ us hl => match us, hl with | [_, _], _ => rfl
  have Fm11 := fun_mk (st := sPaperBool) lm11 cm11 km11
  have bm11 := Fm11.binds (ps := ["self"]) fun _ _ _ _ _ _ us hl => match us, hl with | [_], _ => rfl
  have Fm12 := fun_mk (st := sDenialBool) lm12 cm12 km12
  have bm12 := Fm12.binds (ps := ["self"]) fun _ _ _ _ _ _ us hl => match us, hl with | [_], _ => rfl
  refine ⟨PySem.W.fnOf "law" "law" (defArgs sLaw) (defBody sLaw) (defScope sLaw) .none kV39 dc39 pm39 an39 cd39 ct39, [(cRR, P1)], spLaw K (T1 P1), fun p hp => ?_, fun p hp => ?_, fun p hp => ?_, fun s v => .of_eq rfl, fun H a ns hl _ hT' hs => ?_, fun base KB GB TB => ?_⟩
  · rw [List.mem_singleton.mp hp]; exact hT1
  · rw [List.mem_singleton.mp hp]; exact nT1
  · rw [List.mem_singleton.mp hp]; exact PySem.W.codeHd_of_K X (code_hd lc1 hdc1)
  · refine ⟨a, ns, rfl, hs, by omega, fun p hp => ?_, fun _ => rfl⟩
    rw [List.mem_singleton.mp hp]; exact TabS.nil (hT' _ (List.mem_singleton.mpr rfl))
  · have tb1 := TB _ (List.mem_singleton.mpr rfl)
    have hm1 : (P1, qRf) ∈ T1 P1 := List.mem_singleton.mpr rfl
    have hu1 : ∀ p ∈ T1 P1, p.1 = P1 → p.2 = qRf := fun p hp _ => by rw [List.mem_singleton.mp hp]
    have dInt := (⟨ok_isInt F0 T, gl a0, k0, b0⟩ : DefAt l.prog w K mg base _ _ "is_integer" _ _ _ _)
    have dList := (⟨ok_isList F2 T, gl a2, k2, b2⟩ : DefAt l.prog w K mg base _ _ "is_list" _ _ _ _)
    have dWith := (⟨ok_within F1 dInt, gl a1, k1, b1⟩ : DefAt l.prog w K mg base _ _ "is_within" _ _ _ _)
    have dWG := (⟨ok_withinG F1 dInt, gl a1, k1, b1⟩ : DefAt l.prog w K mg base _ _ "is_within" _ _ _ _)
    have dNO := (⟨ok_numsO F3 T dInt dList, gl a3, k3, b3⟩ : DefAt l.prog w K mg base _ _ "is_numbers" _ _ _ _)
    have dNL := (⟨ok_numsL F3 T dInt dList, gl a3, k3, b3⟩ : DefAt l.prog w K mg base _ _ "is_numbers" _ _ _ _)
    have dNT := (⟨ok_numsT F3 T dInt dList, gl a3, k3, b3⟩ : DefAt l.prog w K mg base _ _ "is_numbers" _ _ _ _)
    have eR' : ErrAt l.prog w K mg base "BadRing" "part" eR fm5 _ := ⟨oeR, am5, tim5, nfeRpart, gl aeR, bm5, ok_badRingI Fm5⟩
    have eL' : ErrAt l.prog w K mg base "BadLot" "part" eL fm6 _ := ⟨oeL, am6, tim6, nfeLpart, gl aeL, bm6, ok_badLotI Fm6⟩
    have eN' : ErrAt l.prog w K mg base "NoBar" "value" eN fm7 _ := ⟨oeN, am7, tim7, nfeNvalue, gl aeN, bm7, ok_missingI Fm7⟩
    have eT' : ErrAt l.prog w K mg base "Twice" "value" eT fm8 _ := ⟨oeT, am8, tim8, nfeTvalue, gl aeT, bm8, ok_twiceI Fm8⟩
    have eU' : ErrAt l.prog w K mg base "BadLineUp" "part" eU fm9 _ := ⟨oeU, am9, tim9, nfeUpart, gl aeU, bm9, ok_badLineUpI Fm9⟩
    have eM' : ErrAt l.prog w K mg base "Misfit" "part" eM fm10 _ := ⟨oeM, am10, tim10, nfeMpart, gl aeM, bm10, ok_misfitI Fm10⟩
    have dFx := (⟨ok_fixed F4 T, gl a4, k4, b4⟩ : DefAt l.prog w K mg base _ _ "fixed" _ _ _ _)
    have dAtL := (⟨ok_taL F6 T dFx, gl a6, k6, b6⟩ : DefAt l.prog w K mg base _ _ "twice_at" _ _ _ _)
    have dAtT := (⟨ok_taT F6 T dFx, gl a6, k6, b6⟩ : DefAt l.prog w K mg base _ _ "twice_at" _ _ _ _)
    have dTwL := (⟨ok_twL F5 dFx dAtL, gl a5, k5, b5⟩ : DefAt l.prog w K mg base _ _ "first_twice" _ _ _ _)
    have dTwT := (⟨ok_twT F5 dFx dAtT, gl a5, k5, b5⟩ : DefAt l.prog w K mg base _ _ "first_twice" _ _ _ _)
    have dF2 := at_fz (P := l.prog) (w := w) (base := base) F4 T (gl a4) k4 b4 2
    have dWB := (⟨ok_wantBar F8 dWith eN', gl a8, k8, b8⟩ : DefAt l.prog w K mg base _ _ "want_bar" _ _ _ _)
    have dWBG := (⟨ok_barG F8 dWG eN', gl a8, k8, b8⟩ : DefAt l.prog w K mg base _ _ "want_bar" _ _ _ _)
    have w1 := ok_wlO (c := ⟨eL, eN, eT⟩) F9 T dNO dWB dTwL eL' eT'
    have w2 := ok_wlL (c := ⟨eL, eN, eT⟩) F9 T dNL dWB dTwL eL' eT'
    have w3 := ok_wlT (c := ⟨eL, eN, eT⟩) F9 T dNT dWB dTwT eL' eT'
    have u2 := ok_wsL (c := ⟨eL, eN, eT⟩) F9 T dNL dWB dTwL eL' eT'
    have u3 := ok_wsT (c := ⟨eL, eN, eT⟩) F9 T dNT dWB dTwT eL' eT'
    have dWLt := (⟨ok_wl w1 w2 w3, gl a9, k9, b9⟩ : DefAt l.prog w K mg base _ _ "want_lot" _ _ _ _)
    have dWLA := (⟨ok_wla w1 u2 u3, gl a9, k9, b9⟩ : DefAt l.prog w K mg base _ _ "want_lot" _ _ _ _)
    have dWLc := (⟨fn_calm dWLA.ok, gl a9, k9, b9⟩ : DefAt l.prog w K mg base _ _ "want_lot" _ _ _ _)
    have dSB := (⟨ok_sortBy F14, gl a14, k14, b14⟩ : DefAt l.prog w K mg base _ _ "sort_by" _ _ _ _)
    have dAL := (⟨ok_areL F11 T N dWith dList, gl a11, k11, b11⟩ : DefAt l.prog w K mg base _ _ "are_lengths" _ _ _ _)
    have dHL := (⟨ok_hasL F12 T, gl a12, k12, b12⟩ : DefAt l.prog w K mg base _ _ "has_level" _ _ _ _)
    have dNC := (⟨ok_numC F7 dWith, gl a7, k7, b7⟩ : DefAt l.prog w K mg base _ _ "want_number" _ _ _ _)
    have Gp : RingP l.prog w K mg base C fm0 _ := ⟨⟨rC_mk, am0, im0, rC_kc⟩, ok_ri (P := l.prog) (w := w) (base := base) Fm0 T N R dAL dHL, bm0⟩
    have NL := ok_rlen (P := l.prog) (w := w) (base := base) Fm1 T R
    have NM : Meth K C "__len__" fm1 := ⟨am1, im1, km1⟩
    have gLO := ok_lenOf (P := l.prog) (w := w) (base := base) Fm2 T R dWLt
    have gSO := ok_sortOf (P := l.prog) (w := w) (base := base) Fm3 R ⟨am2, im2, km2⟩ gLO bm2 dSB
    have dWR := (⟨ok_wantR F13 T R eR', gl a13, k13, b13⟩ : DefAt l.prog w K mg base _ _ "want_ring" _ _ _ _)
    have dIS := (⟨ok_is F16 T dList dNT, gl a16, k16, b16⟩ : DefAt l.prog w K mg base _ _ "is_strand" _ _ _ _)
    have dASs := (⟨ok_asS F17 T, gl a17, k17, b17⟩ : DefAt l.prog w K mg base _ _ "as_strand" _ _ _ _)
    have dAre := (⟨ok_are F15 T N dList dIS, gl a15, k15, b15⟩ : DefAt l.prog w K mg base _ _ "are_strands" _ _ _ _)
    have Lp : LineP l.prog w K mg base CL fm4 _ := ⟨⟨rCL_mk, am4, im4, rCL_kc⟩, ok_lu (P := l.prog) (w := w) (base := base) Fm4 T RL dAre dASs dF2, bm4⟩
    have dWM := (⟨ok_asM F10 eM', gl a10, k10, b10⟩ : DefAt l.prog w K mg base _ _ "want_as_many" _ _ _ _)
    have dWU := (⟨ok_wantU F26 T (gl aCL) EL eU', gl a26, k26, b26⟩ : DefAt l.prog w K mg base _ _ "want_lineup" _ _ _ _)
    have dWL := (⟨ok_wld F27 T RL NM NL bm1 dWR dWU dWM, gl a27, k27, b27⟩ : DefAt l.prog w K mg base _ _ "want_lined" _ _ _ _)
    have dNe := (⟨ok_nets F23 T R RL, gl a23, k23, b23⟩ : DefAt l.prog w K mg base _ _ "nets_of" _ _ _ _)
    have dTG := (⟨ok_tg F24 T, gl a24, k24, b24⟩ : DefAt l.prog w K mg base _ _ "too_great" _ _ _ _)
    have FPi := fun_mk (st := sPaperInit) lPi cPi kPi
    have PI1 := ok_pi (P := l.prog) (w := w) (mg := mg) (base := base) (n := 1) FPi dF2
    have FEiN : FunS K "__init__" "Nets.__init__" sNetsInit fEN cEN ccEN _ := ⟨⟨_, _, _, _, _, _, _, _, rfl, lEiN, cEiN⟩, kEiN⟩
    have bEiN := FEiN.binds (ps := ["self", "nets"]) fun _ _ _ _ _ us hl => match us, hl with | [_, _], _ => rfl
    have SAN : SupAt l.prog K mg (nfS sNetsInit "__init__" "Nets.__init__" ccEN cEN) fEN CN ccEN := ⟨rfl, ⟨_, rfl, rfl⟩, ⟨_, _, _, _, _, _, loEN, vsE2N, fiEN⟩, ⟨_, _, _, ceEN⟩, (let ⟨cd, hc, _⟩ := PySem.W.any_some clN.hd; ⟨cd, hc⟩), PySem.W.mg_none_of X G z_super, topS, show (defScope sNetsInit).names.lookup ("super" : Str) = some .globalImplicit by decide +kernel⟩
    have STN : SupTo K CN CN fPi := ⟨mEEN, thE, toEN, tyP, fnP⟩
    have FEiG : FunS K "__init__" "TooGreat.__init__" sTooGreatInit fEG cEG ccEG _ := ⟨⟨_, _, _, _, _, _, _, _, rfl, lEiG, cEiG⟩, kEiG⟩
    have bEiG := FEiG.binds (ps := ["self", "lot", "net", "others"]) fun _ _ _ _ _ us hl => match us, hl with | [_, _, _, _], _ => rfl
    have SAG : SupAt l.prog K mg (nfS sTooGreatInit "__init__" "TooGreat.__init__" ccEG cEG) fEG CG ccEG := ⟨rfl, ⟨_, rfl, rfl⟩, ⟨_, _, _, _, _, _, loEG, vsE2G, fiEG⟩, ⟨_, _, _, ceEG⟩, (let ⟨cd, hc, _⟩ := PySem.W.any_some clG.hd; ⟨cd, hc⟩), PySem.W.mg_none_of X G z_super, topS, show (defScope sTooGreatInit).names.lookup ("super" : Str) = some .globalImplicit by decide +kernel⟩
    have STG : SupTo K CG CG fPi := ⟨mEEG, thE, toEG, tyP, fnP⟩
    have NP : NetsP l.prog w K mg base CN fEN _ := ⟨⟨rCN_mk, aEiN, iEiN, rCN_kc⟩, ok_ni (P := l.prog) (w := w) (base := base) (n := 1) FEiN SAN RN STN PI1, bEiN⟩
    have GP : TooGreatP l.prog w K mg base CG fEG _ := ⟨⟨rCG_mk, aEiG, iEiG, rCG_kc⟩, ok_gi (P := l.prog) (w := w) (base := base) (n := 1) FEiG SAG TGC STG PI1, bEiG⟩
    have dCL := (⟨ok_cl F20 T RL RN TGC NP GP dWL dNe dTG, gl a20, k20, b20⟩ : DefAt l.prog w K mg base _ _ "can_line" _ _ _ _)
    have dCLc := (⟨ok_clc dCL.ok, gl a20, k20, b20⟩ : DefAt l.prog w K mg base _ _ "can_line" _ _ _ _)
    have dCLb := (⟨ok_clb dCLc.ok, gl a20, k20, b20⟩ : DefAt l.prog w K mg base _ _ "can_line" _ _ _ _)
    have dIH := (⟨ok_ih F25 T dNe dTG, gl a25, k25, b25⟩ : DefAt l.prog w K mg base _ _ "is_had" _ _ _ _)
    have dWA := (⟨ok_wa F18 T, gl a18, k18, b18⟩ : DefAt l.prog w K mg base _ _ "with_alone" _ _ _ _)
    have dPO := (⟨ok_po F19 T N Lp RL dNC dWLc dWA, gl a19, k19, b19⟩ : DefAt l.prog w K mg base _ _ "pointing" _ _ _ _)
    have dCP := (⟨ok_cp F21 T R NM NL bm1 dWR dWLA ⟨am3, im3, km3⟩ gSO bm3, gl a21, k21, b21⟩ : DefAt l.prog w K mg base _ _ "can_point" _ _ _ _)
    have dCPc := (⟨ok_cpc dCP.ok, gl a21, k21, b21⟩ : DefAt l.prog w K mg base _ _ "can_point" _ _ _ _)
    have dAG := (⟨ok_ag F22 T R NM NL bm1 dWR dWBG eT' dIH dWA Lp RL, gl a22, k22, b22⟩ : DefAt l.prog w K mg base _ _ "against" _ _ _ _)
    have dAGc := (⟨ok_agc dAG.ok, gl a22, k22, b22⟩ : DefAt l.prog w K mg base _ _ "against" _ _ _ _)
    have BN : PapB l.prog w K mg base CN fm11 _ true := ⟨ok_PBT Fm11, bm11, am11, im11⟩
    have BG : PapB l.prog w K mg base CG fm12 _ false := ⟨ok_PBF Fm12, bm12, am12, im12⟩
    have kcp : KBinds K _ ["ring", "lot"] ["lot", "ring"] gK2 gK2 := kb_cp (fun a b s => .of_eq rfl) (fd := PySem.W.fnOf "can_point" "can_point" (defArgs sCanPoint) (defBody sCanPoint) (defScope sCanPoint) .none kV21 dc21 pm21 an21 cd21 ct21)
    have kag : KBinds K _ ["ring", "one", "other"] ["other", "one", "ring"] gK3 gK3 := kb_ag (fun v a b s => .of_eq rfl) (fd := PySem.W.fnOf "against" "against" (defArgs sAgainst) (defBody sAgainst) (defScope sAgainst) .none kV22 dc22 pm22 an22 cd22 ct22)
    have dDr : DrawAt l.prog w K mg base _ _ := ⟨ok_draw F29 T, gl a29, k29, b29⟩
    have dPn := (⟨ok_pen F28 T, gl a28, k28, b28⟩ : DefAt l.prog w K mg base _ _ "_law_bench" _ _ _ _)
    have dPk := (⟨ok_pick F30 T dDr, gl a30, k30, b30⟩ : DefAt l.prog w K mg base _ _ "_law_pick" _ _ _ _)
    have dMx := (⟨ok_mixed F31 T dDr, gl a31, k31, b31⟩ : DefAt l.prog w K mg base _ _ "_law_mixed" _ _ _ _)
    have dLn := (⟨ok_lengths F32 T dDr, gl a32, k32, b32⟩ : DefAt l.prog w K mg base _ _ "_law_lengths" _ _ _ _)
    have dHM := (⟨ok_hm F33 T, gl a33, k33, b33⟩ : DefAt l.prog w K mg base _ _ "_law_is_home" _ _ _ _)
    have dLO := (⟨ok_lo F34 T, gl a34, k34, b34⟩ : DefAt l.prog w K mg base _ _ "_law_lots" _ _ _ _)
    have dPR := (⟨ok_pts F35 T dDr dPk dMx dLO Gp R dHM dCPc kcp dPO dCLb BN BG, gl a35, k35, b35⟩ : DefAt l.prog w K mg base _ _ "_law_points_right" _ _ _ _)
    have dAR := (⟨ok_agr F36 T dDr dPk Gp R dHM dAGc kag dCLc Lp RL BN BG, gl a36, k36, b36⟩ : DefAt l.prog w K mg base _ _ "_law_against_right" _ _ _ _)
    have dRR := (⟨ok_rr (hc := ⟨eL, eR, eN, eT⟩) F38 T Tr Gp R dPk dCP dAG Hc tb1 hm1 hu1 KT F37 b37 (gl a37), gl a38, k38, b38⟩ : DefAtG l.prog w K mg base _ _ "_law_refused_right" _ _ _ _)
    exact ok_law F39 T dPn dLn dPk dPR dAR dRR
end K
local macro_rules | `(tactic| o_head ($_:ident $k $a $_ $ts)) => `(tactic| refine K.head51 (Kf := $k) (as := $a) (ts := $ts) (fun _ => by kernel_rfl) (fun w os => by kernel_rfl) ?$(Lean.mkIdent `hw) ?$(Lean.mkIdent `hc))
open PySem PySem.W PyProof.Rows in
set_option maxRecDepth 100000 in
set_option maxHeartbeats 0 in
theorem PySem.Challenge.cw_ringbars_k51_pointing_one_way_and_agains_holds : PySem.Challenge.rw_ringbars_k51_pointing_one_way_and_agains.Holds := by
  w_on; o_law; k_head; (case hw => w_witness2)
  k_fill
  refine LamX.walk_ofG (la := PySem.Challenge.rw_ringbars_k51_pointing_one_way_and_agains) (mo := 63) (lev := 15) (xn := "_law_script") (Cx1 := fun _ => L2.CX0) rfl (by decide) rfl ⟨rfl, by decide, by decide⟩ (fun w h Y => K.kk_in_of Y) ?F (fun _ _ _ _ _ z => z)
  case F =>
    intro w mg fa h Y KX G hmg
    rw [K.d51_name] at hmg
    refine' K.all_mk KX G hmg ?aC ?aCL ?aCN ?aCG ?aeX ?aeR ?aeL ?aeN ?aeT ?aeU ?aeM ?a0 ?l0 ?c0 ?k0 ?a1 ?l1 ?c1 ?k1 ?a2 ?l2 ?c2 ?k2 ?a3 ?l3 ?c3 ?k3 ?a4 ?l4 ?c4 ?k4 ?a5 ?l5 ?c5 ?k5 ?a6 ?l6 ?c6 ?k6 ?a7 ?l7 ?c7 ?k7 ?a8 ?l8 ?c8 ?k8 ?a9 ?l9 ?c9 ?k9 ?a10 ?l10 ?c10 ?k10 ?a11 ?l11 ?c11 ?k11 ?a12 ?l12 ?c12 ?k12 ?a13 ?l13 ?c13 ?k13 ?a14 ?l14 ?c14 ?k14 ?a15 ?l15 ?c15 ?k15 ?a16 ?l16 ?c16 ?k16 ?a17 ?l17 ?c17 ?k17 ?a18 ?l18 ?c18 ?k18 ?a19 ?l19 ?c19 ?k19 ?a20 ?l20 ?c20 ?k20 ?a21 ?l21 ?c21 ?k21 ?a22 ?l22 ?c22 ?k22 ?a23 ?l23 ?c23 ?k23 ?a24 ?l24 ?c24 ?k24 ?a25 ?l25 ?c25 ?k25 ?a26 ?l26 ?c26 ?k26 ?a27 ?l27 ?c27 ?k27 ?a28 ?l28 ?c28 ?k28 ?a29 ?l29 ?c29 ?k29 ?a30 ?l30 ?c30 ?k30 ?a31 ?l31 ?c31 ?k31 ?a32 ?l32 ?c32 ?k32 ?a33 ?l33 ?c33 ?k33 ?a34 ?l34 ?c34 ?k34 ?a35 ?l35 ?c35 ?k35 ?a36 ?l36 ?c36 ?k36 ?a37 ?l37 ?c37 ?k37 ?a38 ?l38 ?c38 ?k38 ?a39 ?l39 ?c39 ?k39 ?am0 ?im0 ?lm0 ?cm0 ?km0 ?am1 ?im1 ?lm1 ?cm1 ?km1 ?am2 ?im2 ?lm2 ?cm2 ?km2 ?am3 ?im3 ?lm3 ?cm3 ?km3 ?am4 ?im4 ?lm4 ?cm4 ?km4 ?am5 ?im5 ?lm5 ?cm5 ?km5 ?tim5 ?am6 ?im6 ?lm6 ?cm6 ?km6 ?tim6 ?am7 ?im7 ?lm7 ?cm7 ?km7 ?tim7 ?am8 ?im8 ?lm8 ?cm8 ?km8 ?tim8 ?am9 ?im9 ?lm9 ?cm9 ?km9 ?tim9 ?am10 ?im10 ?lm10 ?cm10 ?km10 ?tim10 ?am11 ?im11 ?lm11 ?cm11 ?km11 ?am12 ?im12 ?lm12 ?cm12 ?km12 ?rC_pg ?rC_hd ?rC_po ?rC_sa ?rC_mk ?rC_kc ?rC_ha ?rC_hm ?rC_n_lengths ?rC_n_total ?rC_n_closes ?rC_n_is_clear ?rCL_pg ?rCL_hd ?rCL_po ?rCL_sa ?rCL_mk ?rCL_kc ?rCL_ha ?rCL_hm ?rCL_n_strands ?rCL_n_lots ?rCL_n_many ?rCN_pg ?rCN_hd ?rCN_po ?rCN_sa ?rCN_mk ?rCN_kc ?rCN_ha ?rCN_hm ?rCN_n_word ?rCN_n_parts ?rCN_n_nets ?rCG_pg ?rCG_hd ?rCG_po ?rCG_sa ?rCG_mk ?rCG_kc ?rCG_ha ?rCG_hm ?rCG_n_word ?rCG_n_parts ?rCG_n_lot ?rCG_n_net ?rCG_n_others ?rhn ?rht ?kN ?kI ?kS ?kL ?q_ro ?q_no ?q_nr ?q_to ?q_tr ?q_tn ?topS ?thE ?tyP ?fnP ?lPi ?cPi ?kPi ?aEiN ?iEiN ?lEiN ?cEiN ?kEiN ?loEN ?vsE2N ?fiEN ?ceEN ?mEEN ?toEN ?aEiG ?iEiG ?lEiG ?cEiG ?kEiG ?loEG ?vsE2G ?fiEG ?ceEG ?mEEG ?toEG ?z_int ?z_len ?z_abs ?z_list ?z_tuple ?z_bool ?z_range ?z_sum ?z_max ?z_all ?z_any ?z_sorted ?z_enumerate ?z_isinstance ?z_super ?z_repr ?g_MOST_LENGTH ?g_LEAST_BARS ?g_MOST_BARS ?xeR ?rveR ?saeR ?eCeR ?tCeR ?kCeR ?nfeRpart ?gaeR ?ggeR ?hdeR ?haeR ?hmeR ?sbeR ?xeL ?rveL ?saeL ?eCeL ?tCeL ?kCeL ?nfeLpart ?gaeL ?ggeL ?hdeL ?haeL ?hmeL ?sbeL ?xeN ?rveN ?saeN ?eCeN ?tCeN ?kCeN ?nfeNvalue ?gaeN ?ggeN ?hdeN ?haeN ?hmeN ?sbeN ?xeT ?rveT ?saeT ?eCeT ?tCeT ?kCeT ?nfeTvalue ?gaeT ?ggeT ?hdeT ?haeT ?hmeT ?sbeT ?xeU ?rveU ?saeU ?eCeU ?tCeU ?kCeU ?nfeUpart ?xeM ?rveM ?saeM ?eCeM ?tCeM ?kCeM ?nfeMpart ?eCeX ?hdeX ?tCeX ?lc1 ?hdc1 ?nT1 ?hT1
    (case hT1 => exact K.kk_tabs_of Y (List.mem_cons_self ..) (by decide +kernel))
    (case aC => k_is)
    (case aCL => k_is)
    (case aCN => k_is)
    (case aCG => k_is)
    (case aeX => k_is)
    (case aeR => k_is)
    (case aeL => k_is)
    (case aeN => k_is)
    (case aeT => k_is)
    (case aeU => k_is)
    (case aeM => k_is)
    (case a0 => k_is)
    (case l0 => k_is)
    (case c0 => k_is)
    (case k0 => k_is)
    (case a1 => k_is)
    (case l1 => k_is)
    (case c1 => k_is)
    (case k1 => k_is)
    (case a2 => k_is)
    (case l2 => k_is)
    (case c2 => k_is)
    (case k2 => k_is)
    (case a3 => k_is)
    (case l3 => k_is)
    (case c3 => k_is)
    (case k3 => k_is)
    (case a4 => k_is)
    (case l4 => k_is)
    (case c4 => k_is)
    (case k4 => k_is)
    (case a5 => k_is)
    (case l5 => k_is)
    (case c5 => k_is)
    (case k5 => k_is)
    (case a6 => k_is)
    (case l6 => k_is)
    (case c6 => k_is)
    (case k6 => k_is)
    (case a7 => k_is)
    (case l7 => k_is)
    (case c7 => k_is)
    (case k7 => k_is)
    (case a8 => k_is)
    (case l8 => k_is)
    (case c8 => k_is)
    (case k8 => k_is)
    (case a9 => k_is)
    (case l9 => k_is)
    (case c9 => k_is)
    (case k9 => k_is)
    (case a10 => k_is)
    (case l10 => k_is)
    (case c10 => k_is)
    (case k10 => k_is)
    (case a11 => k_is)
    (case l11 => k_is)
    (case c11 => k_is)
    (case k11 => k_is)
    (case a12 => k_is)
    (case l12 => k_is)
    (case c12 => k_is)
    (case k12 => k_is)
    (case a13 => k_is)
    (case l13 => k_is)
    (case c13 => k_is)
    (case k13 => k_is)
    (case a14 => k_is)
    (case l14 => k_is)
    (case c14 => k_is)
    (case k14 => k_is)
    (case a15 => k_is)
    (case l15 => k_is)
    (case c15 => k_is)
    (case k15 => k_is)
    (case a16 => k_is)
    (case l16 => k_is)
    (case c16 => k_is)
    (case k16 => k_is)
    (case a17 => k_is)
    (case l17 => k_is)
    (case c17 => k_is)
    (case k17 => k_is)
    (case a18 => k_is)
    (case l18 => k_is)
    (case c18 => k_is)
    (case k18 => k_is)
    (case a19 => k_is)
    (case l19 => k_is)
    (case c19 => k_is)
    (case k19 => k_is)
    (case a20 => k_is)
    (case l20 => k_is)
    (case c20 => k_is)
    (case k20 => k_is)
    (case a21 => k_is)
    (case l21 => k_is)
    (case c21 => k_is)
    (case k21 => k_is)
    (case a22 => k_is)
    (case l22 => k_is)
    (case c22 => k_is)
    (case k22 => k_is)
    (case a23 => k_is)
    (case l23 => k_is)
    (case c23 => k_is)
    (case k23 => k_is)
    (case a24 => k_is)
    (case l24 => k_is)
    (case c24 => k_is)
    (case k24 => k_is)
    (case a25 => k_is)
    (case l25 => k_is)
    (case c25 => k_is)
    (case k25 => k_is)
    (case a26 => k_is)
    (case l26 => k_is)
    (case c26 => k_is)
    (case k26 => k_is)
    (case a27 => k_is)
    (case l27 => k_is)
    (case c27 => k_is)
    (case k27 => k_is)
    (case a28 => k_is)
    (case l28 => k_is)
    (case c28 => k_is)
    (case k28 => k_is)
    (case a29 => k_is)
    (case l29 => k_is)
    (case c29 => k_is)
    (case k29 => k_is)
    (case a30 => k_is)
    (case l30 => k_is)
    (case c30 => k_is)
    (case k30 => k_is)
    (case a31 => k_is)
    (case l31 => k_is)
    (case c31 => k_is)
    (case k31 => k_is)
    (case a32 => k_is)
    (case l32 => k_is)
    (case c32 => k_is)
    (case k32 => k_is)
    (case a33 => k_is)
    (case l33 => k_is)
    (case c33 => k_is)
    (case k33 => k_is)
    (case a34 => k_is)
    (case l34 => k_is)
    (case c34 => k_is)
    (case k34 => k_is)
    (case a35 => k_is)
    (case l35 => k_is)
    (case c35 => k_is)
    (case k35 => k_is)
    (case a36 => k_is)
    (case l36 => k_is)
    (case c36 => k_is)
    (case k36 => k_is)
    (case a37 => k_is)
    (case l37 => k_is)
    (case c37 => k_is)
    (case k37 => k_is)
    (case a38 => k_is)
    (case l38 => k_is)
    (case c38 => k_is)
    (case k38 => k_is)
    (case a39 => k_is)
    (case l39 => k_is)
    (case c39 => k_is)
    (case k39 => k_is)
    (case am0 => k_is)
    (case im0 => k_is)
    (case lm0 => k_is)
    (case cm0 => k_is)
    (case km0 => k_is)
    (case am1 => k_is)
    (case im1 => k_is)
    (case lm1 => k_is)
    (case cm1 => k_is)
    (case km1 => k_is)
    (case am2 => k_is)
    (case im2 => k_is)
    (case lm2 => k_is)
    (case cm2 => k_is)
    (case km2 => k_is)
    (case am3 => k_is)
    (case im3 => k_is)
    (case lm3 => k_is)
    (case cm3 => k_is)
    (case km3 => k_is)
    (case am4 => k_is)
    (case im4 => k_is)
    (case lm4 => k_is)
    (case cm4 => k_is)
    (case km4 => k_is)
    (case am5 => k_is)
    (case im5 => k_is)
    (case lm5 => k_is)
    (case cm5 => k_is)
    (case km5 => k_is)
    (case tim5 => k_is)
    (case am6 => k_is)
    (case im6 => k_is)
    (case lm6 => k_is)
    (case cm6 => k_is)
    (case km6 => k_is)
    (case tim6 => k_is)
    (case am7 => k_is)
    (case im7 => k_is)
    (case lm7 => k_is)
    (case cm7 => k_is)
    (case km7 => k_is)
    (case tim7 => k_is)
    (case am8 => k_is)
    (case im8 => k_is)
    (case lm8 => k_is)
    (case cm8 => k_is)
    (case km8 => k_is)
    (case tim8 => k_is)
    (case am9 => k_is)
    (case im9 => k_is)
    (case lm9 => k_is)
    (case cm9 => k_is)
    (case km9 => k_is)
    (case tim9 => k_is)
    (case am10 => k_is)
    (case im10 => k_is)
    (case lm10 => k_is)
    (case cm10 => k_is)
    (case km10 => k_is)
    (case tim10 => k_is)
    (case am11 => k_is)
    (case im11 => k_is)
    (case lm11 => k_is)
    (case cm11 => k_is)
    (case km11 => k_is)
    (case am12 => k_is)
    (case im12 => k_is)
    (case lm12 => k_is)
    (case cm12 => k_is)
    (case km12 => k_is)
    (case rC_pg => k_is)
    (case rC_hd => k_is)
    (case rC_po => k_is)
    (case rC_sa => k_is)
    (case rC_mk => k_is)
    (case rC_kc => k_is)
    (case rC_ha => k_is)
    (case rC_hm => k_is)
    (case rC_n_lengths => k_is)
    (case rC_n_total => k_is)
    (case rC_n_closes => k_is)
    (case rC_n_is_clear => k_is)
    (case rCL_pg => k_is)
    (case rCL_hd => k_is)
    (case rCL_po => k_is)
    (case rCL_sa => k_is)
    (case rCL_mk => k_is)
    (case rCL_kc => k_is)
    (case rCL_ha => k_is)
    (case rCL_hm => k_is)
    (case rCL_n_strands => k_is)
    (case rCL_n_lots => k_is)
    (case rCL_n_many => k_is)
    (case rCN_pg => k_is)
    (case rCN_hd => k_is)
    (case rCN_po => k_is)
    (case rCN_sa => k_is)
    (case rCN_mk => k_is)
    (case rCN_kc => k_is)
    (case rCN_ha => k_is)
    (case rCN_hm => k_is)
    (case rCN_n_word => k_is)
    (case rCN_n_parts => k_is)
    (case rCN_n_nets => k_is)
    (case rCG_pg => k_is)
    (case rCG_hd => k_is)
    (case rCG_po => k_is)
    (case rCG_sa => k_is)
    (case rCG_mk => k_is)
    (case rCG_kc => k_is)
    (case rCG_ha => k_is)
    (case rCG_hm => k_is)
    (case rCG_n_word => k_is)
    (case rCG_n_parts => k_is)
    (case rCG_n_lot => k_is)
    (case rCG_n_net => k_is)
    (case rCG_n_others => k_is)
    (case rhn => k_is)
    (case rht => k_is)
    (case kN => kit_is)
    (case kI => kit_is)
    (case kS => kit_is)
    (case kL => kit_is)
    (case q_ro => kit_is)
    (case q_no => kit_is)
    (case q_nr => kit_is)
    (case q_to => kit_is)
    (case q_tr => kit_is)
    (case q_tn => kit_is)
    (case topS => first | rfl | decide +kernel)
    (case thE => k_is)
    (case aEiN => k_is)
    (case iEiN => k_is)
    (case lEiN => k_is)
    (case cEiN => k_is)
    (case kEiN => k_is)
    (case loEN => k_is)
    (case vsE2N => rfl)
    (case fiEN => first | rfl | decide +kernel)
    (case ceEN => k_is)
    (case mEEN => k_is)
    (case toEN => ks_is)
    (case tyP => k_is)
    (case fnP => k_is)
    (case lPi => k_is)
    (case cPi => k_is)
    (case kPi => k_is)
    (case aEiG => k_is)
    (case iEiG => k_is)
    (case lEiG => k_is)
    (case cEiG => k_is)
    (case kEiG => k_is)
    (case loEG => k_is)
    (case vsE2G => rfl)
    (case fiEG => first | rfl | decide +kernel)
    (case ceEG => k_is)
    (case mEEG => k_is)
    (case toEG => ks_is)
    (case z_int => k_is)
    (case z_len => k_is)
    (case z_abs => k_is)
    (case z_list => k_is)
    (case z_tuple => k_is)
    (case z_bool => k_is)
    (case z_range => k_is)
    (case z_sum => k_is)
    (case z_max => k_is)
    (case z_all => k_is)
    (case z_any => k_is)
    (case z_sorted => k_is)
    (case z_enumerate => k_is)
    (case z_isinstance => k_is)
    (case z_super => k_is)
    (case z_repr => k_is)
    (case g_MOST_LENGTH => k_is)
    (case g_LEAST_BARS => k_is)
    (case g_MOST_BARS => k_is)
    (case xeR => k_is)
    (case rveR => first | (with_reducible rfl) | decide +kernel | k_is)
    (case saeR => k_is)
    (case eCeR => k_is)
    (case tCeR => k_is)
    (case kCeR => k_is)
    (case nfeRpart => k_is)
    (case gaeR => k_is)
    (case ggeR => k_is)
    (case hdeR => k_is)
    (case haeR => k_is)
    (case hmeR => k_is)
    (case sbeR => k_is)
    (case xeL => k_is)
    (case rveL => first | (with_reducible rfl) | decide +kernel | k_is)
    (case saeL => k_is)
    (case eCeL => k_is)
    (case tCeL => k_is)
    (case kCeL => k_is)
    (case nfeLpart => k_is)
    (case gaeL => k_is)
    (case ggeL => k_is)
    (case hdeL => k_is)
    (case haeL => k_is)
    (case hmeL => k_is)
    (case sbeL => k_is)
    (case xeN => k_is)
    (case rveN => first | (with_reducible rfl) | decide +kernel | k_is)
    (case saeN => k_is)
    (case eCeN => k_is)
    (case tCeN => k_is)
    (case kCeN => k_is)
    (case nfeNvalue => k_is)
    (case gaeN => k_is)
    (case ggeN => k_is)
    (case hdeN => k_is)
    (case haeN => k_is)
    (case hmeN => k_is)
    (case sbeN => k_is)
    (case xeT => k_is)
    (case rveT => first | (with_reducible rfl) | decide +kernel | k_is)
    (case saeT => k_is)
    (case eCeT => k_is)
    (case tCeT => k_is)
    (case kCeT => k_is)
    (case nfeTvalue => k_is)
    (case gaeT => k_is)
    (case ggeT => k_is)
    (case hdeT => k_is)
    (case haeT => k_is)
    (case hmeT => k_is)
    (case sbeT => k_is)
    (case xeU => k_is)
    (case rveU => first | (with_reducible rfl) | decide +kernel | k_is)
    (case saeU => k_is)
    (case eCeU => k_is)
    (case tCeU => k_is)
    (case kCeU => k_is)
    (case nfeUpart => k_is)
    (case xeM => k_is)
    (case rveM => first | (with_reducible rfl) | decide +kernel | k_is)
    (case saeM => k_is)
    (case eCeM => k_is)
    (case tCeM => k_is)
    (case kCeM => k_is)
    (case nfeMpart => k_is)
    (case eCeX => k_is)
    (case hdeX => k_is)
    (case tCeX => k_is)
    (case lc1 => k_is)
    (case hdc1 => first | rfl | decide +kernel | with_unfolding_all rfl)
    (case nT1 => exact K.kk_out_of Y (by decide +kernel))
