import PyProof.Rows.All
import Wide.All
import OpenK.AllK
import Wide.FinOn
import HandS.ForMost
import HandS.IsInst
import HandS.Strs
import HandS.ExcInit
import HandS.ExcField
import HandS.ExcIs
import HandS.TryOnly
import HandS.Lambda
import HandS.EndTab
import HandS.Flow
import HandS.SortInts
import HandS.SortRule
import HandS.SortKw
import KE.KTupSum
import HandS.NamedTupSort
import PyProof.P3Eq
import HandS.ReCall
import HandS.OwnEq
import HandS.TupAny
import HandS.Deep
import PyProof.InstNe
import KE.SortKeyHeap
import HandS.Walk
import KE.GoesEnum
import HandS.Evl
import HandS.WordsExc
import KE.KExcIs
import HandS.DictComp
import KE.GoesZip
import KE.KDictZip
import HandS.Zip
import PyProof.P3In
import HandS.Conv
import HandS.Style
import KE.SortData
import HandS.SetFor
import HandS.Codes
import HandS.Star
import KE.KTypeName
import KE.KSuper
import HandS.ClsMeth
import HandS.Nested
import HandS.Records
import HandS.Words
import PyProof.Rows.SetFrom
import PyProof.Rows.Range3
import PyProof.Conv_bool
import PyProof.NeKinds
import HandS.MakeKwOnly
import KE.KNestM
import KE.OsRunLaw
import PySem.Challenge.RW_ringbars_k53_most_bars_on_one_line
set_option Elab.async false
set_option linter.all false
set_option maxRecDepth 100000
set_option maxHeartbeats 4000000
/-! ## rules of our own, for what the rings' program says and the layer has no rule for -/
namespace Rg
open PySem PySem.Spec PyProof.Rows L2

/-! ### f(k = v, ..), oj.m(k = v, ..) -/
section
variable {X : Cx} {CX : CXT} {k : Nat} {f C : Addr} {fd : FuncData} {ps ks : List Str} {sp : Sp} {E : XK} {x m : Str} {p pos apos : Pos} {oj : Expr} {kws : List Keyword} {ta : TE} {tkn : TA}
variable {g : List Value → List Value → List Value} {gV : List V → List V → List V}
theorem pe_callK0 (F : FnOk X.prog X.w X.K X.mg X.base CX k f fd ps sp) (hr : Room k X.A) (hg : Gl X x) (hmm : X.mg x = some (.ref f)) (hk : PySem.W.keepIn X.K (.ref f) = true) (hb : KBinds X.K fd ps ks g gV) (hx : Passes CX X E)
    (hkw : PK X kws tkn) (hall : (backToKw pos (keywordEach kws X.env)).all (·.1.isSome) = true := by rfl) (hks : (backToKw pos (keywordEach kws X.env)).filterMap (·.1) = ks := by rfl)
    (hdb : (x == ("__debug__" : Str)) = false := by decide)
    (hpl : ((backTo pos (starEach [] X.env)).any (·.1) || (backToKw pos (keywordEach kws X.env)).any (·.1.isNone)) = false := by rfl) :
    PE X (.Call (.Name x p) [] kws pos) (tCallK sp gV E tNil tkn) := by
  refine ⟨fun pns s σs Hh Qq Iv h => ?_⟩
  refine wpAny_Call_Name_kw (ld_glob Iv hg hmm ?_ hdb)
  refine PySem.W.callWith_KW0 (h₀ := X.base) Iv.ok.mod.kin hk hall ?_ hpl
  refine thn (hkw.run pos pns s σs Hh _ Iv h) fun kvs2 sh2 ⟨zvs, H2, I2, rlz, q2⟩ => ⟨I2.kIn, ?_⟩
  rw [hks]
  exact run_fnk (us := []) (vs := []) F hr hb hx I2 .nil rlz q2
/-- oj.m(k = v, ..) -/
def tMethK (C : Addr) (m : Str) (sp : Sp) (gV : List V → List V → List V) (E : XK) (ta : TE) (tkn : TA) : TE := fun σs Hh Qq => ta σs Hh fun x H1 => ∃ a dx fs, x = .ref a ∧ H1 a = some (.ins C dx fs) ∧ fs.lookup m = none ∧
  tkn σs H1 fun zvs H2 => sp (gV [.ref a] zvs) H2 Qq E
theorem pe_methK0 {pl : Sem Bool} (he : PE X oj ta) (c : Cls X.K C) (hmm : Meth X.K C m f) (F : FnOk X.prog X.w X.K X.mg X.base CX k f fd ps sp) (hr : Room k X.A) (hb : KBinds X.K fd ps ks g gV) (hx : Passes CX X E)
    (hkw : PK X kws tkn) (hall : (backToKw pos (keywordEach kws X.env)).all (·.1.isSome) = true := by rfl) (hks : (backToKw pos (keywordEach kws X.env)).filterMap (·.1) = ks := by rfl)
    (hpl : ((backTo pos (starEach [] X.env)).any (·.1) || (backToKw pos (keywordEach kws X.env)).any (·.1.isNone)) = false := by rfl)
    (ht : eval (.Call (.Attribute oj m apos) [] kws pos) X.env = (do
      let ov ← eval oj X.env
      standAt apos.atName
      let (f, first) ← holding [ov] (getMethod ov m pl)
      callWith pos f first (backTo pos (starEach [] X.env)) (backToKw pos (keywordEach kws X.env))) := by rfl) :
    PE X (.Call (.Attribute oj m apos) [] kws pos) (tMethK C m sp gV E ta tkn) := by
  refine ⟨fun pns s σs Hh Qq Iv h => ?_⟩
  refine PySem.W.methodCall_KW (pl := pl) (thn (he.run pns s σs Hh _ Iv h) fun u sh1 ⟨x, H1, I1, rlx, a, dx, fs, ex, eqa, l, qq⟩ => ?_) ht
  subst ex
  obtain rfl : u = Value.ref a := rlx
  refine getmeth_ok I1 eqa c hmm l ?_
  refine PySem.W.callWith_KW0 (first := [.ref a]) (h₀ := X.base) Iv.ok.mod.kin hmm.kp hall ?_ hpl
  refine thn (hkw.run pos pns sh1 σs H1 _ I1 qq) fun kvs2 sh2 ⟨zvs, H2, I2, rlz, q2⟩ => ⟨I2.kIn, ?_⟩
  rw [hks]
  exact run_fnk (us := [.ref a]) (vs := [.ref a]) F hr hb hx I2 (.cons rfl .nil) rlz q2
end

/-! ### len(oj), the instance's own __len__ -/
section
variable {X : Cx} {k : Nat} {f : Addr} {fd : FuncData} {sp : Sp}
def rLenO (K : PySem.W.Frag) (f : Addr) (sp : Sp) : List V → Hp → VK → Prop := fun vxs Hh Qq => ∃ a C dx fs, vxs = [.ref a] ∧ Hh a = some (.ins C dx fs) ∧ PySem.W.findIn K (.ref C) "__len__" = some (some (.ref f)) ∧ PySem.W.isFn K (.ref f) = true ∧
  sp [.ref a] Hh (fun v H' => ∃ n : Int, v = .int n ∧ 0 ≤ n ∧ n < 2 ^ 63 ∧ Qq (.int n) H') E0
theorem call_lenO (F : FnOk X.prog X.w X.K X.mg X.base CX0 k f fd ["self"] sp) (hr : Room (k + 1) X.A) (hb : Binds X.K fd ["self"] []) : CallR X (.builtin "len") (rLenO X.K f sp) := by
  intro pns s σs Hh vxs uvs Qq Iv r h
  obtain ⟨a, C, dx, fs, rfl, eqa, hs, hf, qq⟩ := h
  obtain ⟨u, rfl, rlu⟩ := vals1 r
  obtain rfl : u = Value.ref a := rlu
  obtain ⟨mA, O, _, _, _, _⟩ := ins_get Iv.hok eqa
  obtain ⟨m, fr⟩ := Iv.fr
  obtain ⟨od, hod⟩ : ∃ od, s.heap.get? dx = some od := let ⟨oj, _, _, e', _⟩ := O.ns; ⟨oj, e'⟩
  refine PySem.W.len_K fr Iv.ok.mod.kin (ox := PySem.W.instObj C dx) (C := C) (od := some od) ⟨O.obj, rfl, rfl, hod⟩ hs hf ?_
  have hlst : ([Value.ref a] ++ []).length = (["self"] : List Str).length := rfl
  refine wpAny_call (codeAny_mono (F.run X.A.in1 X.stack s Hh ⟨[.ref a], []⟩ [.ref a] [.ref a] _ E0 hr.in1 Iv.env0.in1 (hb s [.ref a] Iv.kIn hlst) (.cons rfl .nil) qq) fun r s' hsq => ?_)
  cases r with
  | error e => exact hsq.elim
  | ok fl =>
    cases fl with
    | ret u =>
      obtain ⟨v, H', I3, rlv, n, ev, h0, hh1, q3⟩ := Iv.after hsq
      subst ev
      obtain ⟨t, rfl⟩ := rlv
      exact ⟨⟨h0, hh1⟩, ⟨.int n, H', I3.tok _, ⟨_, rfl⟩, q3⟩⟩
    | next => exact False.elim hsq
    | brk => exact False.elim hsq
    | cont => exact False.elim hsq
end

/-! ### sum, max of a tuple of ints; vls index -/
section
variable {prog : Program} {w : World} {A : Around} {E : Value → Shared → Prop} {s : Shared} {l : Addr} {vls : List Value} {nms : List Int} {Qq : Value → Shared → Prop}
theorem isTuple_of {h : Heap} (x : IsTup h l vls.toArray) : h.IsTuple l vls.toArray := x
theorem sumT_raw (hcal : A.handled = none) (hlst : s.heap.IsTuple l vls.toArray) (hint : IntsAre vls nms)
    (h : ∀ h' tkn t', (∀ b oj, s.heap.get? b = some oj → h'.get? b = some oj) → Qq (.int nms.sum t') { s with heap := h', toks := tkn }) : wpAny (model prog w) A (call (.builtin "sum") [.ref l]) Qq E s := by
  obtain ⟨vxs, e⟩ := hint.allInts.items
  have hnn : numsOf (intItems vxs).toList = nms := by rw [← e]; exact hint.numsOf
  rw [nums_intItems] at hnn
  rw [e] at hlst
  refine PySem.W.ktm_sumG hcal hlst fun h' tkn t' hk => ?_
  have := h h' tkn t' hk
  rw [preSum_eq, List.take_of_length_le (by simp), hnn]; exact this
end
section
variable {X : Cx}
def rSumT (K : PySem.W.Frag) : List V → Hp → VK → Prop := fun vs Hh Qq => ∃ (a : Addr) (nms : List Int), vs = [V.ref a] ∧ SqT K Hh a (nms.map V.int) ∧ Qq (.int nms.sum) Hh
theorem cr_sumT (hc : X.calm = true) : CallR X (.builtin "sum") (rSumT X.K) := by
  intro pns s σs Hh vs uvs Qq Iv r h
  obtain ⟨a, nms, rfl, hs, qq⟩ := h
  obtain ⟨vls, rlv, hlst, _⟩ := Iv.tuple hs
  rw [Vals.ref1 r]
  exact sumT_raw (Iv.ok.hd hc) (isTuple_of hlst) rlv.ints fun h' tkn t' hk => ⟨.int _, Hh, Iv.kept hk, ⟨_, rfl⟩, qq⟩
end
end Rg
namespace Rg
open PySem PySem.Spec PyProof.Rows L2
/-! ### max of a tuple of ints, vls index, isinstance of a caught error with fields -/
section
variable {prog : Program} {w : World} {A : Around} {E : Value → Shared → Prop} {s : Shared} {l : Addr} {vls : List Value} {nms : List Int} {Qq : Value → Shared → Prop}
theorem max_intTup {vxs : Array (Int × Tok)} (hcal : A.handled = none) (ht : s.heap.IsTuple l (intItems vxs)) (hpos : 0 < vxs.size)
    (h : ∀ v h' tkn, (intItems vxs)[argBest (fun i j => decide (numAt vxs i > numAt vxs j)) (vxs.size - 1)]? = some v → (∀ b oj, s.heap.get? b = some oj → h'.get? b = some oj) → Qq v { s with heap := h', toks := tkn }) :
    wpAny (model prog w) A (call (.builtin "max") [.ref l]) Qq E s := by
  obtain ⟨oj, hob, hc, n, hd⟩ := id ht
  have hI : l ≠ s.heap.objs.size := Nat.ne_of_lt (Heap.lt_size hob)
  refine call_max_walk (wpAny_pyIter_tuple ht ?_)
  refine ⟨s.heap.objs.size, _, _, _, _, _, _, rfl, Walks.tuple (A := A.in1) hcal _ l hI (intItems vxs), ⟨⟨_, Heap.get?_push_size _ rfl, rfl, rfl⟩, ht.at fun oj e => Heap.get?_push_of_some _ e⟩, fun b hb => ?_, by simpa [intItems] using hpos, CmpOf.ints_gt (numAt vxs) (fun _ _ => intItems_at), fun v h' tkn hP hk => ?_⟩
  · rcases List.mem_cons.mp hb with rfl | hb
    · exact Heap.lt_size (Heap.get?_push_size _ rfl)
    · obtain rfl := List.mem_singleton.mp hb
      exact Heap.lt_size (Heap.get?_push_of_some _ hob)
  · refine h v h' tkn (by simpa [intItems] using hP) fun b oj e => ?_
    exact hk b oj (fun hb => absurd (Heap.lt_size e) ((List.mem_singleton.mp hb) ▸ Nat.lt_irrefl _)) (Heap.get?_push_of_some _ e)
theorem maxT_raw (hcal : A.handled = none) (hlst : s.heap.IsTuple l vls.toArray) (hint : IntsAre vls nms) (hpos : 0 < nms.length)
    (h : ∀ h' tkn M t', (∀ b oj, s.heap.get? b = some oj → h'.get? b = some oj) → M ∈ nms → (∀ a, a ∈ nms → a ≤ M) → Qq (.int M t') { s with heap := h', toks := tkn }) : wpAny (model prog w) A (call (.builtin "max") [.ref l]) Qq E s := by
  obtain ⟨vxs, e⟩ := hint.allInts.items
  have hnn : numsOf (intItems vxs).toList = nms := by rw [← e]; exact hint.numsOf
  rw [nums_intItems] at hnn
  subst hnn
  rw [e] at hlst
  have hsz : 0 < vxs.size := by simpa using hpos
  refine max_intTup hcal hlst hsz fun v h' tkn hval hk => ?_
  obtain ⟨t, rfl⟩ := intItems_at hval
  obtain ⟨hh1, hh2⟩ := argBest_gt (numAt vxs) (vxs.size - 1)
  refine h h' tkn _ t hk ?_ fun a ha => ?_
  · rw [numAt_eq]; exact PySem.getD_mem (by rw [List.length_map, Array.length_toList]; omega)
  · obtain ⟨j, hjj, rfl⟩ := mem_getD ha
    rw [List.length_map, Array.length_toList] at hjj
    rw [← numAt_eq]; exact hh2 j (by omega)
end
section
variable {X : Cx}
def rMaxT (K : PySem.W.Frag) : List V → Hp → VK → Prop := fun vs Hh Qq => ∃ (a : Addr) (nms : List Int), vs = [V.ref a] ∧ SqT K Hh a (nms.map V.int) ∧ 0 < nms.length ∧ ∀ m, m ∈ nms → (∀ y, y ∈ nms → y ≤ m) → Qq (.int m) Hh
theorem cr_maxT (hc : X.calm = true) : CallR X (.builtin "max") (rMaxT X.K) := by
  intro pns s σs Hh vs uvs Qq Iv r h
  obtain ⟨a, nms, rfl, hs, hpos, qq⟩ := h
  obtain ⟨vls, rlv, hlst, _⟩ := Iv.tuple hs
  rw [Vals.ref1 r]
  exact maxT_raw (Iv.ok.hd hc) (isTuple_of hlst) rlv.ints hpos fun h' tkn m t' hk hh1 hh2 => ⟨.int _, Hh, Iv.kept hk, ⟨_, rfl⟩, qq m hh1 hh2⟩
theorem flat_ints (yms : List Int) : (yms.map V.int).all flatV = true := by
  rw [List.all_map]
  exact List.all_eq_true.mpr fun _ _ => rfl
def rTIdx (K : PySem.W.Frag) : V → List V → Hp → VK → Prop := fun x vxs Hh Qq => ∃ (p : Addr) (yms : List Int) (z : Int) (j : Nat), x = .ref p ∧ vxs = [.int z] ∧ SqT K Hh p (yms.map V.int) ∧ yms[j]? = some z ∧ (∀ m, m < j → yms[m]? ≠ some z) ∧ Qq (.int (j : Nat)) Hh
theorem mt_tupIdx : MtR X "tuple.index" (rTIdx X.K) := by
  intro pns s σs Hh x vxs v uvs Qq Iv rlx rs h
  obtain ⟨p, yms, z, j, rfl, rfl, hsq, hatj, hnot, qq⟩ := h
  cases rlx
  obtain ⟨u, rfl, t, rfl⟩ := vals1 rs
  obtain ⟨vls, r, pl, hszz⟩ := Iv.tuple hsq
  obtain ⟨⟨cls, dct, dta, slt⟩, hob, hc, n, hd⟩ := pl
  simp only at hc hd
  subst hc
  subst hd
  have hlst : vls.toArray.size = yms.length := by rw [List.size_toArray, ← r.length, List.length_map]
  have hjj : j < vls.toArray.size := by rw [hlst]; exact (List.getElem?_eq_some_iff.mp hatj).1
  have at' : ∀ (m : Nat) (hmm : m < vls.toArray.size), ∃ y t', yms[m]? = some y ∧ vls.toArray[m] = Value.int y t' := fun m hmm => by
    have hm' : m < yms.length := by rw [← hlst]; exact hmm
    obtain ⟨w, hwv, t', hw'⟩ := r.get (i := m) (x := .int yms[m]) (by simp [hm'])
    refine ⟨yms[m], t', List.getElem?_eq_getElem hm', ?_⟩
    have e := (List.getElem?_eq_some_iff.mp hwv).2
    rw [← hw', ← e]
    simp
  refine call_meets PySem.F.slot_tuple_index ⟨_, hob, rfl⟩ PySem.F.entry_tuple_index (PySem.F.args_tuple_index_2 _ _) (TI.tuple_indexAt p vls.toArray n dct slt (.int z t) (eqU (.int z)) j hjj ?_ ?_)
    ⟨hob, fun w hwv => mem_eqAt (x := .int z) ⟨t, rfl⟩ rfl r (flat_ints yms) w (by simpa using hwv), ⟨.int (j : Nat), Hh, Iv.tok _, ⟨_, rfl⟩, qq⟩⟩
  · obtain ⟨y, t', hh1, hh2⟩ := at' j hjj
    rw [hatj] at hh1
    cases hh1
    rw [hh2]
    simp [eqU, eqV]
  · intro m hmm hlt
    obtain ⟨y, t', hh1, hh2⟩ := at' m hmm
    rw [hh2]
    have : y ≠ z := fun e => hnot m hlt (by rw [hh1, e])
    simp [eqU, eqV, this]
end
/-! isinstance(e, c), e the exception that the suite holds, with vls dict -/
def rIsED (K : PySem.W.Frag) (D a : Addr) : List V → Hp → VK → Prop := fun vxs Hh Qq => ∃ (c : V) (cv : Value) (b : Bool), vxs = [.ref a, c] ∧ (∀ u, RelV c u → u = cv) ∧ PySem.W.kitOne K (.ref D) cv = some b ∧ Qq (.bl b) Hh
end Rg
namespace Rg
open PySem PySem.Spec PyProof.Rows L2 SrtO
/-! ### sorted(t), t a tuple -/
section
variable {prog : Program} {w : World} {A : Around} {E : Value → Shared → Prop} {s : Shared} {l : Addr} {vs : List Value}
/-- the heap behind the collecting -/
abbrev colHeap (h : Heap) (vs : List Value) : Heap := (h.push (seqObj "list" #[] 0)).update h.objs.size (Obj.mapSeq (· ++ vs.toArray))
theorem col_tup {Qq : List Value → Shared → Prop} (hlst : s.heap.IsTuple l vs.toArray) (hszz : vs.length ≤ sizeLine) (h : Qq vs { s with heap := colHeap s.heap vs }) : wpAny (model prog w) A (collect (.ref l)) Qq E s := by
  obtain ⟨oj, hob, hc, n, hd⟩ := hlst
  have hnew : (s.heap.push (seqObj "list" #[] 0)).get? s.heap.objs.size = some (seqObj "list" #[] 0) := Heap.get?_push_size _ rfl
  have hold : (s.heap.push (seqObj "list" #[] 0)).get? l = some oj := Heap.get?_push_of_some _ hob
  have tt : (Value.type "tuple" == Value.type "tuple") = true := by rfl
  unfold collect
  refine wpAny_bind (wpAny_runValue (codeAny_builtin entry_proto_collect' ?_))
  show wpAny _ _ (do again (.builtin "list.__iadd__" ⟨[← newList [], .ref l], []⟩)) _ _ s
  refine wpAny_bind (wpAny_newList (wpAny_pure ⟨Code.quiet_builtin _ (by decide +kernel), codeAny_builtin entry_list_iadd' ?_⟩))
  show wpAny _ _ (Builtin.List.listExtendWith (.ref s.heap.objs.size) (.ref l) (.ref s.heap.objs.size)) _ _ { s with heap := s.heap.push (seqObj "list" #[] 0) }
  unfold Builtin.List.listExtendWith
  refine wpAny_bind (wpAny_typeOf (T := "tuple") ⟨oj, hold, hc⟩ ?_)
  rw [if_pos (by rw [tt]; simp)]
  refine wpAny_bind (listItems_at hold hd (wpAny_bind (listItems_at (xs := #[]) (n := 0) hnew rfl ?_)))
  rw [if_neg (by simp)]
  refine wpAny_bind (listUpdate_at (xs := #[]) (n := 0) hnew rfl (wpAny_pure ?_) (Nat.zero_le _) (by show (#[] ++ vs.toArray).size ≤ sizeLine + 1; simp only [Array.size_append, List.size_toArray, List.length_nil]; omega))
  show wpAny (model prog w) A (do
      let oj ← load s.heap.objs.size
      match oj.data with
      | .seq vxs _ => pure vxs.toList
      | _ => unsupported "internal:collect") Qq E { s with heap := colHeap s.heap vs }
  refine wpAny_bind (wpAny_load (get?_update_seq hnew _) ?_)
  show wpAny _ _ (pure ((#[] : Array Value) ++ vs.toArray).toList) Qq E _
  have e : ((#[] : Array Value) ++ vs.toArray).toList = vs := by simp
  rw [e]
  exact wpAny_pure h
theorem sorted_tup {ltv : Value → Value → Bool} {Qq : Value → Shared → Prop} (O : Swo ltv) (hlst : s.heap.IsTuple l vs.toArray) (hszz : vs.length ≤ sizeLine)
    (hS : 2 ≤ vs.length → ∀ (h₁ : Heap) (a : Addr), h₁.get? a = some (seqObj "list" vs.toArray 0) → (∀ b oj, s.heap.get? b = some oj → b ≠ a ∧ h₁.get? b = some oj) → SortableO prog w A.in1.in1 { s with heap := h₁ } a vs ltv)
    (h : ∀ out : List Value, Srtd ltv out → Stb ltv out vs → Qq (.ref (s.heap.objs.size + 1)) { s with heap := sortedAll s.heap vs out.toArray }) : wpAny (model prog w) A (call (.builtin "sorted") [.ref l]) Qq E s := by
  have size1 : (colHeap s.heap vs).objs.size = s.heap.objs.size + 1 := by rw [Heap.size_update, size_push']
  have at1 : ((colHeap s.heap vs).push (seqObj "list" vs.toArray 0)).get? (s.heap.objs.size + 1) = some (seqObj "list" vs.toArray 0) := size1 ▸ Heap.get?_push_size (colHeap s.heap vs) rfl
  have old : ∀ b oj, s.heap.get? b = some oj → b ≠ s.heap.objs.size + 1 ∧ ((colHeap s.heap vs).push (seqObj "list" vs.toArray 0)).get? b = some oj := fun b oj qq => by
    have lt : b < s.heap.objs.size := Heap.lt_size qq
    exact ⟨Nat.ne_of_lt (Nat.lt_succ_of_lt lt), Heap.get?_push_of_some _ ((Heap.get?_update_ne _ _ _ _ (Nat.ne_of_lt lt)).trans (Heap.get?_push_of_some _ qq))⟩
  refine Calls.call_function_entry kind_sorted plain_sorted entry_sorted (args_sorted1 _) ?_
  unfold Builtin.«sorted»
  refine wpAny_bind (m := checkCount "sorted" 1 1 _) (wpAny_pure (wpAny_bind (col_tup hlst hszz (wpAny_bind (wpAny_newList ?_ hszz)))))
  show wpAny _ _ _ _ _ { s with heap := (colHeap s.heap vs).push (seqObj "list" vs.toArray 0) }
  rw [size1]
  exact wpAny_bind (wpAny_holding (wpAny_call_entry slot_list_sort ⟨_, at1, rfl⟩ entry_list_sort (list_sort_ord O at1 hszz (fun hh2 => hS hh2 _ _ at1 old) fun out hs hb => ⟨_, rfl, wpAny_pure ⟨_, rfl, h out hs hb⟩⟩) (args_list_sort _)))
end
section
variable {X : Cx}
def rSortedT (K : PySem.W.Frag) : List V → Hp → VK → Prop := fun vs Hh Qq => ∃ (a : Addr) (nms : List Int), vs = [V.ref a] ∧ SqT K Hh a (nms.map V.int) ∧
  ∀ (ns' : List Int) (p : Addr), ns'.Perm nms → ns'.Pairwise (· ≤ ·) → Hh p = none → Qq (.ref p) (upd Hh p (.lst (ns'.map V.int)))
theorem cr_sortedT : CallR X (.builtin "sorted") (rSortedT X.K) := by
  intro pns s σs Hh vs uvs Qq Iv r h
  obtain ⟨a, nms, rfl, hs, qq⟩ := h
  obtain ⟨vls, rlv, hlst, hszz⟩ := Iv.tuple hs
  have hint := rlv.ints
  rw [List.length_map] at hszz
  rw [Vals.ref1 r]
  refine sorted_tup swo_int (isTuple_of hlst) (by rw [hint.length]; exact hszz) (fun hh2 h₁ a' _ _ => ints_sortable hint hh2) fun out hh1 hh2 => ?_
  obtain ⟨k1, k2, k3⟩ := ints_out hint hh1 hh2
  obtain ⟨ep, he'⟩ := PyProof.Rows.sortedAll_at s.heap vls out.toArray
  exact ⟨.ref _, upd Hh (s.heap.objs.size + 1) (.lst ((out.map iv).map V.int)), Iv.laid (t' := s.toks) (fun _ _ => PyProof.Rows.sortedAll_old) (Nat.le_succ _) ⟨by rw [List.length_map, k2.length_eq]; exact hszz, out, ep, vals_of_ints k1, he'⟩, rfl, qq _ _ k2 k3 (Iv.hok.fresh (Nat.le_succ _))⟩
end
end Rg
namespace Rg
open PySem PySem.Spec PyProof.Rows L2 SrtO
/-! ### sorted(vxs), vxs a list of pairs (k, t): k an int, t a tuple of ints -/
/-- at v a pair of x and a tuple of the ints nms -/
def Nest (h : Heap) (v : Value) (x : Int) (nms : List Int) : Prop := ∃ (a b : Addr) (oj : Obj) (t : Tok) (n : Nat) (vls : List Value), v = .ref a ∧ h.get? a = some oj ∧ oj.cls = .type "tuple" ∧ oj.data = .seq #[.int x t, .ref b] n ∧ IsTup h b vls.toArray ∧ IntsAre vls nms
theorem Nest.kept {h h' : Heap} {v : Value} {x : Int} {nms : List Int} (p : Nest h v x nms) (k : ∀ b oj, h.get? b = some oj → oj.cls = .type "tuple" → h'.get? b = some oj) : Nest h' v x nms := by
  obtain ⟨a, b, oj, t, n, vls, e, hob, hc, hd, ⟨ob, hb, hbc, hbd⟩, hint⟩ := p
  exact ⟨a, b, oj, t, n, vls, e, k _ _ hob hc, hc, hd, ⟨ob, k _ _ hb hbc, hbc, hbd⟩, hint⟩
theorem reads_ints {h : Heap} : ∀ {vs : List Value} {nms : List Int}, IntsAre vs nms → ∃ as, ReadsAll h vs (nms.map PyData.int) as
  | _, _, .nil => ⟨_, .nil⟩
  | _, _, .cons i t r => by
    obtain ⟨as, qq⟩ := reads_ints (h := h) r
    exact ⟨_, .cons (.int i t) qq⟩
theorem eqvA_ints : ∀ vxs yms : List Int, PyData.eqvAll (vxs.map PyData.int) (yms.map PyData.int) = decide (vxs = yms)
  | [], [] => by simp [PyData.eqvAll]
  | [], y :: yms => by simp [PyData.eqvAll]
  | x :: vxs, [] => by simp [PyData.eqvAll]
  | x :: vxs, y :: yms => by
    simp only [List.map_cons, PyData.eqvAll, eqvA_ints vxs yms, PyData.eqv]
    by_cases e : x = y <;> by_cases f : vxs = yms <;> simp [e, f]
theorem layA_ints : ∀ l : List Int, PyData.canLayAll0 (l.map PyData.int) = true
  | [] => by simp [PyData.canLayAll0]
  | i :: l => by simp [PyData.canLayAll0, PyData.canLay0, layA_ints l]
theorem depA_ints : ∀ l : List Int, PyData.depthAll (l.map PyData.int) = 0
  | [] => by simp [PyData.depthAll]
  | i :: l => by simp [PyData.depthAll, PyData.depth, depA_ints l]
theorem lex_self : ∀ l : List Int, HT.lexLt l l = false
  | [] => rfl
  | x :: l => by rw [HT.lexLt_cons, if_pos rfl]; exact lex_self l
section
variable {prog : Program} {w : World} {A : Around} {E : Value → Shared → Prop} {s : Shared}
theorem eq_tupInts {b c : Addr} {vls jts : List Value} {nms ms : List Int} (hb : IsTup s.heap b vls.toArray) (hc : IsTup s.heap c jts.toArray) (hint : IntsAre vls nms) (hjj : IntsAre jts ms) (hu : A.units + 1 < cLine) :
    SeqAt.EqAt A s (.ref b) (.ref c) (decide (nms = ms)) := by
  obtain ⟨o1, hh1, c1, n1, d1⟩ := hb
  obtain ⟨o2, hh2, c2, n2, d2⟩ := hc
  obtain ⟨as, r1⟩ := reads_ints (h := s.heap) hint
  obtain ⟨bs, r2⟩ := reads_ints (h := s.heap) hjj
  have qq := SeqAt.eqAt_reads (.tuple (nms.map PyData.int)) (.tuple (ms.map PyData.int)) A s (.ref b) (.ref c) _ _ (Reads.tuple hh1 c1 d1 r1) (Reads.tuple hh2 c2 d2 r2) (by simp only [PyData.canLay0]; exact layA_ints nms) (by simp only [PyData.canLay0]; exact layA_ints ms)
    (by simp only [PyData.depth, depA_ints]; omega)
  have e : PyData.eqv (.tuple (nms.map PyData.int)) (.tuple (ms.map PyData.int)) = decide (nms = ms) := by
    simp only [PyData.eqv]
    exact eqvA_ints nms ms
  rwa [e] at qq
theorem nest_cmp {vs : List Value} {k : Value → Int × List Int} (hp : ∀ v ∈ vs, Nest s.heap v (k v).1 (k v).2) (hu : A.units + 1 < cLine) :
    SrtO.Cmp prog w A s (tuples' true) (fun p => p.1 ∈ vs) (lt2 fun v u => HT.lexLt ((k v).1 :: (k v).2) ((k u).1 :: (k u).2)) := by
  intro p qq hmm hm'
  have hh1 := hp _ hmm
  have hh2 := hp _ hm'
  show wpAny (model prog w) A (keyLt' (tuples' true) p.1 qq.1) (fun r s' => s' = s ∧ r = HT.lexLt ((k p.1).1 :: (k p.1).2) ((k qq.1).1 :: (k qq.1).2)) (fun _ _ => False) s
  generalize (k p.1).1 = x at hh1 ⊢
  generalize (k p.1).2 = nms at hh1 ⊢
  generalize (k qq.1).1 = y at hh2 ⊢
  generalize (k qq.1).2 = ms at hh2 ⊢
  obtain ⟨a, b, oj, t, n, vls, e, hob, hc, hd, hb, hint⟩ := hh1
  obtain ⟨a', b', o', t', n', its', e', ho', hc', hd', hb', hi'⟩ := hh2
  rw [e, e', HT.lexLt_cons]
  refine PySem.W.kat_lt hob hd ho' hd' ?_
  show PySem.W.KatLex prog w A true (decide (2 < 2)) _ [(.int x t, .int y t'), (.ref b, .ref b')] 0 s
  refine PySem.W.kat_cons (SeqAt.EqAt.int_int x t y t' prog w _ _ (PySem.W.kat_go (fun e1 => PySem.W.kat_yes (PySem.W.kat_cons (eq_tupInts hb hb' hint hi' hu prog w _ _ (PySem.W.kat_go (fun ee2 => ?_) (fun ee2 => ?_))))) (fun e1 => ?_)))
  · have ex : x = y := by simpa using e1
    have ey : nms = ms := of_decide_eq_true ee2
    refine PySem.W.kat_yes (PySem.W.kat_nil ⟨rfl, ?_⟩)
    rw [if_pos ex, ey, lex_self]
    rfl
  · have ex : x = y := by simpa using e1
    rw [if_pos ex]
    exact PySem.W.kat_no (PySem.W.kat_one _ _ (HT.lt_tupInts hb hb' hint hi' (by omega) ⟨rfl, rfl⟩))
  · have ex : ¬ x = y := by simpa using e1
    rw [if_neg ex]
    exact PySem.W.kat_no (oneLt_int ⟨rfl, rfl⟩)
theorem nest_firsts {h : Heap} {k : Value → Int × List Int} : ∀ {vs : List Value}, (∀ v ∈ vs, Nest h v (k v).1 (k v).2) → ∃ fs : List Value, PySem.W.KatTups h vs fs ∧ fs.length = vs.length ∧ ∀ f ∈ fs, ∃ x t, f = Value.int x t
  | [], _ => ⟨[], PySem.W.KatTups.nil, rfl, fun _ z => nomatch z⟩
  | v :: vs, hp => by
    obtain ⟨fs, q1, q2, q3⟩ := nest_firsts fun v' z => hp v' (List.mem_cons_of_mem _ z)
    obtain ⟨a, b, oj, t, n, vls, e, hob, hc, hd, _⟩ := hp v (List.mem_cons_self ..)
    rw [e]
    refine ⟨.int _ t :: fs, PySem.W.KatTups.cons hob hc hd rfl q1, congrArg (· + 1) q2, fun f z => ?_⟩
    rcases List.mem_cons.mp z with z | z
    · exact ⟨_, t, z⟩
    · exact q3 f z
theorem nest_sortable {a : Addr} {vs : List Value} {k : Value → Int × List Int} (h0 : 0 < vs.length) (hu : A.units + 1 < cLine) (hp : ∀ v ∈ vs, Nest s.heap v (k v).1 (k v).2) (ha : ∀ oj, s.heap.get? a = some oj → oj.cls ≠ .type "tuple") :
    SortableO prog w A s a vs fun v u => HT.lexLt ((k v).1 :: (k v).2) ((k u).1 :: (k u).2) := by
  intro h' keep
  have hp' : ∀ v ∈ vs, Nest h' v (k v).1 (k v).2 := fun v z => (hp v z).kept fun b oj e c => keep b oj (fun z => ha oj (z ▸ e) c) e
  obtain ⟨fs, q1, q2, q3⟩ := nest_firsts hp'
  refine ⟨tuples' true, fun Qq E hsq => PySem.W.kat_kind (T := .type "int") q1 (by omega) (fun f z => ?_) (by rfl) ?_, nest_cmp hp' hu⟩
  · obtain ⟨x, t, e⟩ := q3 f z
    rw [e]
    exact PySem.W.Looks.now
  · rw [show (Value.type "int" != Value.type "tuple") = true by decide +kernel]
    exact hsq
end
section
variable {X : Cx}
/-- k says what stands at each item -/
def rSortedN (K : PySem.W.Frag) : List V → Hp → VK → Prop := fun vs Hh Qq => ∃ (a : Addr) (vxs : List V) (k : V → Int × List Int), vs = [V.ref a] ∧ SqL K Hh a vxs ∧ (∀ x ∈ vxs, ∃ t b, x = V.ref t ∧ Hh t = some (.tup [.int (k x).1, .ref b]) ∧ Hh b = some (.tup ((k x).2.map V.int))) ∧
  ∀ yms p, Srtd (fun v u => HT.lexLt ((k v).1 :: (k v).2) ((k u).1 :: (k u).2)) yms → yms.Perm vxs → Hh p = none → Qq (.ref p) (upd Hh p (.lst yms))
theorem cr_sortedN (hu : X.A.units + 64 < cLine) : CallR X (.builtin "sorted") (rSortedN X.K) := by
  intro pns s σs Hh vs uvs Qq Iv r h
  obtain ⟨a, vxs, k, rfl, hs, hx, qq⟩ := h
  obtain ⟨vls, rlv, hlst, hszz⟩ := Iv.list hs
  rw [Vals.ref1 r]
  obtain ⟨e1, ee2⟩ := refs_back rlv fun x m => let ⟨t, _, e, _⟩ := hx x m; ⟨t, e⟩
  have nst : ∀ v ∈ vls, Nest s.heap v (k (backV v)).1 (k (backV v)).2 := fun v hval => by
    obtain ⟨t, rfl⟩ := ee2 v hval
    obtain ⟨t', b, et, hh1, hh2⟩ := hx (V.ref t) (by rw [e1]; exact List.mem_map.mpr ⟨_, hval, rfl⟩)
    cases et
    obtain ⟨_, jts, r2, oj, hob, hc, n, hd⟩ := Iv.hok _ _ hh1
    obtain ⟨u1, u2, rfl, ⟨t1, rfl⟩, r3⟩ := vals2 r2
    obtain rfl : u2 = Value.ref b := r3
    obtain ⟨_, kts, r4, p4⟩ := Iv.hok _ _ hh2
    exact ⟨t, b, oj, t1, n, kts, rfl, hob, hc, hd, p4, r4.ints⟩
  refine sorted_ord (NtL.swo_lexL fun u : Value => (k (backV u)).1 :: (k (backV u)).2) hlst.isList (by rw [← rlv.length]; exact hszz) (fun hh2 h₁ a' ha kk => ?_) fun out hh1 hh2 => ?_
  · refine nest_sortable (s := { s with heap := h₁ }) (k := fun u => k (backV u)) (by omega) (show X.A.units + 1 + 1 + 1 < cLine by omega) (fun v hval => (nst v hval).kept fun b oj e _ => (kk b oj e).2) fun oj e c => ?_
    cases e.symm.trans ha
    exact absurd (Value.type.inj c) (by decide)
  · have h3 : ∀ u ∈ out, ∃ a, u = Value.ref a := fun u hu => ee2 u (hh2.perm.mem_iff.mp hu)
    have hp : (out.map backV).Perm vxs := by rw [e1]; exact hh2.perm.map backV
    obtain ⟨n, hnn⟩ := PyProof.Rows.sortedAll_at s.heap vls out.toArray
    exact ⟨.ref _, upd Hh (s.heap.objs.size + 1) (.lst (out.map backV)), Iv.laid (t' := s.toks) (fun _ _ => PyProof.Rows.sortedAll_old) (Nat.le_succ _) ⟨by rw [hp.length_eq]; exact hszz, out, n, vals_back h3, hnn⟩, rfl,
      qq _ _ (List.pairwise_map.mpr hh1) hp (Iv.hok.fresh (Nat.le_succ _))⟩
end
end Rg
namespace Rg
open PySem PySem.Spec PyProof.Rows L2
/-! tuple(list), whose object is known to have no dict: so that vls methods can be called -/
section
variable {X : Cx}
def rTupF (K : PySem.W.Frag) : List V → Hp → VK → Prop := fun vxs Hh Qq => ∃ p yms, vxs = [V.ref p] ∧ SqL K Hh p yms ∧ ∀ l oj, Hh l = none → oj.dict = none → Qq (.ref l) (upd Hh l (.frz oj (.tup yms)))
theorem cr_tupF : CallR X (.type "tuple") (rTupF X.K) := by
  intro pns s σs Hh vxs uvs Qq Iv r ⟨p, yms, e, hsq, qq⟩
  subst e
  obtain ⟨u, rfl, rlx⟩ := vals1 r
  cases rlx
  obtain ⟨vls, rlv, pl, sz⟩ := Iv.list hsq
  have hnn := rlv.length
  refine call_tuple_list pl.isList (fun hh1 kp => ?_) (by rw [List.size_toArray]; omega)
  have J : Inv X pns σs Hh { s with heap := hh1 } := Iv.kept (t' := s.toks) kp
  have J2 : Inv X pns σs (upd Hh hh1.objs.size (.frz { cls := .type "tuple", data := .seq vls.toArray } (.tup yms))) { s with heap := hh1.push { cls := .type "tuple", data := .seq vls.toArray } } :=
    J.laid (t' := s.toks) (fun b oj e => Heap.get?_push_of_some _ e) (Nat.le_refl _)
      (show ObjOk X.prog X.w _ _ _ (.frz _ (.tup yms)) from ⟨Heap.get?_push_size _ rfl, sz, vls, rlv, IsTup.new _ _⟩)
  exact ⟨.ref hh1.objs.size, _, J2, rfl, qq _ _ (J.hok.fresh (Nat.le_refl _)) rfl⟩
def tyTF (x : V) (Hh : Hp) : Prop := ∃ a oj yms, x = .ref a ∧ Hh a = some (.frz oj (.tup yms)) ∧ oj.dict = none
theorem ty_tf : TyOk X "tuple" tyTF := by
  intro pns σs Hh s x v Iv r ⟨a, oj, yms, e, h, hd⟩
  subst e
  cases r
  obtain ⟨e, _, vls, _, o2, ee2, hc, _⟩ := (show ObjOk X.prog X.w Hh s.heap a (.frz oj (.tup yms)) from Iv.hok a _ h)
  refine ⟨⟨_, ee2, hc⟩, fun b qq => ?_⟩
  cases qq
  exact ⟨oj, e, hd⟩
end
end Rg
namespace Rg
open PySem PySem.Spec PyProof.Rows L2
/-! ### x != y, x == y of instances whose class has an own == and no own != -/
section
variable {prog : Program} {w : World} {A : Around} {E : Value → Shared → Prop} {s : Shared} {K : PySem.W.Frag} {x C L f : Addr} {h₀ : Heap} {m : Str → Option Value} {ox : Obj} {od : Option Obj} {b tb : Value}
theorem boundNe {M : Model} {args : List Value} {Q : Option Value → Shared → Prop} (Xk : K.In s.heap) (Ia : PySem.W.InstAt s.heap x ox C od) (hs : PySem.W.findIn K (.ref C) "__ne__" = some (some (.builtin "object.__ne__")))
    (h : wpAny M A (call (.builtin "object.__ne__") (.ref x :: args)) (fun v => Q (some v)) E s) : wpAny M A (callSpecialIfBound? (.ref x) "__ne__" args) Q E s := by
  simp only [callSpecialIfBound?, bindSpecialIfBound?]
  refine wpAny_holding (wpAny_bind (wpAny_bind (wpAny_bind (Ia.type.here ((PySem.W.looks_findIn Xk hs).here ?_)))))
  dsimp only
  simp only [F.cmp_object.ne.bind]
  refine wpAny_bind (wpAny_askSetting (wpAny_ite ?_))
  have fin : wpAny M A (call (.builtin "object.__ne__") ([.ref x] ++ args) >>= fun v => pure (some v)) Q E s := wpAny_bind (wpAny_mono h (fun v s' h' => wpAny_pure h') fun _ _ h' => h')
  split
  · exact wpAny_bind (wpAny_pure (wpAny_pure fin))
  · exact wpAny_tryCatch (wpAny_bind (wpAny_pure (wpAny_pure fin)))
theorem checkNe {M : Model} {Q : Unit → Shared → Prop} (Xk : K.In s.heap) (Ia : PySem.W.InstAt s.heap x ox C od) (ho : PySem.W.subIn K (.ref C) (.type "object") = some true) (hq : Q () s) : wpAny M A (checkBuiltinCall "object.__ne__" ⟨[.ref x, b], []⟩) Q E s := by
  simp only [checkBuiltinCall, F.cmpKind_ne, F.cmpSplit_ne]
  refine wpAny_bind ?_
  unfold isInstance
  refine wpAny_bind (Ia.type.here ((PySem.W.looks_subIn Xk ho).here ?_))
  simp only [Bool.not_true, Bool.false_eq_true, if_false]
  have ha := F.cmpArgs_ne (.ref x) b
  cases hsig : Manifest.signature? "object.__ne__" with
  | none => exact wpAny_pure hq
  | some sig =>
    simp only [argsOk, hsig] at ha
    have h2 : Bind.checkArgs "object.__ne__" sig ⟨[.ref x, b], []⟩ = pure () := ha
    show wpAny M A (Bind.checkArgs "object.__ne__" sig ⟨[.ref x, b], []⟩) Q E _
    rw [h2]; exact wpAny_pure hq
theorem objNeK {Q : Fin → Shared → Prop} (Xk : K.In s.heap) (Ia : PySem.W.InstAt s.heap x ox C od) (hs : PySem.W.findIn K (.ref C) "__eq__" = some (some (.ref f))) (hf : PySem.W.isFn K (.ref f) = true) (hu : A.units < cLine)
    (h : wpAny (model prog w) A (call (.ref f) [.ref x, b]) (fun v s' => ∃ r, v = .bool r ∧ Q (.done (.ret (.bool (!r)))) s') E s) :
    wpAny (model prog w) A (Builtin.«object.__ne__» ⟨[.ref x, b], []⟩) Q E s := by
  unfold Builtin.«object.__ne__»
  repeat (first
    | with_reducible refine wpAny_cRoomFor hu ?_
    | (refine wpAny_bind (m := callSpecialIfBound? (.ref x) (Str.ofString "__eq__") [b])
        (PySem.W.ifBound_K Xk Ia hs hf (wpAny_mono h (fun r s' hr => by
          obtain ⟨b, rfl, hq⟩ := hr
          repeat (first | exact hq | exact wpAny_pure hq | exact wpAny_truthy_bool hq | (refine wpAny_bind (m := truthy (.bool _)) (wpAny_truthy_bool ?_)) | wp_step)) fun _ _ e => e)))
    | wp_step)
theorem neK {Q : Value → Shared → Prop} (hu : A.units + 1 < cLine) (Fr0 : Fr h₀ L s.heap m) (X₀ : K.In h₀) (Ia : PySem.W.InstAt s.heap x ox C od) (hb : PySem.W.Looks (model prog w) s.heap (typeOf b) tb) (hn : PySem.W.notFirst K C tb = true)
    (hne : PySem.W.findIn K (.ref C) "__ne__" = some (some (.builtin "object.__ne__"))) (ho : PySem.W.subIn K (.ref C) (.type "object") = some true) (hs : PySem.W.findIn K (.ref C) "__eq__" = some (some (.ref f))) (hf : PySem.W.isFn K (.ref f) = true)
    (h : wpAny (model prog w) A.in1 (call (.ref f) [.ref x, b]) (fun v s' => ∃ r, v = .bool r ∧ Q (.bool (!r)) s') E s) : wpAny (model prog w) A (richCompare .NotEq (.ref x) b) Q E s := by
  have Xk := X₀.keeps Fr0.keep
  have one : wpAny (model prog w) A (tryCompare (.ref x) "__ne__" b) (fun r s' => ∃ v, r = some v ∧ Q v s') E s := by
    unfold tryCompare
    refine wpAny_bind (boundNe Xk Ia hne (wpAny_call (codeAny_call_builtin F.cmp_object.ne.plain F.cmpEntry_ne (checkNe Xk Ia ho (objNeK (A := A.in1) Xk Ia hs hf hu (wpAny_mono h (fun v s' hv => ?_) fun _ _ e => e))))))
    obtain ⟨r, rfl, hq⟩ := hv
    exact ⟨r, rfl, wpAny_pure ⟨_, rfl, hq⟩⟩
  unfold richCompare
  simp only [oneThing_ref]
  refine wpAny_holding (wpAny_bind (wpAny_cRoomFor (Nat.lt_of_succ_lt hu) ?_))
  refine wpAny_bind (Ia.type.here (wpAny_bind (hb.here ?_)))
  split
  · rename_i q
    have e : PySem.W.subIn K tb (.ref C) = some false := by
      rcases Bool.or_eq_true_iff.mp hn with e | e
      · rw [beq_iff_eq.mp e] at q; simp at q
      · exact beq_iff_eq.mp e
    refine wpAny_bind ((PySem.W.looks_subIn Xk e).here ?_)
    simp only [Bool.false_eq_true, if_false]
    refine wpAny_bind (wpAny_mono one (fun r s' z => ?_) fun _ _ e => e)
    obtain ⟨v, rfl, hq⟩ := z
    exact wpAny_pure hq
  · refine wpAny_bind (wpAny_pure ?_)
    simp only [Bool.false_eq_true, if_false]
    refine wpAny_bind (wpAny_mono one (fun r s' z => ?_) fun _ _ e => e)
    obtain ⟨v, rfl, hq⟩ := z
    exact wpAny_pure hq
end
section
variable {X : Cx} {n : Nat} {C f : Addr} {fd : FuncData} {ps : List Str} {sp : Sp}
/-- both are instances of C; what the own == says of them, as a bool -/
def rInsEq (C : Addr) (sp : Sp) : R2 := fun x y H Q => ∃ a b dx dy fs gs, x = .ref a ∧ y = .ref b ∧ H a = some (.ins C dx fs) ∧ H b = some (.ins C dy gs) ∧ sp [.ref a, .ref b] H (fun v H' => ∃ r, v = .bl r ∧ Q (.bl r) H') E0
def rInsNe (C : Addr) (sp : Sp) : R2 := fun x y H Q => ∃ a b dx dy fs gs, x = .ref a ∧ y = .ref b ∧ H a = some (.ins C dx fs) ∧ H b = some (.ins C dy gs) ∧ sp [.ref a, .ref b] H (fun v H' => ∃ r, v = .bl r ∧ Q (.bl (!r)) H') E0
theorem op_insNe (F : FnOk X.prog X.w X.K X.mg X.base CX0 n f fd ps sp) (hne : PySem.W.findIn X.K (.ref C) "__ne__" = some (some (.builtin "object.__ne__"))) (ho : PySem.W.subIn X.K (.ref C) (.type "object") = some true)
    (hs : PySem.W.findIn X.K (.ref C) "__eq__" = some (some (.ref f))) (hf : PySem.W.isFn X.K (.ref f) = true) (hb : Binds X.K fd ps []) (hr : Room (n + 1) X.A) : OpR X (compareOp .NotEq) (rInsNe C sp) := by
  intro pins s σ H x y u v Q I rx ry ⟨a, b, dx, dy, fs, gs, ex, ey, ha, hb', hsp⟩
  subst ex ey
  cases rx
  cases ry
  obtain ⟨mA, J, _⟩ := ins_get I.hok ha
  obtain ⟨mB, J', _⟩ := ins_get I.hok hb'
  obtain ⟨od, J, _⟩ := J.look
  obtain ⟨od', J', _⟩ := J'.look
  obtain ⟨m, hF⟩ := I.fr
  show wpAny (model X.prog X.w) X.A (richCompare .NotEq (.ref a) (.ref b)) (EP X pins σ Q) X.xe s
  refine neK (tb := .ref C) (by have := hr.un; omega) hF I.ok.mod.kin J J'.type (by simp [PySem.W.notFirst]) hne ho hs hf ?_
  have hl := F.len _ _ _ _ hsp
  have r2 : Vals [V.ref a, V.ref b] [Value.ref a, Value.ref b] := .cons rfl (.cons rfl .nil)
  refine wpAny_call (codeAny_mono (F.run X.A.in1 X.stack s H ⟨[.ref a, .ref b], []⟩ [.ref a, .ref b] [.ref a, .ref b] _ E0 hr.in1 I.env0.in1 (by
    have := hb s [.ref a, .ref b] I.kIn (by simpa using hl)
    simpa using this) r2 hsp) fun r s' hq => ?_)
  cases r with
  | error e => exact hq.elim
  | ok fl =>
    cases fl with
    | ret w =>
      obtain ⟨z, H', I', rz, r0, ez, q⟩ := I.after hq
      subst ez
      cases rz
      exact ⟨r0, rfl, .bl (!r0), H', I', rfl, q⟩
    | next => exact False.elim hq
    | brk => exact False.elim hq
    | cont => exact False.elim hq
theorem op_insEq (F : FnOk X.prog X.w X.K X.mg X.base CX0 n f fd ps sp)
    (hs : PySem.W.findIn X.K (.ref C) "__eq__" = some (some (.ref f))) (hf : PySem.W.isFn X.K (.ref f) = true) (hb : Binds X.K fd ps []) (hr : Room n X.A) : OpR X (compareOp .Eq) (rInsEq C sp) := by
  intro pins s σ H x y u v Q I rx ry ⟨a, b, dx, dy, fs, gs, ex, ey, ha, hb', hsp⟩
  subst ex ey
  cases rx
  cases ry
  obtain ⟨mA, J, _⟩ := ins_get I.hok ha
  obtain ⟨mB, J', _⟩ := ins_get I.hok hb'
  obtain ⟨od, J, _⟩ := J.look
  obtain ⟨od', J', _⟩ := J'.look
  obtain ⟨m, hF⟩ := I.fr
  show wpAny (model X.prog X.w) X.A (richCompare .Eq (.ref a) (.ref b)) (EP X pins σ Q) X.xe s
  refine PySem.W.cmp_K (op := .Eq) (tb := .ref C) hr.units0 hF I.ok.mod.kin J J'.type (by simp [PySem.W.notFirst]) hs hf ?_
  have hl := F.len _ _ _ _ hsp
  have r2 : Vals [V.ref a, V.ref b] [Value.ref a, Value.ref b] := .cons rfl (.cons rfl .nil)
  refine wpAny_call (codeAny_mono (F.run X.A X.stack s H ⟨[.ref a, .ref b], []⟩ [.ref a, .ref b] [.ref a, .ref b] _ E0 hr I.env0 (by
    have := hb s [.ref a, .ref b] I.kIn (by simpa using hl)
    simpa using this) r2 hsp) fun r s' hq => ?_)
  cases r with
  | error e => exact hq.elim
  | ok fl =>
    cases fl with
    | ret w =>
      obtain ⟨z, H', I', rz, r0, ez, q⟩ := I.after hq
      subst ez
      cases rz
      exact ⟨.bl r0, H', I', rfl, q⟩
    | next => exact False.elim hq
    | brk => exact False.elim hq
    | cont => exact False.elim hq
end
end Rg
namespace Rg
open PySem PySem.Spec PyProof.Rows L2 LamX
/-! ### sorted(lots, key=lambda lot: (len(lot), lot)), lots tuples of ints -/
theorem reads_intsN {h : Heap} : ∀ {vs : List Value} {nms : List Int}, IntsAre vs nms → ReadsAll h vs (nms.map PyData.int) []
  | _, _, .nil => .nil
  | _, _, .cons i t r => .cons (.int i t) (reads_intsN r)
def lotKey (l : List Int) : PyData := .tuple [.int (l.length : Nat), .tuple (l.map PyData.int)]
theorem alike_lotKey (a b : List Int) : PySem.W.alike (lotKey a) (lotKey b) = true := by
  simp [lotKey, PySem.W.alike, PySem.W.alikeAll, PySem.W.alike_ints]
theorem depth_lotKey (a : List Int) : (lotKey a).depth ≤ 4 := by
  simp [lotKey, PyData.depth, PyData.depthAll, PySem.W.depth_ints]
theorem eqvA_ints8 : ∀ vxs yms : List Int, PyData.eqvAll (vxs.map PyData.int) (yms.map PyData.int) = decide (vxs = yms)
  | [], [] => by simp [PyData.eqvAll]
  | [], y :: yms => by simp [PyData.eqvAll]
  | x :: vxs, [] => by simp [PyData.eqvAll]
  | x :: vxs, y :: yms => by
    simp only [List.map_cons, PyData.eqvAll, eqvA_ints8 vxs yms, PyData.eqv]
    by_cases e : x = y <;> by_cases f : vxs = yms <;> simp [e, f]
/-- fewer bars first, then as tuples -/
def lotLe (a b : List Int) : Bool := !PySem.W.dataLt (lotKey b) (lotKey a)
section
variable {prog : Program} {w : World} {A : Around} {s : Shared} {h : Heap}
theorem lotkey_turn {tk : Nat} {f c' t : Addr} {q y : Str} {params : Arguments} {scope : Scope} {pm ctv : Value} {p1 p2 p3 p4 p5 : Pos} {x1 : Nat} {mg mb : Str → Option Value} {ns : List Int} {its : List Value}
    (hroom : A.depth < recursionLimit)
    (hf : h.get? f = some (PySem.W.kla_obj "<lambda>" q params (.Tuple [.Call (.Name "len" p1) [.Name y p2] [] p3, .Name y p4] x1 p5) scope [] pm c' ctv))
    (hco : scope.isCoroutine = false) (hgen : scope.isGenerator = false) (hk : scope.kind = .function)
    (hcell : ∀ x ∈ scope.names, x.2 ≠ .cell) (hy : scope.names.lookup y = some .local) (hlen : scope.names.lookup ("len" : Str) = some .globalImplicit)
    (hbind : ∀ v : Value, bindArgs (PySem.W.kla_fn "<lambda>" q params (.Tuple [.Call (.Name "len" p1) [.Name y p2] [] p3, .Name y p4] x1 p5) scope [] pm (.ref c') ctv) ⟨[v], []⟩ = pure [(y, v)])
    (hcd : h.CodeRec (.ref c') q) (hg : h.Ns mainGlobals mg) (hm : mg ("len" : Str) = none) (hb : h.Ns builtinsNs mb) (hmb : mb ("len" : Str) = some (.builtin "len")) (hnl : h.NoLimit)
    (ht : IsTup h t its.toArray) (hi : IntsAre its ns) (hz : its.length ≤ sizeLine) (hyd : (y == ("__debug__" : Str)) = false) :
    wpAny (model prog w) A (call (.ref f) [.ref t]) (PySem.W.KeyPure (lotKey ns) { s with heap := h, toks := tk }) (fun _ _ => False) { s with heap := h, toks := tk } := by
  refine wpAny_call (PySem.W.kla_callFunE hroom hf rfl hco hgen rfl hcd ?_)
  rw [hbind]
  refine wpAny_pure (wpAny_newFunctionEnv hcell (fun z hz => by rw [List.mem_singleton.mp hz]; exact hy) (fun h₁ hns hsb => ⟨hnl.fresh _ hsb, ?_⟩) hk)
  have kp : ∀ b o, h.get? b = some o → h₁.get? b = some o := fun b o e => hsb.extBut b o (Nat.ne_of_lt (Heap.lt_size e)) (Heap.get?_push_of_some _ e)
  show codeAny _ _ (.expr _ (PySem.W.envX q scope h.objs.size f (.ref c') [])) _ _
  refine PySem.W.kla_codeExpr ?_
  refine wpAny_Tuple_spliced ?_
  have rd : ∀ (A' : Around) (tk' : Nat) (pos : Pos) (Q : Value → Shared → Prop) (E : Value → Shared → Prop), Q (.ref t) { s with heap := h₁, toks := tk' } → wpAny (model prog w) A' (eval (.Name y pos) (PySem.W.envX q scope h.objs.size f (.ref c') [])) Q E { s with heap := h₁, toks := tk' } := fun A' tk' pos Q E hQ =>
    wpAny_Name (wpAny_loadName_local hk hy hns (by show ([(y, Value.ref t)].reverse).lookup y = _; simp) hQ) hyd
  refine Calls.spliced_cons (wpAny_Call_Name_kw (Calls.Name_function_global hk hlen (Calls.loadGlobal_builtin (hg.keeps kp) hm (hb.keeps kp) hmb ?_)))
  refine PyProof.Rows.callWith_builtin1 (Calls.spliced_cons (rd _ _ _ _ _ (Calls.spliced_nil ?_))) rfl rfl
  refine len_tuple (ht.keeps kp) ?_ ?_
  · have := line63
    simp only [List.size_toArray]
    omega
  refine Calls.spliced_cons (rd _ _ _ _ _ (Calls.spliced_nil ⟨by show 2 ≤ sizeLine; decide, ?_⟩))
  refine ⟨_, _, rfl, fun b o e => Heap.get?_push_of_some _ (kp b o e), ?_⟩
  obtain ⟨o, ho, hc, n, hd⟩ := ht.keeps kp
  refine Reads.tuple (Heap.get?_push_size _ rfl) rfl rfl ?_
  show ReadsAll _ [.int (its.toArray.size : Nat) _, .ref t] [.int (ns.length : Nat), .tuple (ns.map .int)] []
  have e1 : its.toArray.size = ns.length := by rw [List.size_toArray, hi.length]
  rw [e1]
  exact ReadsAll.cons (.int _ _) (ReadsAll.cons (Reads.tuple (Heap.get?_push_of_some _ ho) hc hd (reads_intsN hi)) .nil)
end
theorem each_vals : ∀ {out : List Value} {ys : List V}, PySem.W.EachIs (fun u x => RelV x u) out ys → Vals ys out
  | _, _, .nil => .nil
  | _, _, .cons r t => .cons r (each_vals t)
theorem vals_each : ∀ {ys : List V} {out : List Value}, Vals ys out → PySem.W.EachIs (fun u x => RelV x u) out ys
  | _, _, .nil => .nil
  | _, _, .cons r t => .cons r (vals_each t)
section
variable {X : Cx}
/-- sorted(e, key=the lambda) -/
def tSortLots (K : PySem.W.Frag) (T : List (Addr × Str)) (te : TE) : TE := fun σ H Q => te σ H fun v H1 => ∃ (a : Addr) (xs : List V) (k : V → List Int), v = .ref a ∧ SqL K H1 a xs ∧ (∀ x ∈ xs, ∃ t, x = V.ref t ∧ H1 t = some (.tup ((k x).map V.int))) ∧ Tabs T H1 ∧
  ∀ (H2 : Hp) (p : Addr) (ys : List V), ExtN H1 H2 → Tabs T H2 → ys.Perm xs → (ys.Pairwise fun u v => lotLe (k u) (k v) = true) → H2 p = none → Q (.ref p) (upd H2 p (.lst ys))
theorem pe_sortLots {T : List (Addr × Str)} {c P : Addr} {y : Str} {params : Arguments} {scope : Scope} {p p1 p2 p3 p4 p5 lpos kpos pos : Pos} {x1 : Nat} {e : Expr} {te : TE}
    (hdp : X.A.depth < recursionLimit) (hu : X.A.units + 64 < cLine) (hgS : Gl X ("sorted" : Str)) (hmS : X.mg ("sorted" : Str) = none) (hmL : X.mg ("len" : Str) = none) (he : PE X e te)
    (TB : TabB X.base X.mg c P) (hcode : X.env.code = .ref c) (hmT : (P, X.env.qual ++ "<lambda>") ∈ T) (huT : ∀ p ∈ T, p.1 = P → p.2 = X.env.qual ++ "<lambda>")
    (hdef : defaultsOf params X.env = ([], [])) (hco : scope.isCoroutine = false) (hgen : scope.isGenerator = false) (hk : scope.kind = .function)
    (hcell : ∀ x ∈ scope.names, x.2 ≠ .cell ∧ x.2 ≠ .free) (hy : scope.names.lookup y = some .local) (hlen : scope.names.lookup ("len" : Str) = some .globalImplicit) (hclo : cloFrom X.env.cells scope.names [] = [])
    (hbind : ∀ (q : Str) (pm cv ctv v : Value), bindArgs (PySem.W.kla_fn "<lambda>" q params (.Tuple [.Call (.Name "len" p1) [.Name y p2] [] p3, .Name y p4] x1 p5) scope [] pm cv ctv) ⟨[v], []⟩ = pure [(y, v)])
    (hyd : (y == ("__debug__" : Str)) = false := by decide)
    (hes : backTo pos (starEach [e] X.env) = [(false, eval e X.env)] := by rfl) :
    PE X (.Call (.Name "sorted" p) [e] [⟨some "key", .Lambda params (.Tuple [.Call (.Name "len" p1) [.Name y p2] [] p3, .Name y p4] x1 p5) scope lpos, kpos⟩] pos) (tSortLots X.K T te) := by
  refine ⟨fun pins s σ H Q I h => ?_⟩
  refine wpAny_Call_Name_kw (ld_blt I hgS hmS (u := .builtin "sorted") (by decide +kernel) ?_ (by decide) (by decide))
  refine PyProof.Rows.callWith_kw ?_ hes (by rw [hes]; rfl) rfl rfl
  rw [hes]
  refine Calls.spliced_cons (thn (he.run pins s σ H _ I h) fun u s1 ⟨v, H1, I1, r1, q1⟩ => Calls.spliced_nil ?_)
  obtain ⟨a, xs, k, rfl, hs, hx, hT, q⟩ := q1
  obtain rfl : u = Value.ref a := r1
  show wpAny _ _ (evalAll [do let v ← eval (.Lambda params (.Tuple [.Call (.Name "len" p1) [.Name y p2] [] p3, .Name y p4] x1 p5) scope lpos) X.env; standAt pos; pure v]) _ _ _
  refine wpAny_evalAll_cons (wpAny_bind ?_)
  refine lam_make2 I1 TB hcode hmT huT hT hdef (fun z hz ef => absurd ef (hcell z hz).2) fun f c' pm ctv H2 s2 I2 eN T2 hf hfn hfr hco2 => ?_
  rw [hclo] at hf
  refine wpAny_bind (wpAny_standAt (wpAny_pure ?_))
  refine wpAny_evalAll_nil ?_
  show wpAny _ _ (call (.builtin "sorted") [.ref a] [(Str.ofString "key", .ref f)]) _ _ s2
  have hs2 : SqL X.K H2 a xs := by
    rcases hs with (hs | ⟨o, hs⟩) | hs
    · exact .inl (.inl (eN _ _ hs (fun _ z => nomatch z)))
    · exact .inl (.inr ⟨o, eN _ _ hs (fun _ z => nomatch z)⟩)
    · exact .inr hs
  obtain ⟨its, rv, hl, hsz⟩ := I2.list hs2
  have hx2 : ∀ x ∈ xs, ∃ t, x = V.ref t ∧ H2 t = some (.tup ((k x).map V.int)) := fun x m => let ⟨t, e1, e2⟩ := hx x m; ⟨t, e1, eN _ _ e2 (fun _ z => nomatch z)⟩
  obtain ⟨⟨oc, cvs, ct, hoc, hdc, hvc⟩, _, _⟩ := I2.hok c' _ hco2
  obtain ⟨mb, hb1, hb2⟩ := I2.mod.blt
  refine PySem.W.sorted_key_data (β := V) (R := fun u x => RelV x u) (fun x => lotKey (k x)) hl.isList (vals_each rv) (PySem.W.AllAlike.of fun b b' => alike_lotKey _ _) (PySem.W.Sortable.tuples fun b => ⟨_, _, rfl⟩) hsz
    (fun x _ => by have := depth_lotKey (k x); omega) (PyProof.Rows.ksk_s1 _ _) (fun _ => PyProof.Rows.ksk_l1 _ _) (fun x => PyProof.Rows.ksk_t1 f x) ?_ ?_
  · intro v x hR hxm h' tk' hk'
    obtain ⟨t, rfl, ht⟩ := hx2 x hxm
    obtain rfl : v = Value.ref t := hR
    obtain ⟨hz, jts, rj, tj⟩ := I2.hok t _ ht
    refine lotkey_turn (hroom := hdp) (hk' _ _ hf) hco hgen hk (fun z hz => (hcell z hz).1) hy hlen (fun v => hbind _ _ _ _ v) ⟨c', oc, cvs, ct, rfl, hk' _ _ hoc, hdc, hvc⟩
      ((I2.mod.glob.keeps I2.bk).keeps hk') hmL ((hb1.keeps I2.bk).keeps hk') ((hb2 _ (by decide)).trans PySem.boot_len) (I2.nolimit.keeps hk') (tj.keeps hk') rj.ints (by rw [← rj.length]; exact hz) hyd
  · intro out cc h' tk' hk' hfr' hnew hol heach
    have hpm : (xs.mergeSort (PySem.W.dataLe false fun x => lotKey (k x))).Perm xs := List.mergeSort_perm ..
    refine ⟨.ref (s2.heap.objs.size + 1), upd H2 (s2.heap.objs.size + 1) (.lst (xs.mergeSort (PySem.W.dataLe false fun x => lotKey (k x)))), I2.laid (t' := tk') hk' (Nat.le_succ _) ?_, rfl, ?_⟩
    · exact ⟨by rw [hpm.length_eq]; exact hsz, out, cc, each_vals heach, hnew⟩
    · have nf : H2 (s2.heap.objs.size + 1) = none := I2.hok.fresh (Nat.le_succ _)
      refine q _ _ _ eN T2 hpm ?_ nf
      have z := PySem.W.sortLe_total (listOrd itemOrd) false (fun x : V => PySem.W.keyToks (lotKey (k x)))
      exact List.pairwise_mergeSort (le := PySem.W.dataLe false fun x => lotKey (k x)) (fun a b c => z.trans a b c) (fun a b => Bool.or_eq_true _ _ |>.mpr (z.total a b)) xs
end
end Rg
namespace Rg
open PySem PySem.Spec PyProof.Rows L2
/-! ### enumerate(t), t a tuple -/
theorem meets_enum1 {v : Value} {ob : Obj} {Hz : Heap → Prop} (B : Begins v ob Hz) :
    Meets (Builtin.«enumerate.__new__» ⟨[.type "enumerate", v], []⟩) (fun _ R s => Hz s.heap ∧
      R (.ok (.ret (.ref (s.heap.push ob).objs.size))) { s with heap := (s.heap.push ob).push { cls := .type "enumerate", data := .fields #[.none, .bool false, .ref s.heap.objs.size, rawInt 0, .none, .none] } }) :=
  .of_wp fun prog w A R s h => by
    obtain ⟨hp, gg, dd, tk, os⟩ := s
    obtain ⟨hz, h⟩ := h
    have hsub := sub_enumerate
    have go : ∀ {A' : Around} {E' : Value → Shared → Prop} {Q' : Value → Shared → Prop}, Q' (.ref hp.objs.size) ⟨hp.push ob, gg, dd, tk, os⟩ → wpAny (model prog w) A' (pyIter v) Q' E' ⟨hp, gg, dd, tk, os⟩ :=
      fun q => B.iter prog w _ _ ⟨hp, gg, dd, tk, os⟩ _ hz q
    wp_walk using go
    refine wpAny_stack_any fun st => wpAny_pure ?_
    split
    · rename_i c _ _ _ _ _
      cases (c == Value.type "enumerate")
      · wp_walk using go
        exact ⟨_, rfl, h⟩
      · wp_walk using go
        exact ⟨_, rfl, h⟩
    · wp_walk using go
      exact ⟨_, rfl, h⟩
section
variable {prog : Program} {w : World} {A : Around} {E : Value → Shared → Prop} {s : Shared}
theorem call_enum1 {v : Value} {ob : Obj} {Hz : Heap → Prop} {Q : Value → Shared → Prop} (B : Begins v ob Hz) (hz : Hz s.heap)
    (k : ∀ g, IsEnum g (s.heap.objs.size + 1) s.heap.objs.size 0 .none → g.get? s.heap.objs.size = some ob → (∀ c u, s.heap.get? c = some u → g.get? c = some u) → Q (.ref (s.heap.objs.size + 1)) { s with heap := g }) :
    wpAny (model prog w) A (call (.type "enumerate") [v]) Q E s := by
  refine callType_new F.called_enumerate (by decide) (F.typeCall_enumerate_1 _) (F.newCall_enumerate_1 _) (fun obj => F.args_object_init_2 obj _) F.entry_enumerate_new (meets_enum1 B) ⟨hz, ?_⟩
  have sz : (s.heap.push ob).objs.size = s.heap.objs.size + 1 := Heap.size_push ..
  show _ ∧ _
  rw [sz]
  have ie : IsEnum ((s.heap.push ob).push { cls := .type "enumerate", data := .fields #[.none, .bool false, .ref s.heap.objs.size, rawInt 0, .none, .none] }) (s.heap.objs.size + 1) s.heap.objs.size 0 .none := by
    have z := Heap.get?_push_size (s.heap.push ob) (o := { cls := .type "enumerate", data := .fields #[.none, .bool false, .ref s.heap.objs.size, rawInt 0, .none, .none] }) rfl
    rw [sz] at z
    exact z
  exact ⟨⟨_, ie, rfl⟩, k _ ie (Heap.get?_push_of_some _ (Heap.get?_push_size _ B.free)) fun c u x => Heap.get?_push_of_some _ (Heap.get?_push_of_some _ x)⟩
end
/-- the tuple at a as it stands at each turn, each item in a new pair -/
def IteT (K : PySem.W.Frag) (a : Addr) : It :=
  ⟨fun i H => ∃ (xs : List V) (x : V), SqT K H a xs ∧ xs[i]? = some x, fun i H v H' => ∃ T x, v = .ref T ∧ H T = none ∧ H' = upd H T (.tup [.int (i : Nat), x]) ∧ ∀ xs, SqT K H a xs → xs[i]? = some x, fun i H => ∃ xs : List V, SqT K H a xs ∧ xs.length ≤ i⟩
theorem turn_enumT {P : Program} {w : World} {K : PySem.W.Frag} {elts : List Expr} {kk : Nat} {tpos : Pos} (a e it : Addr) :
    Turn P w K (.Tuple elts kk tpos) (IteT K a) [e, it] e (fun i h => (∃ old, IsEnum h e it ((i : Nat) : Int) old) ∧ h.IsTupleIter it a i ∧ e ≠ it) where
  mem := List.mem_cons_self ..
  obj := by
    rintro i h ⟨⟨old, he⟩, ⟨o, ho, hc, hd⟩, _⟩ b hb
    rcases List.mem_cons.mp hb with z | z
    · rw [z]; exact ⟨_, he, fun v q => nomatch q⟩
    · rw [List.mem_singleton.mp z]; exact ⟨o, ho, fun v q => by rw [hd] at q; cases q⟩
  keep := by
    rintro i h h' ⟨⟨old, he⟩, hi, hne⟩ k
    exact ⟨⟨old, k e (by simp) _ he⟩, hi.at fun o q => k it (by simp) o q, hne⟩
  item := by
    intro X hP hw hK hc i pins s σ H E I hf st hg
    subst hP hw hK
    obtain ⟨⟨old, he⟩, hit, hne⟩ := st
    obtain ⟨xs, x, hq, hx⟩ := hg
    obtain ⟨its, rv, tp, hz⟩ := I.tuple hq
    obtain ⟨u, hu, ru⟩ := rv.get hx
    have hel : e < s.heap.objs.size := Heap.lt_size he
    have hil : it < s.heap.objs.size := by obtain ⟨_, q, _⟩ := hit; exact Heap.lt_size q
    obtain ⟨ot, hot, hct, nt, hdt⟩ := tp
    have nai : a ≠ it := fun z => by
      obtain ⟨oi, hoi, hci, _⟩ := hit
      rw [← z, hot] at hoi
      cases hoi
      rw [hct] at hci
      exact absurd (Value.type.inj hci) (by decide)
    have nae : a ≠ e := fun z => by
      have he' := he
      rw [IsEnum, ← z, hot] at he'
      cases he'
      exact absurd (Value.type.inj hct) (by decide)
    have hlt : i < its.toArray.size := by
      rw [List.size_toArray]
      exact (List.getElem?_eq_some_iff.mp hu).1
    refine wpAny_pyNext_enum_itemD (Draws.tuple (A := X.A.in1) (I.ok.hd hc) it a nai its.toArray) he ⟨hit, ⟨ot, hot, hct, nt, hdt⟩⟩ hlt hne (by simp [hne, Ne.symm nae]) fun u' g tk hP ho hst' hT hsz hk => ?_
    have eu : u' = u := by
      have h1 : its.toArray[i]? = some u' := hP
      rw [List.getElem?_toArray, hu] at h1
      exact (Option.some.inj h1).symm
    subst eu
    refine ⟨_, rfl, wpAny_letOwnedTupleGo_enum (s := { s with heap := g, toks := tk + 1 }) ho fun g2 he' sb => ?_⟩
    have hT2 : g2.get? s.heap.objs.size = some { cls := .type "tuple", data := .seq #[.int i tk, u'] } := (sb.2 _ (Nat.ne_of_gt hel)).trans hT
    have I1 : Inv X pins σ (upd H s.heap.objs.size (.tup [.int (i : Nat), x])) { s with heap := g2, toks := tk + 1 } :=
      I.turnedNew (ch := [e, it]) (fun b ob hb q => (sb.2 b (fun z => hb (by simp [z]))).trans (hk b ob (fun z => hb (by simp [z])) (fun z => hb (by simp [z])) q)) hf (Nat.le_refl _)
        ⟨by show 2 ≤ sizeLine; decide, [.int i tk, u'], .cons ⟨_, rfl⟩ (.cons ru .nil), ⟨_, hT2, rfl, _, rfl⟩⟩
    refine ⟨.ref s.heap.objs.size, _, I1, rfl, ⟨_, x, rfl, I.hok.fresh (Nat.le_refl _), rfl, fun ys hy => by rw [I.tuple_inj hy hq]; exact hx⟩, ⟨⟨u', ?_⟩, hst'.1.at fun o q => (sb.2 it (Ne.symm hne)).trans q, hne⟩, fun b hb => ?_⟩
    · have e1 : ((i + 1 : Nat) : Int) = (i : Int) + 1 := by omega
      rw [e1]
      exact he'
    · have hb' : b < s.heap.objs.size := by
        rcases List.mem_cons.mp hb with z | z
        · rw [z]; exact hel
        · rw [List.mem_singleton.mp z]; exact hil
      rw [upd_ne (Nat.ne_of_lt hb')]
      exact (hf b hb).1
  done := by
    intro X hP hw hK hc i pins s σ H E I hf st hg
    subst hP hw hK
    obtain ⟨⟨old, he⟩, hit, hne⟩ := st
    obtain ⟨xs, hq, hx⟩ := hg
    obtain ⟨its, rv, tp, hz⟩ := I.tuple hq
    obtain ⟨f0, f1, f2, f3, f4, f5⟩ := hf it (by simp)
    have hl := rv.length
    have hT : s.TypeIs (.ref e) "enumerate" := ⟨_, he, rfl⟩
    unfold pyNext
    refine wpAny_bind (wpAny_attempt (wpAny_callSpecial?_slot (name := Str.ofString "__next__") hT F.slot_enumerate_next
      (wpAny_call_entry F.slot_enumerate_next hT F.entry_enumerate_next ?_ (F.args_enumerate_next_1 _))))
    show wpAny _ _ (field (.ref e) 2 >>= _) _ _ _
    refine wpAny_bind (wpAny_field he rfl (x := .ref it) rfl ?_)
    refine wpAny_bind (wpAny_nextOf_tuple_end (I.ok.hd hc) hit tp (by simp; omega) fun g x eb hx' => ?_)
    obtain ⟨o, ho, hcl⟩ := hx'
    refine wpAny_bind (wpAny_isInstance (T := "StopIteration") (b := true) ⟨o, ho, hcl⟩ isSubtype_stop ?_)
    exact wpAny_pure ⟨rfl, I.turned (t' := s.toks) (fun b o hb q => eb b o hb q) f0 f1 f3 f4 f5⟩
  self := fun A i s Q E st h => let ⟨⟨_, he⟩, _⟩ := st; wpAny_pyIter_enum he h
def iEnumT (K : PySem.W.Frag) (ta : TA) : TI := fun σ H R => ta σ H fun vs H1 => ∃ a xs, vs = [.ref a] ∧ SqT K H1 a xs ∧ R (IteT K a) H1
theorem pi_enumT {X : Cx} {e : Expr} {ta : TA} {p pos tpos : Pos} {elts : List Expr} {kk : Nat} (hg : Gl X "enumerate") (hm : X.mg "enumerate" = none) (ha : PA X [e] ta) (hs : starEach [e] X.env = [(false, eval e X.env)] := by rfl) :
    PI X (.Tuple elts kk tpos) (.Call (.Name "enumerate" p) [e] [] pos) (iEnumT X.K ta) := by
  refine ⟨fun pins s σ H R I h => ?_⟩
  refine Call_ (ld_blt I hg hm boot_enumerate (PyProof.Rows.callWith_type1 (thn (ha.run pos pins s σ H _ I h) fun us s1 ⟨vs, H1, I1, r1, q1⟩ => ?_) hs rfl))
  obtain ⟨a, xs, rfl, hq, q⟩ := q1
  rw [Vals.ref1 r1]
  obtain ⟨its, rv, tp, hz⟩ := I1.tuple hq
  refine call_enum1 (begins_tuple a its.toArray) tp fun g he hit hk => wpAny_pyIter_enum he ?_
  have I2 : Inv X pins σ H1 { s1 with heap := g } := I1.kept (t' := s1.toks) hk
  refine ⟨s1.heap.objs.size + 1, [s1.heap.objs.size + 1, s1.heap.objs.size], _, _, H1, rfl, I2, turn_enumT a (s1.heap.objs.size + 1) s1.heap.objs.size, ⟨⟨.none, he⟩, ⟨_, hit, rfl, rfl⟩, Nat.succ_ne_self _⟩, fun b hb => ?_, q⟩
  have hle : s1.heap.objs.size ≤ b := by
    rcases List.mem_cons.mp hb with z | z
    · rw [z]; exact Nat.le_succ _
    · rw [List.mem_singleton.mp z]; exact Nat.le_refl _
  exact I1.fpOk hle (I1.hok.fresh hle)
theorem walk_enumT {K : PySem.W.Frag} {a : Addr} {xs : List V} : Walk (IteT K a) xs.length (fun H => SqT K H a xs) (YPair (fun i => some (.int (i : Nat))) (fun i => xs[i]?)) := by
  refine ⟨fun i _ hi q => ⟨xs, xs[i], q, List.getElem?_eq_getElem hi⟩, fun _ q => ⟨xs, q, Nat.le_refl _⟩, fun i H v H' _ q y => ?_⟩
  obtain ⟨T, x, y1, y2, y3, y4⟩ := y
  exact ⟨T, .int (i : Nat), x, y1, y2, y3, rfl, y4 xs q⟩
end Rg
namespace K
open PySem L2 Rg
open Evl (pss_cut)
def top (i : Nat) : Stmt := PySem.Challenge.pw_ringbars_k53_most_bars_on_one_line.main.body.getD i (.Pass ⟨0, 0, 0, 0⟩)
abbrev sWall : Stmt := top 0
abbrev sFixed : Stmt := top 2
abbrev sPaperInit : Stmt := inClass (top 3) 0
abbrev sPaperEq : Stmt := inClass (top 3) 1
abbrev sPaperBool : Stmt := inClass (top 3) 2
abbrev sDenialEq : Stmt := inClass (top 4) 0
abbrev sDenialBool : Stmt := inClass (top 4) 1
abbrev sAreEqual : Stmt := top 5
abbrev sIsCalled : Stmt := top 6
abbrev sIsInteger : Stmt := top 8
abbrev sIsWithin : Stmt := top 9
abbrev sIsList : Stmt := top 10
abbrev sIsNumbers : Stmt := top 11
abbrev sFirstTwice : Stmt := top 12
abbrev sTwiceAt : Stmt := top 13
abbrev sBadRingInit : Stmt := inClass (top 16) 0
abbrev sBadLotInit : Stmt := inClass (top 17) 0
abbrev sBadLineUpInit : Stmt := inClass (top 18) 0
abbrev sBadNumberInit : Stmt := inClass (top 19) 0
abbrev sMisfitInit : Stmt := inClass (top 20) 0
abbrev sMissingInit : Stmt := inClass (top 21) 0
abbrev sTwiceInit : Stmt := inClass (top 23) 0
abbrev sTooLongInit : Stmt := inClass (top 24) 0
abbrev sTooManyInit : Stmt := inClass (top 25) 0
abbrev sBadTextInit : Stmt := inClass (top 26) 0
abbrev sWantNumber : Stmt := top 28
abbrev sWantBar : Stmt := top 29
abbrev sWantLot : Stmt := top 30
abbrev sWantAsMany : Stmt := top 31
abbrev sSortBy : Stmt := top 33
abbrev sItemsOf : Stmt := top 36
abbrev sIntegerOf : Stmt := top 37
abbrev sItemAt : Stmt := top 38
abbrev sNumberAt : Stmt := top 39
abbrev sRingInit : Stmt := inClass (top 44) 0
abbrev sRingLen : Stmt := inClass (top 44) 1
abbrev sRingEq : Stmt := inClass (top 44) 2
abbrev sRingStr : Stmt := inClass (top 44) 3
abbrev sRingLengthOf : Stmt := inClass (top 44) 4
abbrev sRingSortOf : Stmt := inClass (top 44) 5
abbrev sRingWithLength : Stmt := inClass (top 44) 6
abbrev sRingBegunAt : Stmt := inClass (top 44) 7
abbrev sRingBackwards : Stmt := inClass (top 44) 8
abbrev sRingInOrder : Stmt := inClass (top 44) 9
abbrev sRingAsOne : Stmt := inClass (top 44) 10
abbrev sRingInTwo : Stmt := inClass (top 44) 11
abbrev sRingRead : Stmt := inClass (top 44) 12
abbrev sAreLengths : Stmt := top 45
abbrev sHasLevel : Stmt := top 46
abbrev sReadRing : Stmt := top 47
abbrev sWantRing : Stmt := top 48
abbrev sLotsOf : Stmt := top 50
abbrev sLevelLots : Stmt := top 51
abbrev sTooLong : Stmt := top 52
abbrev sInOrder : Stmt := top 53
abbrev sLotsBySort : Stmt := top 54
abbrev sWantClosed : Stmt := top 55
abbrev sLineUpInit : Stmt := inClass (top 57) 0
abbrev sLineUpEq : Stmt := inClass (top 57) 1
abbrev sLineUpStr : Stmt := inClass (top 57) 2
abbrev sLineUpRead : Stmt := inClass (top 57) 3
abbrev sAreStrands : Stmt := top 58
abbrev sIsStrand : Stmt := top 59
abbrev sAsStrand : Stmt := top 60
abbrev sLineupItems : Stmt := top 61
abbrev sItemOf : Stmt := top 62
abbrev sReadLineup : Stmt := top 63
abbrev sPairsNext : Stmt := top 64
abbrev sNetsInit : Stmt := inClass (top 66) 0
abbrev sTooGreatInit : Stmt := inClass (top 67) 0
abbrev sMostInit : Stmt := inClass (top 68) 0
abbrev sCanLine : Stmt := top 69
abbrev sMostOnOne : Stmt := top 70
abbrev sNetsOf : Stmt := top 71
abbrev sTooGreat : Stmt := top 72
abbrev sIsHad : Stmt := top 73
abbrev sFirstSigns : Stmt := top 74
abbrev sChoices : Stmt := top 75
abbrev sWithSign : Stmt := top 76
abbrev sWantLineup : Stmt := top 77
abbrev sWantLined : Stmt := top 78
abbrev sShowsMost : Stmt := top 80
abbrev sMostSizes : Stmt := top 81
abbrev sLwBench : Stmt := top 83
abbrev sLwDraw : Stmt := top 84
abbrev sLwPick : Stmt := top 85
abbrev sLwLengths : Stmt := top 86
abbrev sLwIsHad : Stmt := top 87
abbrev sLwLots : Stmt := top 88
abbrev sLwRows : Stmt := top 89
abbrev sLwWide : Stmt := top 90
abbrev sLwIsLevel : Stmt := top 91
abbrev sLwMostRight : Stmt := top 92
abbrev sLwHeard : Stmt := top 93
abbrev sLaw : Stmt := top 94

/-- all but what stands at p is as it was -/
def But (p : Addr) (H H' : Hp) : Prop := ∀ b o, b ≠ p → H b = some o → H' b = some o
theorem But.refl (p : Addr) (H : Hp) : But p H H := fun _ _ _ h => h
theorem But.trans {p : Addr} {H H1 H2 : Hp} (a : But p H H1) (b : But p H1 H2) : But p H H2 := fun c o n h => b c o n (a c o n h)
theorem But.new {p q : Addr} {H H' : Hp} {o : HO} (a : But p H H') (n : H' q = none) : But p H (upd H' q o) := fun c u hc h => by
  have e := a c u hc h
  rw [upd_ne (ne_of_none e n)]
  exact e
theorem But.at {p : Addr} {H H' : Hp} {o : HO} (a : But p H H') : But p H (upd H' p o) := fun c u hc h => by
  rw [upd_ne hc]
  exact a c u hc h
theorem But.seq {K : PySem.W.Frag} {p a : Addr} {H H' : Hp} {xs : List V} (e : But p H H') (n : a ≠ p) (h : SqL K H a xs) : SqL K H' a xs := by
  rcases h with (h | ⟨o, h⟩) | h
  · exact .inl (.inl (e _ _ n h))
  · exact .inl (.inr ⟨o, e _ _ n h⟩)
  · exact .inr h
/-- the pen: its cells, how many were begun (at most n), what a great one has left -/
structure PenAt (K : PySem.W.Frag) (H : Hp) (p : Addr) (e : Addr × List Int) (n : Nat) : Prop where
  ex : ∃ (at' rest : Int), H p = some (.lst [.ref e.1, .int at', .int rest]) ∧ 0 ≤ at' ∧ at' ≤ n ∧ 0 ≤ rest
  sq : SqL K H e.1 (e.2.map V.int)
  np : e.1 ≠ p
  ln : e.2.length ≤ 62
theorem But.of {p : Addr} {H H' : Hp} (e : Same H H') : But p H H' := fun b o _ h => e b o h
theorem But.mut {p q : Addr} {H H' : Hp} {o : HO} (a : But p H H') (n : H q = none) : But p H (upd H' q o) := fun c u hc h => by
  have e := a c u hc h
  rw [upd_ne (ne_of_none h n)]
  exact e
theorem But.free {p q : Addr} {H H' : Hp} (a : But p H H') (hq : q ≠ p) (n : H' q = none) : H q = none := by
  cases e : H q with
  | none => rfl
  | some o =>
    rw [a q o hq e] at n
    cases n
theorem But.tup {K : PySem.W.Frag} {p a : Addr} {H H' : Hp} {xs : List V} (e : But p H H') (n : a ≠ p) (h : SqT K H a xs) : SqT K H' a xs := by
  rcases h with (h | ⟨o, h⟩) | h
  · exact .inl (.inl (e _ _ n h))
  · exact .inl (.inr ⟨o, e _ _ n h⟩)
  · exact .inr h
theorem _root_.L2.Same.new {q : Addr} {H H' : Hp} {o : HO} (a : Same H H') (n : H' q = none) : Same H (upd H' q o) := fun c u h => by
  have e := a c u h
  rw [upd_ne (ne_of_none e n)]
  exact e
theorem _root_.L2.Same.mut {q : Addr} {H H' : Hp} {o : HO} (a : Same H H') (n : H q = none) : Same H (upd H' q o) := fun c u h => by
  have e := a c u h
  rw [upd_ne (ne_of_none h n)]
  exact e
theorem _root_.L2.Same.tup {K : PySem.W.Frag} {a : Addr} {H H' : Hp} {xs : List V} (e : Same H H') (h : SqT K H a xs) : SqT K H' a xs := by
  rcases h with (h | ⟨o, h⟩) | h
  · exact .inl (.inl (e _ _ h))
  · exact .inl (.inr ⟨o, e _ _ h⟩)
  · exact .inr h
section
variable {K : PySem.W.Frag} {H H' : Hp} {p q : Addr} {e : Addr × List Int} {n m : Nat} {o : HO}
theorem PenAt.mono (h : PenAt K H p e n) (le : n ≤ m) : PenAt K H p e m := by
  obtain ⟨a, r, h1, h5, h6, h7⟩ := h.ex
  exact ⟨⟨a, r, h1, h5, by omega, h7⟩, h.sq, h.np, h.ln⟩
/-- the pen stands while all that is tracked stands -/
theorem PenAt.same (h : PenAt K H p e n) (s : Same H H') : PenAt K H' p e n := by
  obtain ⟨a, r, h1, h5, h6, h7⟩ := h.ex
  exact ⟨⟨a, r, s _ _ h1, h5, h6, h7⟩, s.seq h.sq, h.np, h.ln⟩
theorem PenAt.some (h : PenAt K H p e n) : ∃ xs, H p = some (.lst xs) := by
  obtain ⟨a, r, h1, _⟩ := h.ex
  exact ⟨_, h1⟩
theorem PenAt.ne (h : PenAt K H p e n) (z : H q = none) : q ≠ p := by
  obtain ⟨xs, h1⟩ := h.some
  exact (ne_of_none h1 z).symm
/-- the pen stands while a new thing is laid -/
theorem PenAt.put (h : PenAt K H p e n) (z : H q = none) : PenAt K (upd H q o) p e n := h.same (Same.new (Same.refl H) z)
/-- .. while a thing is written that was not there ahead -/
theorem PenAt.mut (h : PenAt K H p e m) (h2 : PenAt K H' p e n) (b : But p H H') (z : H q = none) : PenAt K (upd H' q o) p e n := by
  obtain ⟨a, r, h1, h5, h6, h7⟩ := h2.ex
  exact ⟨⟨a, r, by rw [upd_ne (h.ne z).symm]; exact h1, h5, h6, h7⟩, (b.mut z).seq h.np h.sq, h.np, h.ln⟩
end
/-- the built-ins that the text names -/
structure Bi (mg : Str → Option Value) : Prop where
  int : mg "int" = none
  len : mg "len" = none
  abs : mg "abs" = none
  list : mg "list" = none
  tuple : mg "tuple" = none
  bool : mg "bool" = none
  range : mg "range" = none
  sum : mg "sum" = none
  max : mg "max" = none
  all : mg "all" = none
  any : mg "any" = none
  sorted : mg "sorted" = none
  enumerate : mg "enumerate" = none
  isinstance : mg "isinstance" = none
section
variable {K : PySem.W.Frag}
theorem eqv_nil (l : List Int) : PyData.eqv (.list (l.map PyData.int)) (.list []) = l.isEmpty := by
  cases l <;> simp [PyData.eqv, PyData.eqvAll] <;> rfl
theorem dp_ints {H : Hp} : ∀ l : List Int, DpAll K H (l.map V.int) (l.map PyData.int)
  | [] => .nil
  | i :: l => .cons (.int i) (dp_ints l)
theorem lay_ints : ∀ l : List Int, PyData.canLayAll0 (l.map PyData.int) = true
  | [] => by simp [PyData.canLayAll0]
  | i :: l => by simp [PyData.canLayAll0, PyData.canLay0, lay_ints l]
theorem deep_ints : ∀ l : List Int, PyData.depthAll (l.map PyData.int) = 0
  | [] => by simp [PyData.depthAll]
  | i :: l => by simp [PyData.depthAll, PyData.depth, deep_ints l]
theorem shaped_ints (l : List Int) : SeqAt.shaped (.list (l.map PyData.int)) = true := by
  simp [SeqAt.shaped, PyData.canLay0, PyData.depth, lay_ints l, deep_ints l]
end
end K
namespace K
open PySem L2 Rg
open Evl (pss_cut)
/-- the kinds that are asked for -/
def kinds : List String := ["NoneType", "bool", "int", "str", "list", "tuple", "dict"]
theorem kit_int : ∀ k ∈ kinds, kitB k "int" = some (decide (k = "int" ∨ k = "bool")) := by decide +kernel
theorem kit_bool : ∀ k ∈ kinds, kitB k "bool" = some (decide (k = "bool")) := by decide +kernel
theorem kit_list : ∀ k ∈ kinds, kitB k "list" = some (decide (k = "list")) := by decide +kernel
theorem kit_tuple : ∀ k ∈ kinds, kitB k "tuple" = some (decide (k = "tuple")) := by decide +kernel
/-- v is of the kind k -/
def Knd (K : PySem.W.Frag) (H : Hp) (v : V) (k : String) : Prop := TyX K H v (.type k) ∧ k ∈ kinds
section
variable {P : Program} {w : World} {K : PySem.W.Frag} {mg : Str → Option Value} {base : Heap}
theorem Knd.int {H : Hp} {i : Int} : Knd K H (.int i) "int" := ⟨.base (.int i), by decide⟩
theorem tyx_same {H H' : Hp} {v : V} {t : Value} (h : TyX K H v t) (s : Same H H') : TyX K H' v t := by
  cases h with
  | base h =>
    refine .base ?_
    cases h with
    | non => exact .non
    | bl x => exact .bl x
    | int x => exact .int x
    | str x => exact .str x
    | flt x => exact .flt x
    | lst e => exact .lst (s _ _ e)
    | frz e => exact .frz (s _ _ e)
    | tup e => exact .tup (s _ _ e)
    | dK e => exact .dK (s _ _ e)
    | dT e => exact .dT (s _ _ e)
    | ins e cl ha hn htk hm => exact .ins (s _ _ e) cl ha hn htk hm
  | byt b => exact .byt b
  | set e => exact .set (s _ _ e)
  | kList e c => exact .kList e c
  | kTuple e c => exact .kTuple e c
  | kDict e c => exact .kDict e c
  | fTuple e => exact .fTuple (s _ _ e)
  | fDict e => exact .fDict (s _ _ e)
theorem Knd.same {H H' : Hp} {v : V} {k : String} (h : Knd K H v k) (s : Same H H') : Knd K H' v k := ⟨tyx_same h.1 s, h.2⟩
/-! ### is_integer -/
def spIsInt (K : PySem.W.Frag) : Sp := fun vs H Q _ => ∃ (v : V) (k : String), vs = [v] ∧ Knd K H v k ∧ Q (.bl (decide (k = "int"))) H
theorem scIsInt : FnScope ["value"] ["value"] (defScope sIsInteger) := ⟨rfl, rfl, rfl, by decide +kernel, rfl, by decide +kernel, by decide +kernel⟩
theorem ok_isInt {f : Addr} {fd : FuncData} (F : Fun K "is_integer" "is_integer" sIsInteger f fd) (T : Bi mg) : FnOk P w K mg base CX0 1 f fd ["value"] (spIsInt K) := by
  refine F.ok scIsInt (fun vs H Q E h => ?_) (fun cdv A outer s H vs Q E hr h => ?_)
  · obtain ⟨v, k, rfl, _⟩ := h
    rfl
  · refine ⟨_, pss_one (ps_ret (pe_and (pe_callB call_isi (by rfl) T.isinstance (by decide +kernel) (pa_cons (pv 0) (pa_cons (pe_bltn (v := .ty "int") (u := .type "int") (by rfl) T.int (by decide +kernel) rfl) pa_nil)))
      (pe_one (pe_not (pe_callB call_isi (by rfl) T.isinstance (by decide +kernel) (pa_cons (pv 0) (pa_cons (pe_bltn (v := .ty "bool") (u := .type "bool") (by rfl) T.bool (by decide +kernel) rfl) pa_nil))))))), ?_⟩
    obtain ⟨v, k, rfl, ⟨ty, hk⟩, q⟩ := h
    refine ⟨_, rfl, v, .ty "int", _, _, _, rfl, .ty _, ty, kit_ty (kit_int k hk), _, rfl, ?_⟩
    refine ite2 (fun c => ?_) (fun c => ?_)
    · refine ⟨_, rfl, v, .ty "bool", _, _, _, rfl, .ty _, ty, kit_ty (kit_bool k hk), _, rfl, ?_⟩
      have c' : k = "int" ∨ k = "bool" := of_decide_eq_true c
      have e : (!decide (k = "bool")) = decide (k = "int") := by
        rcases c' with rfl | rfl <;> decide
      rw [e]
      exact q
    · have c' : ¬ (k = "int" ∨ k = "bool") := fun z => c (decide_eq_true z)
      have e : decide (k = "int") = false := decide_eq_false fun z => c' (.inl z)
      rw [e] at q
      exact q
/-! ### is_list -/
def spIsList (K : PySem.W.Frag) : Sp := fun vs H Q _ => ∃ (v : V) (k : String), vs = [v] ∧ Knd K H v k ∧ ∀ H', Same H H' → Q (.bl (decide (k = "list" ∨ k = "tuple"))) H'
theorem scIsList : FnScope ["value"] ["value"] (defScope sIsList) := ⟨rfl, rfl, rfl, by decide +kernel, rfl, by decide +kernel, by decide +kernel⟩
theorem ok_isList {f : Addr} {fd : FuncData} (F : Fun K "is_list" "is_list" sIsList f fd) (T : Bi mg) : FnOk P w K mg base CX0 1 f fd ["value"] (spIsList K) := by
  refine F.ok scIsList (fun vs H Q E h => ?_) (fun cdv A outer s H vs Q E hr h => ?_)
  · obtain ⟨v, k, rfl, _⟩ := h
    rfl
  · refine ⟨_, pss_one (ps_ret (pe_callB call_isiT (by rfl) T.isinstance (by decide +kernel) (pa_cons (pv 0) (pa_cons (pe_tup (pa_cons (pe_bltn (v := .ty "list") (u := .type "list") (by rfl) T.list (by decide +kernel) rfl) (pa_cons (pe_bltn (v := .ty "tuple") (u := .type "tuple") (by rfl) T.tuple (by decide +kernel) rfl) pa_nil))) pa_nil)))), ?_⟩
    obtain ⟨v, k, rfl, ⟨ty, hk⟩, q⟩ := h
    refine ⟨_, rfl, (by show 2 ≤ sizeLine; decide), fun p hp => ?_⟩
    have s1 : Same H (upd H p (.tup [.ty "list", .ty "tuple"])) := (Same.refl H).new hp
    refine ⟨v, p, [.ty "list", .ty "tuple"], _, _, decide (k = "list" ∨ k = "tuple"), rfl, upd_same, .cons (.ty _) (.cons (.ty _) .nil), tyx_same ty s1, kitAny_cons (kit_ty (kit_list k hk)) (fun e => kitAny_cons (b := decide (k = "tuple")) (r := decide (k = "list" ∨ k = "tuple")) (kit_ty (kit_tuple k hk)) (fun e' => ?_) fun e' => ?_) fun e => ?_, q _ s1⟩
    · have h1 : ¬ k = "list" := of_decide_eq_false e
      have h2 : ¬ k = "tuple" := of_decide_eq_false e'
      rw [kitAny_nil, decide_eq_false (fun z => z.elim h1 h2)]
    · exact decide_eq_true (.inr (of_decide_eq_true e'))
    · exact decide_eq_true (.inl (of_decide_eq_true e))
end
end K
namespace K
open PySem L2 Rg
open Evl (pss_cut)
theorem iteDT {c A B : Prop} [Decidable c] (hc : c) (h : A) : if decide c = true then A else B := by
  rw [if_pos (decide_eq_true hc)]; exact h
theorem iteDF {c A B : Prop} [Decidable c] (hc : ¬ c) (h : B) : if decide c = true then A else B := by
  rw [if_neg (by rw [decide_eq_false hc]; exact Bool.false_ne_true)]; exact h
theorem iteBT {c : Bool} {A B : Prop} (hc : c = true) (h : A) : if c = true then A else B := by
  rw [if_pos hc]; exact h
theorem iteBF {c : Bool} {A B : Prop} (hc : c = false) (h : B) : if c = true then A else B := by
  rw [if_neg (by rw [hc]; exact Bool.false_ne_true)]; exact h
theorem sm {n : Nat} (h : n ≤ 10000) : n < sizeLine := Nat.lt_of_le_of_lt h (by decide)
/-- a def of the text, by its name -/
structure DefAt (P : Program) (w : World) (K : PySem.W.Frag) (mg : Str → Option Value) (base : Heap) (CX : CXT) (k : Nat) (x : Str) (ps : List Str) (sp : Sp) (f : Addr) (fd : FuncData) : Prop where
  ok : FnOk P w K mg base CX k f fd ps sp
  g : mg x = some (.ref f)
  kp : PySem.W.keepIn K (.ref f) = true
  b : Binds K fd ps []
section
variable {P : Program} {w : World} {K : PySem.W.Frag} {mg : Str → Option Value} {base : Heap}
/-- two promises of one def -/
theorem fn_or {CX : CXT} {k : Nat} {f : Addr} {fd : FuncData} {ps : List Str} {sp sp' : Sp} (F : FnOk P w K mg base CX k f fd ps sp) (G : FnOk P w K mg base CX k f fd ps sp') : FnOk P w K mg base CX k f fd ps (fun vs H Q E => sp vs H Q E ∨ sp' vs H Q E) :=
  ⟨fun vs H Q E h => h.elim (F.len vs H Q E) (G.len vs H Q E), fun A outer s H args us vs Q E hr e0 hb hv h => h.elim (F.run A outer s H args us vs Q E hr e0 hb hv) (G.run A outer s H args us vs Q E hr e0 hb hv)⟩
/-! ### is_within, of ints -/
def spWithin : Sp := fun vs H Q _ => ∃ (v lo hi : Int), vs = [.int v, .int lo, .int hi] ∧ Q (.bl (decide (lo ≤ v) && decide (v ≤ hi))) H
theorem scWithin : FnScope ["value", "least", "most"] ["value", "least", "most"] (defScope sIsWithin) := ⟨rfl, rfl, rfl, by decide +kernel, rfl, by decide +kernel, by decide +kernel⟩
theorem ok_within {f fI : Addr} {fd fdI : FuncData} (F : Fun K "is_within" "is_within" sIsWithin f fd) (G : DefAt P w K mg base CX0 1 "is_integer" ["value"] (spIsInt K) fI fdI) : FnOk P w K mg base CX0 2 f fd ["value", "least", "most"] spWithin := by
  refine F.ok scWithin (fun vs H Q E h => ?_) (fun cdv A outer s H vs Q E hr h => ?_)
  · obtain ⟨v, lo, hi, rfl, _⟩ := h
    rfl
  · refine ⟨_, pss_cons (ps_if (pt_not (pt_val (pe_call G.ok hr rfl G.g G.kp G.b .nil pass0 (pa_cons (pv 0) pa_nil)))) (pss_one (ps_ret pe_bl)) pss_nil)
      (pss_one (ps_ret (pe_and (pe_or (pe_cmpR op_isN (pv 1) pe_non (nomark _)) (pe_one (pe_cmpR op_ge (pv 0) (pv 1) (nomark _)))) (pe_one (pe_or (pe_cmpR op_isN (pv 2) pe_non (nomark _)) (pe_one (pe_cmpR op_le (pv 0) (pv 2) (nomark _)))))))), ?_⟩
    obtain ⟨v, lo, hi, rfl, q⟩ := h
    refine ⟨_, rfl, V.int v, "int", rfl, Knd.int, _, rfl, iteNS rfl ?_⟩
    refine ⟨_, rfl, rfl, _, rfl, iteDF (fun z => nomatch z) ⟨_, rfl, _, rfl, _, _, rfl, rfl, _, rfl, ?_⟩⟩
    refine ite2 (fun c => ?_) (fun c => ?_)
    · have c' : lo ≤ v := of_decide_eq_true c
      refine ⟨_, rfl, rfl, _, rfl, iteDF (fun z => nomatch z) ⟨_, rfl, _, rfl, _, _, rfl, rfl, ?_⟩⟩
      rw [decide_eq_true c', Bool.true_and] at q
      exact q
    · have c' : ¬ lo ≤ v := fun z => c (decide_eq_true z)
      rw [decide_eq_false c', Bool.false_and] at q
      exact q
/-! ### is_numbers -/
abbrev nNums : List Str := ["value", "one"]
theorem scNums : FnScope nNums ["value"] (defScope sIsNumbers) := ⟨rfl, rfl, rfl, by decide +kernel, rfl, by decide +kernel, by decide +kernel⟩
/-- of what is no list or tuple | of a list | of a tuple -/
def spNumsO (K : PySem.W.Frag) : Sp := fun vs H Q _ => ∃ (v : V) (k : String), vs = [v] ∧ Knd K H v k ∧ k ≠ "list" ∧ k ≠ "tuple" ∧ ∀ H', Same H H' → Q (.bl false) H'
def spNumsL (K : PySem.W.Frag) : Sp := fun vs H Q _ => ∃ (a : Addr) (xs : List V) (kf : V → String), vs = [.ref a] ∧ Knd K H (.ref a) "list" ∧ SqL K H a xs ∧ xs.length ≤ 1000 ∧ (∀ x ∈ xs, Knd K H x (kf x)) ∧ ∀ H', Same H H' → Q (.bl (xs.all fun x => decide (kf x = "int"))) H'
def spNumsT (K : PySem.W.Frag) : Sp := fun vs H Q _ => ∃ (a : Addr) (xs : List V) (kf : V → String), vs = [.ref a] ∧ Knd K H (.ref a) "tuple" ∧ SqT K H a xs ∧ xs.length ≤ 1000 ∧ (∀ x ∈ xs, Knd K H x (kf x)) ∧ ∀ H', Same H H' → Q (.bl (xs.all fun x => decide (kf x = "int"))) H'
theorem all_map_bl (xs : List V) (g : V → Bool) : ((xs.map g).all id) = xs.all g := by
  rw [List.all_map]; rfl
theorem ok_numsO {f fI fL : Addr} {fd fdI fdL : FuncData} (F : Fun K "is_numbers" "is_numbers" sIsNumbers f fd) (T : Bi mg) (G : DefAt P w K mg base CX0 1 "is_integer" ["value"] (spIsInt K) fI fdI) (L : DefAt P w K mg base CX0 1 "is_list" ["value"] (spIsList K) fL fdL) : FnOk P w K mg base CX0 2 f fd ["value"] (spNumsO K) := by
  refine F.ok scNums (fun vs H Q E h => ?_) (fun cdv A outer s H vs Q E hr h => ?_)
  · obtain ⟨v, k, rfl, _⟩ := h
    rfl
  · refine ⟨_, pss_one (ps_ret (pe_and (pe_call L.ok hr rfl L.g L.kp L.b .nil pass0 (pa_cons (pv 0) pa_nil)) (pe_one (pe_callB (cr_all rfl) (by rfl) T.all (by decide +kernel) (pa_cons (pe_lc (own := [("one", 1)]) (g := gName 1) (tt := tYes) rfl scNums.nd (pi_list (pv 0))
      (blkOk_by (N := nNums) (sc := defScope sIsNumbers) (by decide +kernel)) (fun _ _ _ _ _ => pg_name (i := 1) scNums.nd rfl (Or.inl rfl)) (fun _ _ _ _ _ => pts_nil) (fun _ _ _ _ _ => pe_call G.ok hr rfl G.g G.kp G.b .nil pass0 (pa_cons (pv 1) pa_nil))) pa_nil))))), ?_⟩
    obtain ⟨v, k, rfl, hk, k1, k2, q⟩ := h
    exact ⟨_, rfl, v, k, rfl, hk, fun H' s1 => ⟨_, rfl, iteDF (fun z => z.elim k1 k2) (q H' s1)⟩⟩
theorem ok_numsL {f fI fL : Addr} {fd fdI fdL : FuncData} (F : Fun K "is_numbers" "is_numbers" sIsNumbers f fd) (T : Bi mg) (G : DefAt P w K mg base CX0 1 "is_integer" ["value"] (spIsInt K) fI fdI) (L : DefAt P w K mg base CX0 1 "is_list" ["value"] (spIsList K) fL fdL) : FnOk P w K mg base CX0 2 f fd ["value"] (spNumsL K) := by
  refine F.ok scNums (fun vs H Q E h => ?_) (fun cdv A outer s H vs Q E hr h => ?_)
  · obtain ⟨v, k, kf, rfl, _⟩ := h
    rfl
  · refine ⟨_, pss_one (ps_ret (pe_and (pe_call L.ok hr rfl L.g L.kp L.b .nil pass0 (pa_cons (pv 0) pa_nil)) (pe_one (pe_callB (cr_all rfl) (by rfl) T.all (by decide +kernel) (pa_cons (pe_lc (own := [("one", 1)]) (g := gName 1) (tt := tYes) rfl scNums.nd (pi_list (pv 0))
      (blkOk_by (N := nNums) (sc := defScope sIsNumbers) (by decide +kernel)) (fun _ _ _ _ _ => pg_name (i := 1) scNums.nd rfl (Or.inl rfl)) (fun _ _ _ _ _ => pts_nil) (fun _ _ _ _ _ => pe_call G.ok hr rfl G.g G.kp G.b .nil pass0 (pa_cons (pv 1) pa_nil))) pa_nil))))), ?_⟩
    obtain ⟨a, xs, kf, rfl, hk, hs, hl, hx, q⟩ := h
    refine ⟨_, rfl, _, "list", rfl, hk, fun H1 s1 => ⟨_, rfl, iteDT (.inl rfl) ?_⟩⟩
    refine ⟨_, rfl, a, rfl, ⟨_, s1.seq hs⟩, fun D hD => ?_⟩
    have hD0 := s1.free hD
    refine lc_list (K := K) (a := a) (xs := xs) (fun i H' => Same H H' ∧ H' D = some (.lst ((xs.take i).map fun x => V.bl (decide (kf x = "int"))))) ⟨s1.new hD, upd_same⟩ (fun i H' _ p => p.1.seq hs) ?_ ?_
    · rintro i x H' hi ⟨s2, h2⟩
      refine ⟨rfl, _, rfl, x, kf x, rfl, (hx x (List.mem_of_getElem? hi)).same s2, _, h2, (by rw [List.length_map, List.length_take]; exact sm (by omega)), s2.mut hD0, ?_⟩
      rw [upd_same, List.take_succ, hi, List.map_append]
      rfl
    · rintro H' ⟨s2, h2⟩
      rw [List.take_length] at h2
      refine ⟨D, xs.map fun x => decide (kf x = "int"), rfl, SqL.of (by rw [List.map_map]; exact h2), ?_⟩
      rw [all_map_bl]
      exact q H' s2
theorem ok_numsT {f fI fL : Addr} {fd fdI fdL : FuncData} (F : Fun K "is_numbers" "is_numbers" sIsNumbers f fd) (T : Bi mg) (G : DefAt P w K mg base CX0 1 "is_integer" ["value"] (spIsInt K) fI fdI) (L : DefAt P w K mg base CX0 1 "is_list" ["value"] (spIsList K) fL fdL) : FnOk P w K mg base CX0 2 f fd ["value"] (spNumsT K) := by
  refine F.ok scNums (fun vs H Q E h => ?_) (fun cdv A outer s H vs Q E hr h => ?_)
  · obtain ⟨v, k, kf, rfl, _⟩ := h
    rfl
  · refine ⟨_, pss_one (ps_ret (pe_and (pe_call L.ok hr rfl L.g L.kp L.b .nil pass0 (pa_cons (pv 0) pa_nil)) (pe_one (pe_callB (cr_all rfl) (by rfl) T.all (by decide +kernel) (pa_cons (pe_lc (own := [("one", 1)]) (g := gName 1) (tt := tYes) rfl scNums.nd (pi_tup (pv 0))
      (blkOk_by (N := nNums) (sc := defScope sIsNumbers) (by decide +kernel)) (fun _ _ _ _ _ => pg_name (i := 1) scNums.nd rfl (Or.inl rfl)) (fun _ _ _ _ _ => pts_nil) (fun _ _ _ _ _ => pe_call G.ok hr rfl G.g G.kp G.b .nil pass0 (pa_cons (pv 1) pa_nil))) pa_nil))))), ?_⟩
    obtain ⟨a, xs, kf, rfl, hk, hs, hl, hx, q⟩ := h
    refine ⟨_, rfl, _, "tuple", rfl, hk, fun H1 s1 => ⟨_, rfl, iteDT (.inr rfl) ?_⟩⟩
    refine ⟨_, rfl, a, rfl, ⟨_, s1.tup hs⟩, fun D hD => ?_⟩
    have hD0 := s1.free hD
    refine lc_tup (K := K) (a := a) (xs := xs) (fun i H' => Same H H' ∧ H' D = some (.lst ((xs.take i).map fun x => V.bl (decide (kf x = "int"))))) ⟨s1.new hD, upd_same⟩ (fun i H' _ p => p.1.tup hs) ?_ ?_
    · rintro i x H' hi ⟨s2, h2⟩
      refine ⟨rfl, _, rfl, x, kf x, rfl, (hx x (List.mem_of_getElem? hi)).same s2, _, h2, (by rw [List.length_map, List.length_take]; exact sm (by omega)), s2.mut hD0, ?_⟩
      rw [upd_same, List.take_succ, hi, List.map_append]
      rfl
    · rintro H' ⟨s2, h2⟩
      rw [List.take_length] at h2
      refine ⟨D, xs.map fun x => decide (kf x = "int"), rfl, SqL.of (by rw [List.map_map]; exact h2), ?_⟩
      rw [all_map_bl]
      exact q H' s2
end
end K
namespace K
open PySem L2 Rg
open Evl (pss_cut)
def spDraw (K : PySem.W.Frag) : Sp := fun vs H Q _ => ∃ (p : Addr) (e : Addr × List Int) (many : Int) (n : Nat), vs = [.ref p, .int many] ∧ 1 ≤ many ∧ many ≤ 1000000 ∧ n < 1000000 ∧ PenAt K H p e n ∧
  ∀ (r : Int) (H' : Hp), 0 ≤ r → r < many → But p H H' → PenAt K H' p e (n + 1) → Q (.int r) H'
section
variable {P : Program} {w : World} {K : PySem.W.Frag} {mg : Str → Option Value} {base : Heap}
abbrev nDraw : List Str := ["_law_bench_here", "_law_many", "_law_digit", "_law_at", "_law_cell", "_law_great", "_law_mixed"]
theorem scDraw : FnScope nDraw ["_law_bench_here", "_law_many"] (defScope sLwDraw) := ⟨rfl, rfl, rfl, by decide +kernel, rfl, by decide +kernel, by decide +kernel⟩
theorem ok_draw {f : Addr} {fd : FuncData} (F : Fun K "_law_draw" "_law_draw" sLwDraw f fd) (T : Bi mg) : FnOk P w K mg base CX0 2 f fd ["_law_bench_here", "_law_many"] (spDraw K) := by
  refine F.ok scDraw (fun vs H Q E h => ?_) (fun cdv A outer s H vs Q E hr h => ?_)
  · obtain ⟨p, e, many, n, rfl, _⟩ := h
    rfl
  · have nd := scDraw.nd
    refine ⟨_, pss_cons (ps_if (pt_cmpR op_gt (pe_ix ix_list (pv 0) pe_int (fun _ _ => rfl)) pe_int (nomark _))
        (pss_cons (ps_set (i := 2) nd rfl (Or.inl rfl) (pe_op op_mod (pe_callTy call_int1 (by rfl) T.int (by decide +kernel) (pa_cons (pe_ix ix_list (pv 0) pe_int (fun _ _ => rfl)) pa_nil)) (pv 1)))
        (pss_cons (ps_asg (pe_op op_fdiv (pe_callTy call_int1 (by rfl) T.int (by decide +kernel) (pa_cons (pe_ix ix_list (pv 0) pe_int (fun _ _ => rfl)) pa_nil)) (pv 1)) (pg_sub (pv 0) pe_int set_list))
        (pss_one (ps_ret (pv 2))))) pss_nil)
      (pss_cons (ps_set (i := 3) nd rfl (Or.inl rfl) (pe_ix ix_list (pv 0) pe_int (fun _ _ => rfl)))
      (pss_cons (ps_asg (pe_op op_add (pv 3) pe_int) (pg_sub (pv 0) pe_int set_list))
      (pss_cons (ps_set (i := 4) nd rfl (Or.inl rfl) (pe_op op_add (pe_op op_mul pe_int (pv 3)) pe_int))
      (pss_cut (ps_if (pt_cmpR (op_neD hr.units) (pe_ix ix_list (pv 0) pe_int (fun _ _ => rfl)) (pe_lst pa_nil) (nomark _))
        (pss_one (ps_set (i := 4) nd rfl (Or.inl rfl) (pe_ix ix_list (pe_ix ix_list (pv 0) pe_int (fun _ _ => rfl)) (pe_op op_mod (pe_callTy call_int1 (by rfl) T.int (by decide +kernel) (pa_cons (pv 3) pa_nil)) (pe_callB call_len_seq (by rfl) T.len PySem.boot_len (pa_cons (pe_ix ix_list (pv 0) pe_int (fun _ _ => rfl)) pa_nil))) (fun _ _ => rfl)))) pss_nil)
      (pss_cut (ps_if (PW.pt (pw_and (pt_cmpR op_lt (pv 3) (pe_callB call_len_seq (by rfl) T.len PySem.boot_len (pa_cons (pe_ix ix_list (pv 0) pe_int (fun _ _ => rfl)) pa_nil)) (nomark _))
          (pw_and1 (pt_cmpR op_ge (pe_callB call_abs (by rfl) T.abs (by decide +kernel) (pa_cons (pv 4) pa_nil)) (pe_op op_pow pe_int pe_int) (nomark _)))))
        (pss_cons (ps_set (i := 5) nd rfl (Or.inl rfl) (pe_op op_add (pe_op op_mul pe_int (pe_op op_sub (pe_callB call_abs (by rfl) T.abs (by decide +kernel) (pa_cons (pv 4) pa_nil)) (pe_op op_pow pe_int pe_int))) (pe_callTy call_int1 (by rfl) T.int (by decide +kernel) (pa_cons (pe_cmpR op_lt (pv 4) pe_int (nomark _)) pa_nil))))
        (pss_cons (ps_asg (pe_op op_fdiv (pe_callTy call_int1 (by rfl) T.int (by decide +kernel) (pa_cons (pv 5) pa_nil)) (pv 1)) (pg_sub (pv 0) pe_int set_list))
        (pss_one (ps_ret (pe_op op_mod (pe_callTy call_int1 (by rfl) T.int (by decide +kernel) (pa_cons (pv 5) pa_nil)) (pv 1)))))) pss_nil)
      (pss_cut (ps_set (i := 6) nd rfl (Or.inl rfl) (pe_op op_mod (pe_callTy call_int1 (by rfl) T.int (by decide +kernel) (pa_cons (pe_op op_pow (pe_op op_add (pe_op op_add (pe_op op_mod (pe_callTy call_int1 (by rfl) T.int (by decide +kernel) (pa_cons (pv 4) pa_nil)) pe_int) (pe_op op_mul pe_int (pv 3))) pe_int) pe_int) pa_nil)) pe_int))
      (pss_cons (ps_set (i := 6) nd rfl (Or.inl rfl) (pe_op op_mod (pe_callTy call_int1 (by rfl) T.int (by decide +kernel) (pa_cons (pe_op op_pow (pe_op op_add (pe_op op_add (pe_op op_mul (pv 6) (pe_op op_add (pe_op op_mul pe_int (pv 3)) pe_int)) (pe_op op_mul (pe_op op_mul pe_int (pv 3)) (pv 3))) pe_int) pe_int) pa_nil)) pe_int))
      (pss_one (ps_ret (pe_op op_mod (pe_callTy call_int1 (by rfl) T.int (by decide +kernel) (pa_cons (pe_op op_fdiv (pv 6) pe_int) pa_nil)) (pv 1))))))))))), ?_⟩
    obtain ⟨p, ⟨c, cells⟩, many, n, rfl, m1, m2, hn, ⟨⟨at0, rest, hp, a0, a1, r0⟩, hc, hcp, hcl⟩, k⟩ := h
    dsimp only at hp hc hcp hcl
    have mp : (0 : Int) < many := by omega
    have md : (0 : Int) < many ∧ many < 1073741824 := ⟨mp, by omega⟩
    refine ⟨_, rfl, p, _, _, _, rfl, rfl, SqL.of hp, atI_nat (j := 2) rfl, _, _, rfl, rfl, _, rfl, ?_⟩
    refine ite2 (fun hg => ?_) (fun hg => ?_)
    · have g0 : rest > 0 := of_decide_eq_true hg
      refine ⟨_, rfl, p, _, _, _, rfl, rfl, SqL.of hp, atI_nat (j := 2) rfl, .inl ⟨_, rfl, _, rfl, _, _, rfl, rfl, mp, ?_⟩⟩
      refine ⟨_, rfl, p, _, _, _, rfl, rfl, SqL.of hp, atI_nat (j := 2) rfl, .inl ⟨_, rfl, _, rfl, _, _, rfl, rfl, md, _, rfl, p, _, _, 2, rfl, rfl, hp, rfl, ?_⟩⟩
      refine ⟨_, rfl, ?_⟩
      have b1 : But p H (upd H p (.lst [.ref c, .int at0, .int (rest / many)])) := (But.refl p H).at
      exact k _ _ (Int.emod_nonneg _ (by omega)) (Int.emod_lt_of_pos _ mp) b1 ⟨⟨at0, rest / many, upd_same, a0, by omega, Int.ediv_nonneg r0 (by omega)⟩, b1.seq hcp hc, hcp, hcl⟩
    · refine ⟨_, rfl, p, _, _, _, rfl, rfl, SqL.of hp, atI_nat (j := 1) rfl, ?_⟩
      refine ⟨_, rfl, _, _, rfl, rfl, _, rfl, p, _, _, 1, rfl, rfl, hp, rfl, ?_⟩
      have h1 : upd H p (.lst [.ref c, .int (at0 + 1), .int rest]) p = some (.lst [.ref c, .int (at0 + 1), .int rest]) := upd_same
      have b1 : But p H (upd H p (.lst [.ref c, .int (at0 + 1), .int rest])) := (But.refl p H).at
      refine ⟨_, rfl, _, _, rfl, rfl, .inl ⟨by decide, by decide⟩, _, _, rfl, rfl, ?_⟩
      refine ⟨fun σ' H' => ∃ cell : Int, σ' = [some (.ref p), some (.int many), none, some (.int at0), some (.int cell), none, none] ∧ But p H H' ∧ H' p = some (.lst [.ref c, .int (at0 + 1), .int rest]), ?_, ?_⟩
      · refine ⟨_, rfl, p, _, _, _, rfl, rfl, SqL.of h1, atI_nat (j := 0) rfl, (by decide), fun q hq => ?_⟩
        have hqp : p ≠ q := ne_of_none h1 hq
        have b2 : But p H (upd (upd H p (.lst [.ref c, .int (at0 + 1), .int rest])) q (.lst [])) := b1.new hq
        have h2 : upd (upd H p (.lst [.ref c, .int (at0 + 1), .int rest])) q (.lst []) p = some (.lst [.ref c, .int (at0 + 1), .int rest]) := by rw [upd_ne hqp]; exact h1
        refine ⟨_, _, .lst (b2.seq hcp hc) (dp_ints cells), .lst (SqL.of upd_same) .nil, shaped_ints _, rfl, _, rfl, ?_⟩
        rw [eqv_nil]
        cases e : cells.isEmpty with
        | true =>
          refine iteF ?_
          exact ⟨_, rfl, b2, h2⟩
        | false =>
          have hl : 0 < cells.length := by
            cases cells with
            | nil => cases e
            | cons z zs => simp
          refine iteT ?_
          have hlt : (at0 % (cells.length : Int)).toNat < cells.length := by
            have := Int.emod_lt_of_pos at0 (show (0 : Int) < cells.length by omega)
            have := Int.emod_nonneg at0 (show (cells.length : Int) ≠ 0 by omega)
            omega
          have hix : (cells.map V.int)[(at0 % (cells.length : Int)).toNat]? = some (V.int (cells[(at0 % (cells.length : Int)).toNat])) := by
            rw [List.getElem?_map, List.getElem?_eq_getElem hlt]
            rfl
          refine ⟨_, rfl, p, _, _, _, rfl, rfl, SqL.of h2, atI_nat (j := 0) rfl, _, rfl, .inl ⟨_, rfl, _, rfl, p, _, _, _, rfl, rfl, SqL.of h2, atI_nat (j := 0) rfl, c, _, rfl, .inl (b2.seq hcp hc), ?_⟩⟩
          rw [List.length_map]
          refine ⟨_, _, rfl, rfl, (by omega), c, _, _, _, rfl, rfl, b2.seq hcp hc, at_of (j := (at0 % (cells.length : Int)).toNat) (by
            have := Int.emod_nonneg at0 (show (cells.length : Int) ≠ 0 by omega)
            omega) hix, ?_⟩
          exact ⟨_, rfl, b2, h2⟩
      · rintro σ' H' ⟨cell, rfl, b2, h2⟩
        have pw : CPow 10 18 := ⟨by decide, by decide, by decide⟩
        refine ⟨fun σ' H'' => σ' = [some (.ref p), some (.int many), none, some (.int at0), some (.int cell), none, none] ∧ But p H H'' ∧ H'' p = some (.lst [.ref c, .int (at0 + 1), .int rest]), ?_, ?_⟩
        · refine ⟨_, rfl, _, rfl, p, _, _, _, rfl, rfl, SqL.of h2, atI_nat (j := 0) rfl, c, _, rfl, .inl (b2.seq hcp hc), _, _, rfl, rfl, _, rfl, ?_⟩
          refine ite2 (fun _ => ?_) (fun _ => iteF ?_)
          · refine ⟨_, rfl, _, rfl, _, _, rfl, rfl, pw, _, _, rfl, rfl, _, rfl, ?_⟩
            refine ite2 (fun hge => ?_) (fun _ => ?_)
            · have ge := of_decide_eq_true hge
              have ge2 : (10 : Int) ^ (18 : Int).toNat ≤ if cell < 0 then -cell else cell := ge
              have gr0 : 0 ≤ (2 * ((if cell < 0 then -cell else cell) - (10 : Int) ^ (18 : Int).toNat) + (if decide (cell < 0) = true then 1 else 0) : Int) := by
                split <;> omega
              refine ⟨_, rfl, _, rfl, _, _, rfl, rfl, pw, _, _, rfl, rfl, _, _, rfl, rfl, .inl ⟨by decide, by decide⟩, _, rfl, _, _, rfl, rfl, .inr ⟨_, rfl, _, _, rfl, rfl, ?_⟩⟩
              refine ⟨_, rfl, .inl ⟨_, rfl, _, rfl, _, _, rfl, rfl, md, _, rfl, p, _, _, 2, rfl, rfl, h2, rfl, ?_⟩⟩
              refine ⟨_, rfl, .inl ⟨_, rfl, _, rfl, _, _, rfl, rfl, mp, ?_⟩⟩
              exact k _ _ (Int.emod_nonneg _ (by omega)) (Int.emod_lt_of_pos _ mp) b2.at ⟨⟨at0 + 1, _, upd_same, by omega, by omega, Int.ediv_nonneg gr0 (by omega)⟩, (b2.at).seq hcp hc, hcp, hcl⟩
            · exact ⟨rfl, b2, h2⟩
          · exact ⟨rfl, b2, h2⟩
        · rintro σ'' H'' ⟨rfl, b3, h3⟩
          refine ⟨fun σ' H4 => ∃ x : Int, 0 ≤ x ∧ x < 2147483629 ∧ σ' = [some (.ref p), some (.int many), none, some (.int at0), some (.int cell), none, some (.int x)] ∧ H4 = H'', ?_, ?_⟩
          · have q0 := Int.emod_nonneg cell (show (2147483587 : Int) ≠ 0 by decide)
            have q1 := Int.emod_lt_of_pos cell (show (0 : Int) < 2147483587 by decide)
            have pw5 : CPow (cell % 2147483587 + 61091 * at0 + 2237) 5 := ⟨by decide, by decide, by omega⟩
            refine ⟨_, rfl, .inl ⟨_, rfl, _, _, rfl, rfl, (by show (0 : Int) < 2147483587; decide), _, rfl, _, _, rfl, rfl, .inl ⟨by decide, by decide⟩, _, _, rfl, rfl, _, _, rfl, rfl, _, _, rfl, rfl, pw5, .inl ⟨_, rfl, _, _, rfl, rfl, (by show (0 : Int) < 2147483629; decide), ?_⟩⟩⟩
            exact ⟨_, Int.emod_nonneg _ (by decide), Int.emod_lt_of_pos _ (by decide), rfl, rfl⟩
          · rintro σ' H4 ⟨x, x0, x1, rfl, rfl⟩
            have e1 : x * (2 * at0 + 2341) ≤ 2147483629 * 2002341 := Int.mul_le_mul (by omega) (by omega) (by omega) (by decide)
            have e2 : 0 ≤ x * (2 * at0 + 2341) := Int.mul_nonneg x0 (by omega)
            have e3 : 63073 * at0 * at0 ≤ 63073000000 * 1000000 := Int.mul_le_mul (by omega) (by omega) a0 (by decide)
            have e4 : 0 ≤ 63073 * at0 * at0 := Int.mul_nonneg (by omega) a0
            have pw3 : CPow (x * (2 * at0 + 2341) + 63073 * at0 * at0 + 60077) 3 := ⟨by decide, by decide, by omega⟩
            refine ⟨_, rfl, _, rfl, _, _, rfl, rfl, .inl ⟨by decide, by decide⟩, _, _, rfl, rfl, _, _, rfl, rfl, .inl ⟨by omega, by omega⟩, _, rfl, _, _, rfl, rfl, .inl ⟨by decide, by decide⟩, _, rfl, _, _, rfl, rfl, .inr ⟨by omega, by omega⟩, _, _, rfl, rfl, _, _, rfl, rfl, _, _, rfl, rfl, pw3, .inl ⟨_, rfl, _, _, rfl, rfl, (by show (0 : Int) < 2147483549; decide), ?_⟩⟩
            refine ⟨_, rfl, _, _, rfl, rfl, ⟨by decide, by decide⟩, .inl ⟨_, rfl, _, rfl, _, _, rfl, rfl, mp, ?_⟩⟩
            exact k _ _ (Int.emod_nonneg _ (by omega)) (Int.emod_lt_of_pos _ mp) b3 ⟨⟨at0 + 1, rest, h3, by omega, by omega, r0⟩, b3.seq hcp hc, hcp, hcl⟩
end
end K
namespace K
open PySem L2 Rg
open Evl (pss_cut)
theorem int_at {l : List Int} {i : Nat} {v : V} (h : (l.map V.int)[i]? = some v) : ∃ z, l[i]? = some z ∧ v = .int z := by
  rw [List.getElem?_map] at h
  cases e : l[i]? with
  | none => rw [e] at h; cases h
  | some z => rw [e] at h; exact ⟨z, rfl, (Option.some.inj h).symm⟩
theorem take_snoc {α : Type} {l : List α} {i : Nat} {z : α} (h : l[i]? = some z) : l.take i ++ [z] = l.take (i + 1) := by
  rw [List.take_succ, h]; rfl
theorem sz {n : Nat} (h : n ≤ 100000) : n ≤ sizeLine := Nat.le_trans h (by decide)
theorem szl {n : Nat} (h : n < 100000) : n < sizeLine := Nat.lt_of_lt_of_le h (by decide)
theorem cutV_to (xs : List V) (k : Nat) : cutV xs none (some (k : Int)) = xs.take k := by
  unfold cutV
  rw [HT.sIx_none, HT.sIx_nat, List.drop_zero, Nat.sub_zero]
  rcases Nat.le_total k xs.length with h | h
  · rw [Nat.min_eq_left h]
  · rw [Nat.min_eq_right h, List.take_length, List.take_of_length_le h]
section
variable {P : Program} {w : World} {K : PySem.W.Frag} {mg : Str → Option Value} {base : Heap}
/-! ### the pen -/
def spPen (K : PySem.W.Frag) : Sp := fun vs H Q _ => ∃ (a : Addr) (ns : List Int), vs = [.ref a] ∧ SqL K H a (ns.map V.int) ∧ ns.length ≤ 63 ∧
  ∀ (p : Addr) (e : Addr × List Int) (H' : Hp), Same H H' → H p = none → PenAt K H' p e 0 → Q (.ref p) H'
abbrev nPen : List Str := ["_law_script", "_law_cell"]
theorem scPen : FnScope nPen ["_law_script"] (defScope sLwBench) := ⟨rfl, rfl, rfl, by decide +kernel, rfl, by decide +kernel, by decide +kernel⟩
theorem ok_pen {f : Addr} {fd : FuncData} (F : Fun K "_law_bench" "_law_bench" sLwBench f fd) (T : Bi mg) : FnOk P w K mg base CX0 2 f fd ["_law_script"] (spPen K) := by
  refine F.ok scPen (fun vs H Q E h => ?_) (fun cdv A outer s H vs Q E hr h => ?_)
  · obtain ⟨a, ns, rfl, _⟩ := h
    rfl
  · have nd := scPen.nd
    refine ⟨_, pss_one (ps_ret (pe_lst (pa_cons (pe_lc (own := [("_law_cell", 1)]) (g := gName 1) (tt := tYes) rfl nd (pi_list (pe_slice sl_list (pv 0) po_none (po_some pe_int)))
      (blkOk_by (N := nPen) (sc := defScope sLwBench) (by decide +kernel)) (fun _ _ _ _ _ => pg_name (i := 1) nd rfl (Or.inl rfl)) (fun _ _ _ _ _ => pts_nil)
      (fun _ _ _ _ _ => pe_callTy call_int1 (by rfl) T.int (by decide +kernel) (pa_cons (pv 1) pa_nil))) (pa_cons pe_int (pa_cons pe_int pa_nil))))), ?_⟩
    obtain ⟨a, ns, rfl, hS, hl, k⟩ := h
    refine ⟨_, rfl, _, rfl, a, _, rfl, hS, fun q hq => ?_⟩
    have e0 : cutV (ns.map V.int) none (some 58) = (ns.take 58).map V.int := by
      rw [show (58 : Int) = ((58 : Nat) : Int) from rfl, cutV_to, List.map_take]
    rw [e0]
    refine ⟨q, rfl, ⟨_, SqL.of upd_same⟩, fun D hD => ?_⟩
    have hqD : q ≠ D := ne_of_none upd_same hD
    have sD : Same (upd H q (.lst ((ns.take 58).map V.int))) (upd (upd H q (.lst ((ns.take 58).map V.int))) D (.lst [])) := (Same.refl _).new hD
    refine lc_list (K := K) (a := q) (xs := (ns.take 58).map V.int) (fun i H' => Same (upd H q (.lst ((ns.take 58).map V.int))) H' ∧ H' D = some (.lst (((ns.take 58).take i).map V.int)))
      ⟨sD, upd_same⟩ (fun i H' _ p => p.1.seq (SqL.of upd_same)) ?_ ?_
    · rintro i x H' hi ⟨s1, h1⟩
      obtain ⟨z, hz, rfl⟩ := int_at hi
      refine ⟨rfl, _, rfl, .inl ⟨_, rfl, _, h1, szl (by rw [List.length_map, List.length_take, List.length_take]; omega), s1.mut hD, ?_⟩⟩
      rw [← take_snoc hz, List.map_append]
      exact upd_same
    · rintro H' ⟨s1, h1⟩
      rw [List.length_map, List.take_length] at h1
      refine ⟨(by show 3 ≤ sizeLine; decide), fun p hp => ?_⟩
      have nD : H D = none := by
        rw [upd_ne hqD.symm] at hD
        exact hD
      have s2 : Same H H' := fun b o e => s1 b o (by rw [upd_ne (ne_of_none e hq)]; exact e)
      refine k p (D, ns.take 58) _ (s2.new hp) (s2.free hp) ⟨⟨0, 0, upd_same, by decide, by decide, by decide⟩, SqL.of (by rw [upd_ne (ne_of_none h1 hp)]; exact h1), ne_of_none h1 hp, by rw [List.length_take]; omega⟩
end
end K
namespace K
open PySem L2 Rg
open Evl (pss_cut)
/-- the first that stands twice, behind those seen -/
def ft : List Int → List Int → Option Int
  | _, [] => none
  | seen, x :: xs => if x ∈ seen then some x else ft (seen ++ [x]) xs
def oV : Option Int → V
  | none => .non
  | some x => .int x
def seenK (l : List Int) : List (Key × V) := l.map fun k => (Sum.inl k, V.bl true)
theorem seen_val (l : List Int) (n : Int) : valV (seenK l) (Sum.inl n : Key) = if n ∈ l then some (.bl true) else none := by
  induction l with
  | nil => rfl
  | cons x l ih =>
    by_cases e : x = n
    · rw [if_pos (by rw [e]; exact List.mem_cons_self ..)]
      exact valV_pos (p := ((Sum.inl x : Key), V.bl true)) (by rw [e])
    · have h1 : valV (seenK (x :: l)) (Sum.inl n : Key) = valV (seenK l) (Sum.inl n) := valV_neg (p := ((Sum.inl x : Key), V.bl true)) (fun z => e (Sum.inl.inj z))
      rw [h1, ih]
      by_cases f : n ∈ l
      · rw [if_pos f, if_pos (List.mem_cons_of_mem _ f)]
      · rw [if_neg f, if_neg fun z => (List.mem_cons.mp z).elim (fun q => e q.symm) f]
theorem seen_len (l : List Int) : (seenK l).length = l.length := List.length_map ..
theorem seen_put {l : List Int} {n : Int} (h : n ∉ l) : putK (seenK l) (Sum.inl n : Key) (.bl true) = seenK (l ++ [n]) := by
  rw [putK_new _ (by rw [seen_val, if_neg h])]
  simp [seenK]
theorem ft_step {ns : List Int} {i : Nat} {z : Int} (h : ns[i]? = some z) : ft (ns.take i) (ns.drop i) = if z ∈ ns.take i then some z else ft (ns.take (i + 1)) (ns.drop (i + 1)) := by
  obtain ⟨hi, rfl⟩ := List.getElem?_eq_some_iff.mp h
  rw [List.drop_eq_getElem_cons hi, ← take_snoc h]
  rfl
section
variable {P : Program} {w : World} {K : PySem.W.Frag} {mg : Str → Option Value} {base : Heap}
/-! ### fixed, of an int -/
def spFixed : Sp := fun vs H Q _ => ∃ i : Int, vs = [.int i] ∧ ∀ H', Same H H' → Q (.int i) H'
theorem scFixed : FnScope ["value"] ["value"] (defScope sFixed) := ⟨rfl, rfl, rfl, by decide +kernel, rfl, by decide +kernel, by decide +kernel⟩
theorem ok_fixed {f : Addr} {fd : FuncData} (F : Fun K "fixed" "fixed" sFixed f fd) (T : Bi mg) : FnOk P w K mg base CX0 1 f fd ["value"] spFixed := by
  refine F.ok scFixed (fun vs H Q E h => ?_) (fun cdv A outer s H vs Q E hr h => ?_)
  · obtain ⟨v, rfl, _⟩ := h
    rfl
  · refine ⟨_, pss_cons (ps_if (pt_val (pe_callB call_isiT (by rfl) T.isinstance (by decide +kernel) (pa_cons (pv 0) (pa_cons (pe_tup (pa_cons (pe_bltn (v := .ty "list") (u := .type "list") (by rfl) T.list (by decide +kernel) rfl) (pa_cons (pe_bltn (v := .ty "tuple") (u := .type "tuple") (by rfl) T.tuple (by decide +kernel) rfl) pa_nil))) pa_nil)))) (pss_one ps_never) pss_nil)
      (pss_one (ps_ret (pv 0))), ?_⟩
    obtain ⟨i, rfl, q⟩ := h
    refine ⟨_, rfl, (by show 2 ≤ sizeLine; decide), fun p hp => ?_⟩
    have s1 : Same H (upd H p (.tup [.ty "list", .ty "tuple"])) := (Same.refl H).new hp
    refine ⟨.int i, p, [.ty "list", .ty "tuple"], .type "int", _, false, rfl, upd_same, .cons (.ty _) (.cons (.ty _) .nil), .base (.int i), kitAny_cons (kit_ty (kit_list "int" (by decide))) (fun e => kitAny_cons (b := false) (r := false) (kit_ty (kit_tuple "int" (by decide))) (fun _ => kitAny_nil) fun e' => nomatch e') (fun e => nomatch e), _, rfl, iteF ?_⟩
    exact ⟨_, rfl, q _ s1⟩
/-! ### twice_at, first_twice, of ints: a list | a tuple -/
def tatQ (ns : List Int) (H : Hp) (Q : VK) : Prop := ∀ H', Same H H' → (ft [] ns = none → Q .non H') ∧ ∀ (i : Nat) (z : Int), ns[i]? = some z → ft [] ns = some z → Q (.int (i : Nat)) H'
def spTaL (K : PySem.W.Frag) : Sp := fun vs H Q _ => ∃ (a : Addr) (ns : List Int), vs = [.ref a] ∧ SqL K H a (ns.map V.int) ∧ ns.length ≤ 1000 ∧ tatQ ns H Q
def spTaT (K : PySem.W.Frag) : Sp := fun vs H Q _ => ∃ (a : Addr) (ns : List Int), vs = [.ref a] ∧ SqT K H a (ns.map V.int) ∧ ns.length ≤ 1000 ∧ tatQ ns H Q
abbrev nTa : List Str := ["values", "seen", "at", "value", "key"]
theorem scTa : FnScope nTa ["values"] (defScope sTwiceAt) := ⟨rfl, rfl, rfl, by decide +kernel, rfl, by decide +kernel, by decide +kernel⟩
theorem ok_taL {f fX : Addr} {fd fdX : FuncData} (F : Fun K "twice_at" "twice_at" sTwiceAt f fd) (T : Bi mg) (G : DefAt P w K mg base CX0 1 "fixed" ["value"] spFixed fX fdX) : FnOk P w K mg base CX0 2 f fd ["values"] (spTaL K) := by
  refine F.ok scTa (fun vs H Q E h => ?_) (fun cdv A outer s H vs Q E hr h => ?_)
  · obtain ⟨a, ns, rfl, _⟩ := h
    rfl
  · have hu := hu_of hr
    have nd := scTa.nd
    refine ⟨_, pss_cons (ps_set (i := 1) nd rfl (Or.inl rfl) pe_dnewK)
      (pss_cons (ps_for PassesOwn.never rfl (pi_enum (by rfl) T.enumerate (pa_cons (pv 0) pa_nil)) (pg_tup rfl (pgs_cons (pg_name (i := 2) nd rfl (Or.inl rfl)) (pgs_cons (pg_name (i := 3) nd rfl (Or.inl rfl)) pgs_nil)))
        (pss_cons (ps_set (i := 4) nd rfl (Or.inl rfl) (pe_call G.ok hr rfl G.g G.kp G.b .nil pass0 (pa_cons (pv 3) pa_nil)))
        (pss_cons (ps_if (pt_cmp (pc_din hu (pv 4) (pv 1))) (pss_one (ps_ret (pv 2))) pss_nil)
        (pss_one (ps_dput hu (pv 1) (pv 4) pe_bl rfl)))))
      (pss_one (ps_ret pe_non))), ?_⟩
    obtain ⟨a, ns, rfl, hs, hl, q⟩ := h
    intro d hd
    refine ⟨_, rfl, a, _, rfl, ((Same.refl H).new hd).seq hs, ?_⟩
    refine for_it walk_enum (fun i σ H' => ∃ (z1 v k : Option V), σ = [some (.ref a), some (.ref d), z1, v, k] ∧ Same H H' ∧ H' d = some (.dK (seenK (ns.take i))) ∧ ft [] ns = ft (ns.take i) (ns.drop i))
      ⟨none, none, none, rfl, (Same.refl H).new hd, upd_same, rfl⟩ (fun i σ H' _ ⟨_, _, _, _, s, _⟩ => s.seq hs) ?_ ?_
    · rintro i x σ H1 H2 hi ⟨z1, v, k, rfl, s1, h1, e1⟩ ⟨U, x1, x2, rfl, hU, rfl, ex1, ex2⟩
      obtain rfl := (Option.some.inj ex1).symm
      obtain ⟨z, hz, rfl⟩ := int_at ex2
      rw [List.length_map] at hi
      rw [ft_step hz] at e1
      have s2 : Same H1 (upd H1 U (.tup [.int (i : Nat), .int z])) := (Same.refl H1).new hU
      refine ⟨U, _, rfl, .inl (.inl upd_same), rfl, _, _, rfl, _, _, rfl, rfl, ?_⟩
      refine ⟨_, rfl, z, rfl, fun H3 s3 => ?_⟩
      have h3 := s3 _ _ (s2 _ _ h1)
      have s13 := s1.trans (s2.trans s3)
      refine ⟨_, rfl, _, rfl, d, _, rfl, DGet.k (k := Sum.inl z) h3, _, rfl, ?_⟩
      rw [seen_val]
      by_cases c : z ∈ ns.take i
      · rw [if_pos c] at e1 ⊢
        refine iteT ?_
        exact ⟨_, rfl, (q H3 s13).2 i z hz e1⟩
      · rw [if_neg c] at e1 ⊢
        refine iteF ?_
        refine ⟨_, rfl, _, rfl, d, _, rfl, DPut.k (k := Sum.inl z) h3 (by rw [seen_len, List.length_take]; exact sm (by omega)), ?_⟩
        rw [seen_put c, take_snoc hz]
        exact ⟨_, _, _, rfl, s13.mut hd, upd_same, e1⟩
    · rintro σ H' ⟨z1, v, k, rfl, s1, h1, e1⟩
      rw [List.length_map, List.drop_length] at e1
      exact (q H' s1).1 e1
theorem ok_taT {f fX : Addr} {fd fdX : FuncData} (F : Fun K "twice_at" "twice_at" sTwiceAt f fd) (T : Bi mg) (G : DefAt P w K mg base CX0 1 "fixed" ["value"] spFixed fX fdX) : FnOk P w K mg base CX0 2 f fd ["values"] (spTaT K) := by
  refine F.ok scTa (fun vs H Q E h => ?_) (fun cdv A outer s H vs Q E hr h => ?_)
  · obtain ⟨a, ns, rfl, _⟩ := h
    rfl
  · have hu := hu_of hr
    have nd := scTa.nd
    refine ⟨_, pss_cons (ps_set (i := 1) nd rfl (Or.inl rfl) pe_dnewK)
      (pss_cons (ps_for PassesOwn.never rfl (pi_enumT (by rfl) T.enumerate (pa_cons (pv 0) pa_nil)) (pg_tup rfl (pgs_cons (pg_name (i := 2) nd rfl (Or.inl rfl)) (pgs_cons (pg_name (i := 3) nd rfl (Or.inl rfl)) pgs_nil)))
        (pss_cons (ps_set (i := 4) nd rfl (Or.inl rfl) (pe_call G.ok hr rfl G.g G.kp G.b .nil pass0 (pa_cons (pv 3) pa_nil)))
        (pss_cons (ps_if (pt_cmp (pc_din hu (pv 4) (pv 1))) (pss_one (ps_ret (pv 2))) pss_nil)
        (pss_one (ps_dput hu (pv 1) (pv 4) pe_bl rfl)))))
      (pss_one (ps_ret pe_non))), ?_⟩
    obtain ⟨a, ns, rfl, hs, hl, q⟩ := h
    intro d hd
    refine ⟨_, rfl, a, _, rfl, ((Same.refl H).new hd).tup hs, ?_⟩
    refine for_it walk_enumT (fun i σ H' => ∃ (z1 v k : Option V), σ = [some (.ref a), some (.ref d), z1, v, k] ∧ Same H H' ∧ H' d = some (.dK (seenK (ns.take i))) ∧ ft [] ns = ft (ns.take i) (ns.drop i))
      ⟨none, none, none, rfl, (Same.refl H).new hd, upd_same, rfl⟩ (fun i σ H' _ ⟨_, _, _, _, s, _⟩ => s.tup hs) ?_ ?_
    · rintro i x σ H1 H2 hi ⟨z1, v, k, rfl, s1, h1, e1⟩ ⟨U, x1, x2, rfl, hU, rfl, ex1, ex2⟩
      obtain rfl := (Option.some.inj ex1).symm
      obtain ⟨z, hz, rfl⟩ := int_at ex2
      rw [List.length_map] at hi
      rw [ft_step hz] at e1
      have s2 : Same H1 (upd H1 U (.tup [.int (i : Nat), .int z])) := (Same.refl H1).new hU
      refine ⟨U, _, rfl, .inl (.inl upd_same), rfl, _, _, rfl, _, _, rfl, rfl, ?_⟩
      refine ⟨_, rfl, z, rfl, fun H3 s3 => ?_⟩
      have h3 := s3 _ _ (s2 _ _ h1)
      have s13 := s1.trans (s2.trans s3)
      refine ⟨_, rfl, _, rfl, d, _, rfl, DGet.k (k := Sum.inl z) h3, _, rfl, ?_⟩
      rw [seen_val]
      by_cases c : z ∈ ns.take i
      · rw [if_pos c] at e1 ⊢
        refine iteT ?_
        exact ⟨_, rfl, (q H3 s13).2 i z hz e1⟩
      · rw [if_neg c] at e1 ⊢
        refine iteF ?_
        refine ⟨_, rfl, _, rfl, d, _, rfl, DPut.k (k := Sum.inl z) h3 (by rw [seen_len, List.length_take]; exact sm (by omega)), ?_⟩
        rw [seen_put c, take_snoc hz]
        exact ⟨_, _, _, rfl, s13.mut hd, upd_same, e1⟩
    · rintro σ H' ⟨z1, v, k, rfl, s1, h1, e1⟩
      rw [List.length_map, List.drop_length] at e1
      exact (q H' s1).1 e1
def spTwL (K : PySem.W.Frag) : Sp := fun vs H Q _ => ∃ (a : Addr) (ns : List Int), vs = [.ref a] ∧ SqL K H a (ns.map V.int) ∧ ns.length ≤ 1000 ∧ ∀ H', Same H H' → Q (oV (ft [] ns)) H'
def spTwT (K : PySem.W.Frag) : Sp := fun vs H Q _ => ∃ (a : Addr) (ns : List Int), vs = [.ref a] ∧ SqT K H a (ns.map V.int) ∧ ns.length ≤ 1000 ∧ ∀ H', Same H H' → Q (oV (ft [] ns)) H'
theorem ft_mem : ∀ (xs seen : List Int) (z : Int), ft seen xs = some z → z ∈ xs
  | [], seen, z, h => by cases h
  | x :: xs, seen, z, h => by
    unfold ft at h
    by_cases c : x ∈ seen
    · rw [if_pos c] at h
      rw [Option.some.inj h]
      exact List.mem_cons_self ..
    · rw [if_neg c] at h
      exact List.mem_cons_of_mem _ (ft_mem xs _ z h)
abbrev nTw : List Str := ["values", "at"]
theorem scTw : FnScope nTw ["values"] (defScope sFirstTwice) := ⟨rfl, rfl, rfl, by decide +kernel, rfl, by decide +kernel, by decide +kernel⟩
theorem ok_twL {f fX fA : Addr} {fd fdX fdA : FuncData} (F : Fun K "first_twice" "first_twice" sFirstTwice f fd) (G : DefAt P w K mg base CX0 1 "fixed" ["value"] spFixed fX fdX) (A' : DefAt P w K mg base CX0 2 "twice_at" ["values"] (spTaL K) fA fdA) : FnOk P w K mg base CX0 3 f fd ["values"] (spTwL K) := by
  refine F.ok scTw (fun vs H Q E h => ?_) (fun cdv A outer s H vs Q E hr h => ?_)
  · obtain ⟨a, ns, rfl, _⟩ := h
    rfl
  · have nd := scTw.nd
    refine ⟨_, pss_cons (ps_set (i := 1) nd rfl (Or.inl rfl) (pe_call A'.ok hr rfl A'.g A'.kp A'.b .nil pass0 (pa_cons (pv 0) pa_nil)))
      (pss_one (ps_ret (pe_ifExp (pt_cmpR op_isN (pv 1) pe_non (nomark _)) pe_non (pe_call G.ok (hr.mono (by decide)) rfl G.g G.kp G.b .nil pass0 (pa_cons (pe_ix (r := rIxL K) ix_list (pv 0) (pv 1) (fun _ _ => rfl)) pa_nil))))), ?_⟩
    obtain ⟨a, ns, rfl, hs, hl, q⟩ := h
    refine ⟨_, rfl, a, ns, rfl, hs, hl, fun H1 s1 => ⟨fun e => ?_, fun i z hz e => ?_⟩⟩
    · have qq := q H1 s1
      rw [e] at qq
      exact ⟨_, rfl, rfl, _, rfl, iteT qq⟩
    · refine ⟨_, rfl, rfl, _, rfl, iteF ?_⟩
      refine ⟨_, rfl, _, rfl, a, _, _, _, rfl, rfl, s1.seq hs, atI_nat (by rw [List.getElem?_map, hz]; rfl), z, rfl, fun H2 s2 => ?_⟩
      have qq := q H2 (s1.trans s2)
      rw [e] at qq
      exact qq
theorem ok_twT {f fX fA : Addr} {fd fdX fdA : FuncData} (F : Fun K "first_twice" "first_twice" sFirstTwice f fd) (G : DefAt P w K mg base CX0 1 "fixed" ["value"] spFixed fX fdX) (A' : DefAt P w K mg base CX0 2 "twice_at" ["values"] (spTaT K) fA fdA) : FnOk P w K mg base CX0 3 f fd ["values"] (spTwT K) := by
  refine F.ok scTw (fun vs H Q E h => ?_) (fun cdv A outer s H vs Q E hr h => ?_)
  · obtain ⟨a, ns, rfl, _⟩ := h
    rfl
  · have nd := scTw.nd
    refine ⟨_, pss_cons (ps_set (i := 1) nd rfl (Or.inl rfl) (pe_call A'.ok hr rfl A'.g A'.kp A'.b .nil pass0 (pa_cons (pv 0) pa_nil)))
      (pss_one (ps_ret (pe_ifExp (pt_cmpR op_isN (pv 1) pe_non (nomark _)) pe_non (pe_call G.ok (hr.mono (by decide)) rfl G.g G.kp G.b .nil pass0 (pa_cons (pe_ix (r := rIxT K) ix_tup (pv 0) (pv 1) (fun _ _ => rfl)) pa_nil))))), ?_⟩
    obtain ⟨a, ns, rfl, hs, hl, q⟩ := h
    refine ⟨_, rfl, a, ns, rfl, hs, hl, fun H1 s1 => ⟨fun e => ?_, fun i z hz e => ?_⟩⟩
    · have qq := q H1 s1
      rw [e] at qq
      exact ⟨_, rfl, rfl, _, rfl, iteT qq⟩
    · refine ⟨_, rfl, rfl, _, rfl, iteF ?_⟩
      refine ⟨_, rfl, _, rfl, a, _, _, _, rfl, rfl, s1.tup hs, atI_nat (by rw [List.getElem?_map, hz]; rfl), z, rfl, fun H2 s2 => ?_⟩
      have qq := q H2 (s1.trans s2)
      rw [e] at qq
      exact qq
end
end K
namespace K
open PySem L2 Rg
open Evl (pss_cut)
section
variable {P : Program} {w : World} {K : PySem.W.Frag} {mg : Str → Option Value} {base : Heap}
/-! ### errors with one field -/
def spIni (K : PySem.W.Frag) (f : Str) : Sp := fun vs H Q _ => ∃ (a C : Addr) (v : V), vs = [.ref a, v] ∧ OexC K C ∧ PySem.W.findIn K (.ref C) f = some none ∧ H a = some (exo a C none) ∧
  ∀ d, H d = none → d ≠ a → Q .non (upd (upd H d (exd d [(f, v)])) a (exo a C (some d)))
theorem scBadLot : FnScope ["self", "part"] ["self", "part"] (defScope sBadLotInit) := ⟨rfl, rfl, rfl, by decide +kernel, rfl, by decide +kernel, by decide +kernel⟩
theorem scMissing : FnScope ["self", "value"] ["self", "value"] (defScope sMissingInit) := ⟨rfl, rfl, rfl, by decide +kernel, rfl, by decide +kernel, by decide +kernel⟩
theorem scTwice : FnScope ["self", "value"] ["self", "value"] (defScope sTwiceInit) := ⟨rfl, rfl, rfl, by decide +kernel, rfl, by decide +kernel, by decide +kernel⟩
theorem ok_badLotI {f : Addr} {fd : FuncData} (F : Fun K "__init__" "BadLot.__init__" sBadLotInit f fd) : FnOk P w K mg base CX0 1 f fd ["self", "part"] (spIni K "part") := by
  refine F.ok scBadLot (fun vs H Q E h => ?_) (fun cdv A outer s H vs Q E hr h => ?_)
  · obtain ⟨a, C, v, rfl, _⟩ := h
    rfl
  · refine ⟨_, pss_one (ps_ost (pv 0) (pv 1)), ?_⟩
    obtain ⟨a, C, v, rfl, o, n, ha, k⟩ := h
    exact ⟨_, rfl, _, rfl, a, C, rfl, o, n, .inl ⟨ha, fun d h1 h2 => k d h1 h2⟩⟩
theorem ok_missingI {f : Addr} {fd : FuncData} (F : Fun K "__init__" "Missing.__init__" sMissingInit f fd) : FnOk P w K mg base CX0 1 f fd ["self", "value"] (spIni K "value") := by
  refine F.ok scMissing (fun vs H Q E h => ?_) (fun cdv A outer s H vs Q E hr h => ?_)
  · obtain ⟨a, C, v, rfl, _⟩ := h
    rfl
  · refine ⟨_, pss_one (ps_ost (pv 0) (pv 1)), ?_⟩
    obtain ⟨a, C, v, rfl, o, n, ha, k⟩ := h
    exact ⟨_, rfl, _, rfl, a, C, rfl, o, n, .inl ⟨ha, fun d h1 h2 => k d h1 h2⟩⟩
theorem ok_twiceI {f : Addr} {fd : FuncData} (F : Fun K "__init__" "Twice.__init__" sTwiceInit f fd) : FnOk P w K mg base CX0 1 f fd ["self", "value"] (spIni K "value") := by
  refine F.ok scTwice (fun vs H Q E h => ?_) (fun cdv A outer s H vs Q E hr h => ?_)
  · obtain ⟨a, C, v, rfl, _⟩ := h
    rfl
  · refine ⟨_, pss_one (ps_ost (pv 0) (pv 1)), ?_⟩
    obtain ⟨a, C, v, rfl, o, n, ha, k⟩ := h
    exact ⟨_, rfl, _, rfl, a, C, rfl, o, n, .inl ⟨ha, fun d h1 h2 => k d h1 h2⟩⟩
/-- the class x of errors with the field f, at C, its __init__ at fI -/
structure ErrAt (P : Program) (w : World) (K : PySem.W.Frag) (mg : Str → Option Value) (base : Heap) (x f : Str) (C fI : Addr) (fdI : FuncData) : Prop where
  oex : OexC K C
  ic : PySem.W.findIn K (.ref C) "__init__" = some (some (.ref fI))
  ti : PySem.W.typeIn K (.ref fI) = some (.type "function")
  nf : PySem.W.findIn K (.ref C) f = some none
  g : mg x = some (.ref C)
  b : Binds K fdI ["self", f] []
  ok : FnOk P w K mg base CX0 1 fI fdI ["self", f] (spIni K f)
/-- an error of the class at C with the field f holding v leaves; what was tracked stands -/
def Errs (E : XK) (C : Addr) (f : Str) (v : V) (H : Hp) : Prop := ∀ (d : Addr) (H' : Hp), Same H H' → H d = none → H' d = some (.xd [(f, v)]) → E (.ref C) (some d) H'
theorem Errs.later {E : XK} {C : Addr} {f : Str} {v : V} {H H1 : Hp} (h : Errs E C f v H) (s : Same H H1) : Errs E C f v H1 := fun d H' s' n e => h d H' (s.trans s') (s.free n) e
/-- the making of such an error, as a raise asks it -/
theorem err_made {E : XK} {C : Addr} {f : Str} {v : V} {H : Hp} (o : OexC K C) (n : PySem.W.findIn K (.ref C) f = some none) (h : Errs E C f v H) :
    ([v] : List V).length ≤ 1000 ∧ ∀ a, H a = none → spIni K f (.ref a :: ([v] ++ [])) (upd H a (exo a C none))
      (fun u H2 => u = .non ∧ ∃ (d : Addr) (fs : List (Str × V)), H2 a = some (exo a C (some d)) ∧ H2 d = some (exd d fs) ∧ H d = none ∧ E (.ref C) (some d) (upd (del H2 a) d (.xd fs))) (fun _ _ _ => False) := by
  refine ⟨(by show 1 ≤ 1000; decide), fun a ha => ⟨a, C, v, rfl, o, n, upd_same, fun d hd hda => ⟨rfl, d, [(f, v)], upd_same, by rw [upd_ne hda, upd_same], ?_, ?_⟩⟩⟩
  · rw [upd_ne hda] at hd
    exact hd
  · rw [upd_ne hda] at hd
    refine h d _ (fun b u e => ?_) hd upd_same
    have hba : b ≠ a := ne_of_none e ha
    have hbd : b ≠ d := ne_of_none e hd
    rw [upd_ne hbd, del_ne hba, upd_ne hba, upd_ne hbd, upd_ne hba]
    exact e
/-! ### want_bar -/
def spWantBar (C : Addr) : Sp := fun vs H Q E => ∃ (v many : Int), vs = [.int v, .int many] ∧ ((0 ≤ v ∧ v < many ∧ ∀ H', Same H H' → Q .non H') ∨ (¬ (0 ≤ v ∧ v < many) ∧ Errs E C "value" (.int v) H))
theorem scWantBar : FnScope ["value", "many"] ["value", "many"] (defScope sWantBar) := ⟨rfl, rfl, rfl, by decide +kernel, rfl, by decide +kernel, by decide +kernel⟩
theorem ok_wantBar {f fW C fI : Addr} {fd fdW fdI : FuncData} (F : Fun K "want_bar" "want_bar" sWantBar f fd) (W : DefAt P w K mg base CX0 2 "is_within" ["value", "least", "most"] spWithin fW fdW) (B : ErrAt P w K mg base "NoBar" "value" C fI fdI) :
    FnOk P w K mg base (L2.CX P w) 3 f fd ["value", "many"] (spWantBar C) := by
  refine F.okX scWantBar (fun vs H Q E h => ?_) (fun cdv A outer s H vs Q E hr h => ?_)
  · obtain ⟨v, many, rfl, _⟩ := h
    rfl
  · refine ⟨_, pss_one (ps_if (pt_not (pt_val (pe_call W.ok hr rfl W.g W.kp W.b .nil pass0 (pa_cons (pv 0) (pa_cons pe_int (pa_cons (pe_op op_sub (pv 1) pe_int) pa_nil))))))
      (pss_one (ps_raise rfl (takes_of rfl rfl rfl rfl) (pmk_oex B.oex B.ic B.ti B.ok hr B.b .nil pass0 rfl B.g (pa_cons (pv 0) pa_nil)))) pss_nil), ?_⟩
    obtain ⟨v, many, rfl, h⟩ := h
    refine ⟨_, rfl, _, rfl, _, _, rfl, rfl, v, 0, many - 1, rfl, _, rfl, ?_⟩
    rcases h with ⟨h0, h1, q⟩ | ⟨hn, q⟩
    · refine iteBF ?_ (q H (Same.refl H))
      simp only [decide_eq_true h0, decide_eq_true (show v ≤ many - 1 by omega)]
      rfl
    · refine iteBT ?_ ?_
      · have e : (decide (0 ≤ v) && decide (v ≤ many - 1)) = false := by
          cases c : (decide (0 ≤ v) && decide (v ≤ many - 1)) with
          | false => rfl
          | true =>
            simp only [Bool.and_eq_true, decide_eq_true_eq] at c
            exact absurd ⟨c.1, by omega⟩ hn
        show (!(decide (0 ≤ v) && decide (v ≤ many - 1))) = true
        rw [e]
        rfl
      · exact ⟨_, rfl, err_made B.oex B.nf q⟩
end
end K
namespace K
open PySem L2 Rg
open Evl (pss_cut)
/-- what becomes of a lot that is passed -/
inductive Lr where
  | bad | bar (b : Int) | twice (b : Int) | ok (ns : List Int)
def isBar (many b : Int) : Bool := decide (0 ≤ b) && decide (b < many)
def res (many : Int) (ns : List Int) : Lr := match ns.find? (fun b => !isBar many b) with
  | some b => .bar b
  | none => match ft [] ns with
    | some b => .twice b
    | none => .ok ns
theorem isBar_iff {many b : Int} : isBar many b = true ↔ 0 ≤ b ∧ b < many := by
  unfold isBar
  rw [Bool.and_eq_true, decide_eq_true_eq, decide_eq_true_eq]
theorem res_bar {many b : Int} {ns : List Int} {i : Nat} (h : ∀ x ∈ ns.take i, isBar many x = true) (hb : ns[i]? = some b) (nb : ¬ isBar many b = true) : res many ns = .bar b := by
  have e : ns.find? (fun b => !isBar many b) = some b := by
    obtain ⟨hi, rfl⟩ := List.getElem?_eq_some_iff.mp hb
    have e1 : ns = ns.take i ++ ns[i] :: ns.drop (i + 1) := by rw [List.getElem_cons_drop, List.take_append_drop]
    have e2 : (ns.take i).find? (fun b => !isBar many b) = none := List.find?_eq_none.mpr fun x hx => by rw [h x hx]; decide
    have e3 : ns.find? (fun b => !isBar many b) = (ns.take i ++ ns[i] :: ns.drop (i + 1)).find? (fun b => !isBar many b) := congrArg _ e1
    rw [e3, List.find?_append, e2, List.find?_cons]
    have e4 : isBar many ns[i] = false := by
      cases q : isBar many ns[i] with
      | false => rfl
      | true => exact absurd q nb
    rw [e4]
    rfl
  unfold res
  rw [e]
theorem res_all {many : Int} {ns : List Int} (h : ∀ x ∈ ns, isBar many x = true) : res many ns = match ft [] ns with | some b => .twice b | none => .ok ns := by
  have e : ns.find? (fun b => !isBar many b) = none := List.find?_eq_none.mpr fun x hx => by rw [h x hx]; decide
  unfold res
  rw [e]
section
variable {P : Program} {w : World} {K : PySem.W.Frag} {mg : Str → Option Value} {base : Heap}
/-- where the three errors stand -/
structure Cs where
  l : Addr
  n : Addr
  t : Addr
def LotFin (E : XK) (c : Cs) (part : Str) (H : Hp) (r : Lr) (k : List Int → Prop) : Prop := match r with
  | .bad => Errs E c.l "part" (.str part) H
  | .bar b => Errs E c.n "value" (.int b) H
  | .twice b => Errs E c.t "value" (.int b) H
  | .ok ns => k ns
def spWLO (K : PySem.W.Frag) (c : Cs) : Sp := fun vs H Q E => ∃ (v : V) (k : String) (many : Int) (part : Str), vs = [v, .int many, .str part] ∧ Knd K H v k ∧ k ≠ "list" ∧ k ≠ "tuple" ∧ Errs E c.l "part" (.str part) H
def spWLL (K : PySem.W.Frag) (c : Cs) : Sp := fun vs H Q E => ∃ (a : Addr) (xs : List V) (kf : V → String) (many : Int) (part : Str), vs = [.ref a, .int many, .str part] ∧ Knd K H (.ref a) "list" ∧ SqL K H a xs ∧ xs.length ≤ 1000 ∧ (∀ x ∈ xs, Knd K H x (kf x)) ∧
  (((xs.all fun x => decide (kf x = "int")) = false ∧ Errs E c.l "part" (.str part) H) ∨
   ∃ ns, xs = ns.map V.int ∧ (xs.all fun x => decide (kf x = "int")) = true ∧ LotFin E c part H (res many ns) fun ns => ∀ (p : Addr) (ms : List Int) (H' : Hp), ms.Perm ns → Same H H' → H' p = some (.tup (ms.map V.int)) → Q (.ref p) H')
def spWLT (K : PySem.W.Frag) (c : Cs) : Sp := fun vs H Q E => ∃ (a : Addr) (ns : List Int) (many : Int) (part : Str), vs = [.ref a, .int many, .str part] ∧ Knd K H (.ref a) "tuple" ∧ SqT K H a (ns.map V.int) ∧ ns.length ≤ 1000 ∧
  LotFin E c part H (res many ns) fun ns => ∀ (p : Addr) (ms : List Int) (H' : Hp), ms.Perm ns → Same H H' → H' p = some (.tup (ms.map V.int)) → Q (.ref p) H'
abbrev nWL : List Str := ["value", "many", "part", "bar", "twice"]
theorem scWL : FnScope nWL ["value", "many", "part"] (defScope sWantLot) := ⟨rfl, rfl, rfl, by decide +kernel, rfl, by decide +kernel, by decide +kernel⟩
theorem ok_wlO {f fN fB fT : Addr} {c : Cs} {fL fTI : Addr} {fd fdN fdB fdT fdL fdTI : FuncData} (F : Fun K "want_lot" "want_lot" sWantLot f fd) (T : Bi mg) (N : DefAt P w K mg base CX0 2 "is_numbers" ["value"] (spNumsO K) fN fdN) (B : DefAt P w K mg base (L2.CX P w) 3 "want_bar" ["value", "many"] (spWantBar c.n) fB fdB)
    (Tw : DefAt P w K mg base CX0 3 "first_twice" ["values"] (spTwL K) fT fdT) (L : ErrAt P w K mg base "BadLot" "part" c.l fL fdL) (TI : ErrAt P w K mg base "Twice" "value" c.t fTI fdTI) : FnOk P w K mg base (L2.CX P w) 4 f fd ["value", "many", "part"] (spWLO K c) := by
  refine F.okX scWL (fun vs H Q E h => ?_) (fun cdv A outer s H vs Q E hr h => ?_)
  · obtain ⟨v, k, many, part, rfl, _⟩ := h
    rfl
  · have nd := scWL.nd
    have hr2 : Room 2 (A.deeper (PyProof.Rows.envOfC "want_lot" (defScope sWantLot) s.heap.objs.size f cdv)) := hr.mono (by decide)
    refine ⟨_, pss_cons (ps_if (pt_not (pt_val (pe_call N.ok hr2 rfl N.g N.kp N.b .nil pass0 (pa_cons (pv 0) pa_nil)))) (pss_one (ps_raise rfl (takes_of rfl rfl rfl rfl) (pmk_oex L.oex L.ic L.ti L.ok hr2 L.b .nil pass0 rfl L.g (pa_cons (pv 2) pa_nil)))) pss_nil) pss_never, ?_⟩
    obtain ⟨v, k, many, part, rfl, hk, k1, k2, q⟩ := h
    exact ⟨_, rfl, v, k, rfl, hk, k1, k2, fun H' s1 => ⟨_, rfl, iteT ⟨_, rfl, err_made L.oex L.nf (q.later s1)⟩⟩⟩
theorem ok_wlL {f fN fB fT : Addr} {c : Cs} {fL fTI : Addr} {fd fdN fdB fdT fdL fdTI : FuncData} (F : Fun K "want_lot" "want_lot" sWantLot f fd) (T : Bi mg) (N : DefAt P w K mg base CX0 2 "is_numbers" ["value"] (spNumsL K) fN fdN) (B : DefAt P w K mg base (L2.CX P w) 3 "want_bar" ["value", "many"] (spWantBar c.n) fB fdB)
    (Tw : DefAt P w K mg base CX0 3 "first_twice" ["values"] (spTwL K) fT fdT) (L : ErrAt P w K mg base "BadLot" "part" c.l fL fdL) (TI : ErrAt P w K mg base "Twice" "value" c.t fTI fdTI) : FnOk P w K mg base (L2.CX P w) 4 f fd ["value", "many", "part"] (spWLL K c) := by
  refine F.okX scWL (fun vs H Q E h => ?_) (fun cdv A outer s H vs Q E hr h => ?_)
  · obtain ⟨a, xs, kf, many, part, rfl, _⟩ := h
    rfl
  · have nd := scWL.nd
    have hr2 : Room 2 (A.deeper (PyProof.Rows.envOfC "want_lot" (defScope sWantLot) s.heap.objs.size f cdv)) := hr.mono (by decide)
    refine ⟨_, pss_cons (ps_if (pt_not (pt_val (pe_call N.ok hr2 rfl N.g N.kp N.b .nil pass0 (pa_cons (pv 0) pa_nil)))) (pss_one (ps_raise rfl (takes_of rfl rfl rfl rfl) (pmk_oex L.oex L.ic L.ti L.ok hr2 L.b .nil pass0 rfl L.g (pa_cons (pv 2) pa_nil)))) pss_nil)
      (pss_cons (ps_for (passes_of rfl) rfl (pi_list (pv 0)) (pg_name (i := 3) nd rfl (Or.inl rfl)) (pss_one (ps_expr (pe_call B.ok hr rfl B.g B.kp B.b .nil (passes_call (takes_of rfl rfl rfl rfl) (fun _ _ _ _ h => h)) (pa_cons (pv 3) (pa_cons (pv 1) pa_nil))))))
      (pss_cons (ps_set (i := 4) nd rfl (Or.inl rfl) (pe_call Tw.ok hr rfl Tw.g Tw.kp Tw.b .nil pass0 (pa_cons (pv 0) pa_nil)))
      (pss_cons (ps_if (pt_cmpR op_notN (pv 4) pe_non (nomark _)) (pss_one (ps_raise rfl (takes_of rfl rfl rfl rfl) (pmk_oex TI.oex TI.ic TI.ti TI.ok hr2 TI.b .nil pass0 rfl TI.g (pa_cons (pv 4) pa_nil)))) pss_nil)
      (pss_one (ps_ret (pe_callTy call_tuple_of (by rfl) T.tuple (by decide +kernel) (pa_cons (pe_callB cr_sortedI (by rfl) T.sorted (by decide +kernel) (pa_cons (pv 0) pa_nil)) pa_nil))))))), ?_⟩
    obtain ⟨a, xs, kf, many, part, rfl, hk, hs, hl, hx, q⟩ := h
    refine ⟨_, rfl, a, xs, kf, rfl, hk, hs, hl, hx, fun H1 s1 => ⟨_, rfl, ?_⟩⟩
    rcases q with ⟨e, q⟩ | ⟨ns, rfl, e, q⟩
    · rw [e]
      exact iteT ⟨_, rfl, err_made L.oex L.nf (q.later s1)⟩
    · rw [e]
      refine iteF ?_
      refine ⟨_, rfl, a, rfl, ⟨_, s1.seq hs⟩, for_list (K := K) (a := a) (xs := ns.map V.int) (fun i σ H' => ∃ (b : Option V), σ = [some (.ref a), some (.int many), some (.str part), b, none] ∧ Same H H' ∧ ∀ x ∈ ns.take i, isBar many x = true)
        ⟨none, rfl, s1, fun x hx => nomatch hx⟩ (fun i σ H' _ ⟨_, _, s, _⟩ => s.seq hs) ?_ ?_⟩
      · rintro i x σ H' hi ⟨b, rfl, s2, al⟩
        obtain ⟨z, hz, rfl⟩ := int_at hi
        refine ⟨_, rfl, _, rfl, z, many, rfl, ?_⟩
        by_cases c : isBar many z = true
        · obtain ⟨c1, c2⟩ := isBar_iff.mp c
          refine .inl ⟨c1, c2, fun H3 s3 => ⟨_, rfl, s2.trans s3, fun y hy => ?_⟩⟩
          rw [← take_snoc hz] at hy
          rcases List.mem_append.mp hy with m | m
          · exact al y m
          · rw [List.mem_singleton.mp m]
            exact c
        · refine .inr ⟨fun z => c (isBar_iff.mpr z), ?_⟩
          rw [res_bar al hz c] at q
          exact Errs.later q s2
      · rintro σ H' ⟨b, rfl, s2, al⟩
        rw [List.length_map, List.take_length] at al
        rw [res_all al] at q
        rw [List.length_map] at hl
        refine ⟨_, rfl, a, ns, rfl, s2.seq hs, hl, fun H3 s3 => ?_⟩
        have s23 := s2.trans s3
        cases e2 : ft [] ns with
        | some z =>
          rw [e2] at q
          exact ⟨_, rfl, rfl, _, rfl, iteT ⟨_, rfl, err_made TI.oex TI.nf (Errs.later q s23)⟩⟩
        | none =>
          rw [e2] at q
          refine ⟨_, rfl, rfl, _, rfl, iteF ?_⟩
          refine ⟨_, rfl, a, ns, rfl, s23.seq hs, fun ms p pm _ hp => ⟨p, _, rfl, .inl ⟨SqL.of upd_same, fun t ht => ?_⟩⟩⟩
          exact q t ms _ pm ((s23.new hp).new ht) upd_same
theorem ok_wlT {f fN fB fT : Addr} {c : Cs} {fL fTI : Addr} {fd fdN fdB fdT fdL fdTI : FuncData} (F : Fun K "want_lot" "want_lot" sWantLot f fd) (T : Bi mg) (N : DefAt P w K mg base CX0 2 "is_numbers" ["value"] (spNumsT K) fN fdN) (B : DefAt P w K mg base (L2.CX P w) 3 "want_bar" ["value", "many"] (spWantBar c.n) fB fdB)
    (Tw : DefAt P w K mg base CX0 3 "first_twice" ["values"] (spTwT K) fT fdT) (L : ErrAt P w K mg base "BadLot" "part" c.l fL fdL) (TI : ErrAt P w K mg base "Twice" "value" c.t fTI fdTI) : FnOk P w K mg base (L2.CX P w) 4 f fd ["value", "many", "part"] (spWLT K c) := by
  refine F.okX scWL (fun vs H Q E h => ?_) (fun cdv A outer s H vs Q E hr h => ?_)
  · obtain ⟨a, ns, many, part, rfl, _⟩ := h
    rfl
  · have nd := scWL.nd
    have hr2 : Room 2 (A.deeper (PyProof.Rows.envOfC "want_lot" (defScope sWantLot) s.heap.objs.size f cdv)) := hr.mono (by decide)
    refine ⟨_, pss_cons (ps_if (pt_not (pt_val (pe_call N.ok hr2 rfl N.g N.kp N.b .nil pass0 (pa_cons (pv 0) pa_nil)))) (pss_one (ps_raise rfl (takes_of rfl rfl rfl rfl) (pmk_oex L.oex L.ic L.ti L.ok hr2 L.b .nil pass0 rfl L.g (pa_cons (pv 2) pa_nil)))) pss_nil)
      (pss_cons (ps_for (passes_of rfl) rfl (pi_tup (pv 0)) (pg_name (i := 3) nd rfl (Or.inl rfl)) (pss_one (ps_expr (pe_call B.ok hr rfl B.g B.kp B.b .nil (passes_call (takes_of rfl rfl rfl rfl) (fun _ _ _ _ h => h)) (pa_cons (pv 3) (pa_cons (pv 1) pa_nil))))))
      (pss_cons (ps_set (i := 4) nd rfl (Or.inl rfl) (pe_call Tw.ok hr rfl Tw.g Tw.kp Tw.b .nil pass0 (pa_cons (pv 0) pa_nil)))
      (pss_cons (ps_if (pt_cmpR op_notN (pv 4) pe_non (nomark _)) (pss_one (ps_raise rfl (takes_of rfl rfl rfl rfl) (pmk_oex TI.oex TI.ic TI.ti TI.ok hr2 TI.b .nil pass0 rfl TI.g (pa_cons (pv 4) pa_nil)))) pss_nil)
      (pss_one (ps_ret (pe_callTy call_tuple_of (by rfl) T.tuple (by decide +kernel) (pa_cons (pe_callB cr_sortedT (by rfl) T.sorted (by decide +kernel) (pa_cons (pv 0) pa_nil)) pa_nil))))))), ?_⟩
    obtain ⟨a, ns, many, part, rfl, hk, hs, hl, q⟩ := h
    refine ⟨_, rfl, a, _, (fun _ => "int"), rfl, hk, hs, (by rw [List.length_map]; exact hl), (fun x hx => ?_), fun H1 s1 => ⟨_, rfl, ?_⟩⟩
    · obtain ⟨z, _, rfl⟩ := List.mem_map.mp hx
      exact Knd.int
    · have e : ((ns.map V.int).all fun x => decide (("int" : String) = "int")) = true := List.all_eq_true.mpr fun _ _ => rfl
      rw [e]
      refine iteF ?_
      refine ⟨_, rfl, a, rfl, ⟨_, s1.tup hs⟩, for_tup (K := K) (a := a) (xs := ns.map V.int) (fun i σ H' => ∃ (b : Option V), σ = [some (.ref a), some (.int many), some (.str part), b, none] ∧ Same H H' ∧ ∀ x ∈ ns.take i, isBar many x = true)
        ⟨none, rfl, s1, fun x hx => nomatch hx⟩ (fun i σ H' _ ⟨_, _, s, _⟩ => s.tup hs) ?_ ?_⟩
      · rintro i x σ H' hi ⟨b, rfl, s2, al⟩
        obtain ⟨z, hz, rfl⟩ := int_at hi
        refine ⟨_, rfl, _, rfl, z, many, rfl, ?_⟩
        by_cases c : isBar many z = true
        · obtain ⟨c1, c2⟩ := isBar_iff.mp c
          refine .inl ⟨c1, c2, fun H3 s3 => ⟨_, rfl, s2.trans s3, fun y hy => ?_⟩⟩
          rw [← take_snoc hz] at hy
          rcases List.mem_append.mp hy with m | m
          · exact al y m
          · rw [List.mem_singleton.mp m]
            exact c
        · refine .inr ⟨fun z => c (isBar_iff.mpr z), ?_⟩
          rw [res_bar al hz c] at q
          exact Errs.later q s2
      · rintro σ H' ⟨b, rfl, s2, al⟩
        rw [List.length_map, List.take_length] at al
        rw [res_all al] at q
        refine ⟨_, rfl, a, ns, rfl, s2.tup hs, hl, fun H3 s3 => ?_⟩
        have s23 := s2.trans s3
        cases e2 : ft [] ns with
        | some z =>
          rw [e2] at q
          exact ⟨_, rfl, rfl, _, rfl, iteT ⟨_, rfl, err_made TI.oex TI.nf (Errs.later q s23)⟩⟩
        | none =>
          rw [e2] at q
          refine ⟨_, rfl, rfl, _, rfl, iteF ?_⟩
          refine ⟨_, rfl, a, ns, rfl, s23.tup hs, fun ms p pm _ hp => ⟨p, _, rfl, .inl ⟨SqL.of upd_same, fun t ht => ?_⟩⟩⟩
          exact q t ms _ pm ((s23.new hp).new ht) upd_same
end
end K
namespace K
open PySem L2 Rg
open Evl (pss_cut)
section
variable {P : Program} {w : World} {K : PySem.W.Frag} {mg : Str → Option Value} {base : Heap}
/-! ### one of some things -/
def spPick (K : PySem.W.Frag) : Sp := fun vs H Q _ => ∃ (p l : Addr) (e : Addr × List Int) (xs : List V) (n : Nat), vs = [.ref p, .ref l] ∧ SqL K H l xs ∧ l ≠ p ∧ 1 ≤ xs.length ∧ xs.length ≤ 1000 ∧ n < 1000000 ∧ PenAt K H p e n ∧
  ∀ (i : Nat) (v : V) (H' : Hp), xs[i]? = some v → But p H H' → PenAt K H' p e (n + 1) → Q v H'
abbrev nPick : List Str := ["_law_bench_here", "_law_some"]
theorem scPick : FnScope nPick ["_law_bench_here", "_law_some"] (defScope sLwPick) := ⟨rfl, rfl, rfl, by decide +kernel, rfl, by decide +kernel, by decide +kernel⟩
/-- the draw as a def called by its name -/
structure DrawAt (P : Program) (w : World) (K : PySem.W.Frag) (mg : Str → Option Value) (base : Heap) (f : Addr) (fd : FuncData) : Prop where
  ok : FnOk P w K mg base CX0 2 f fd ["_law_bench_here", "_law_many"] (spDraw K)
  g : mg "_law_draw" = some (.ref f)
  kp : PySem.W.keepIn K (.ref f) = true
  b : Binds K fd ["_law_bench_here", "_law_many"] []
theorem ok_pick {f fD : Addr} {fd fdD : FuncData} (F : Fun K "_law_pick" "_law_pick" sLwPick f fd) (T : Bi mg) (D : DrawAt P w K mg base fD fdD) : FnOk P w K mg base CX0 3 f fd ["_law_bench_here", "_law_some"] (spPick K) := by
  refine F.ok scPick (fun vs H Q E h => ?_) (fun cdv A outer s H vs Q E hr h => ?_)
  · obtain ⟨p, l, e, xs, n, rfl, _⟩ := h
    rfl
  · have nd := scPick.nd
    refine ⟨_, pss_one (ps_ret (pe_ix ix_list (pv 1) (pe_call D.ok hr rfl D.g D.kp D.b .nil pass0 (pa_cons (pv 0) (pa_cons (pe_callB call_len_seq (by rfl) T.len PySem.boot_len (pa_cons (pv 1) pa_nil)) pa_nil))) (fun _ _ => rfl))), ?_⟩
    obtain ⟨p, l, e, xs, n, rfl, hl, hlp, l1, l2, hn, pen, k⟩ := h
    refine ⟨_, rfl, _, rfl, _, rfl, l, xs, rfl, .inl hl, p, e, _, n, rfl, by omega, by omega, hn, pen, fun r H' r0 r1 b pen' => ?_⟩
    have hr : r.toNat < xs.length := by omega
    exact ⟨l, xs, r, _, rfl, rfl, b.seq hlp hl, at_of (j := r.toNat) (by omega) (List.getElem?_eq_getElem hr), k _ _ _ (List.getElem?_eq_getElem hr) b pen'⟩
end
end K
namespace Rg
open PySem PySem.Spec PyProof.Rows L2
/-! ### an error that is kept behind its clause -/
/-- an error object of the class at C, its dict at dd -/
def errO (e C : Addr) (dd : Option Addr) : HO := .ext fun hp => ∃ (ob : Obj) (vs : Array Value), hp.get? e = some ob ∧ ob.cls = .ref C ∧ ob.dict = dd ∧ ob.data = .fields vs
theorem errO_at {P : Program} {w : World} {H : Hp} {hp : Heap} {e C : Addr} {dd : Option Addr} (hok : HOk P w H hp) (he : H e = some (errO e C dd)) : ∃ (ob : Obj) (vs : Array Value), hp.get? e = some ob ∧ ob.cls = .ref C ∧ ob.dict = dd ∧ ob.data = .fields vs := (hok e _ he).1
theorem errO_ok {P : Program} {w : World} {H : Hp} {hp : Heap} {e C : Addr} {dd : Option Addr} {ob : Obj} {vs : Array Value} (he : hp.get? e = some ob) (h1 : ob.cls = .ref C) (h2 : ob.dict = dd) (h3 : ob.data = .fields vs) : ObjOk P w H hp e (errO e C dd) :=
  ⟨⟨ob, vs, he, h1, h2, h3⟩, ⟨ob, he⟩, fun _ _ ⟨ob', vs', a, b, c, d⟩ st => ⟨ob', vs', st _ a, b, c, d⟩⟩
/-- a thing that was not tracked is tracked from now on -/
theorem inv_know {X : Cx} {pns : List (Addr × Obj)} {σs : L2.St} {Hh : Hp} {sh : Shared} {e : Addr} {u : HO} (Iv : Inv X pns σs Hh sh) (ne : Hh e = none) (old : e ∉ X.ex → ∀ ob, X.s_0.heap.get? e = some ob → False) (nl : e ≠ X.env.locals)
    (nc : ∀ y c, X.env.cells.lookup y = some c → c ≠ e) (np : ∀ p ∈ X.pn ++ pns, p.1 ≠ e) (ob : ObjOk X.prog X.w (upd Hh e u) sh.heap e u) : Inv X pns σs (upd Hh e u) sh := by
  have oth : ∀ b, b ≠ e → upd Hh e u b = Hh b := fun b hb => upd_ne hb
  have keepS : ∀ {b : Addr} {o : HO}, Hh b = some o → upd Hh e u b = some o := fun {b o} q => by rw [oth b (ne_of_none q ne)]; exact q
  refine ⟨Iv.ok, Iv.os, Iv.bare, ⟨Iv.base.keep, Iv.base.slot, fun b o a n x => ?_, Iv.base.there, fun b xs q => keepS (Iv.base.tups b xs q), fun b o z q => keepS (Iv.base.frzs b o z q), fun b ps q => ?_⟩, Iv.loc, Iv.cell, ?_, fun y c q => ?_, fun p hp => ?_, fun b o q => ?_, Iv.len⟩
  · by_cases hb : b = e
    · subst hb
      exact (old x o a).elim
    · rw [oth b hb]
      exact Iv.base.free b o a n x
  · obtain ⟨more, q'⟩ := Iv.base.tbls b ps q
    exact ⟨more, keepS q'⟩
  · rw [oth _ (Ne.symm nl)]
    exact Iv.free
  · rw [oth _ (nc y c q)]
    exact Iv.freeC y c q
  · obtain ⟨a1, a2, a3⟩ := Iv.pin p hp
    exact ⟨a1, by rw [oth _ (np p hp)]; exact a2, a3⟩
  · by_cases hb : b = e
    · subst hb
      rw [upd_same] at q
      cases q
      exact ob
    · rw [oth b hb] at q
      exact (Iv.hok b o q).stay (fun _ _ _ z => z) (fun c z => keepS z) fun c xs z => keepS z
end Rg
namespace Rg
open PySem PySem.Spec PyProof.Rows L2
/-- what the clause asks: the error is one of the class cv; it is tracked while the suite runs and from then on -/
def wKeep (K : PySem.W.Frag) (cv : Value) (ix : Nat) (tsu : TS) (De : Ends) : WX := fun cls dd σs Hh =>
  PySem.W.exmOne K cls cv = some true ∧ ∃ C : Addr, cls = .ref C ∧ ∀ e, Hh e = none → tsu { nx := fun τ J => De.nx (τ.set ix none) J, rt := De.rt, bk := fun τ J => De.bk (τ.set ix none) J, ct := fun τ J => De.ct (τ.set ix none) J } (σs.set ix (some (.ref e))) (upd Hh e (errO e C dd))
section
variable {X : Cx} {pns : List (Addr × Obj)} {σs : L2.St} {Hh : Hp} {sh : Shared}
theorem inv_in (Iv : Inv X pns σs Hh sh) (e : Addr) : Inv (X.suite e (X.pn ++ pns)) [] σs Hh sh :=
  ⟨Iv.ok.suite _ _, Iv.os, Iv.bare, Iv.base, Iv.loc, Iv.cell, Iv.free, Iv.freeC, fun p hp => Iv.pin p (by simpa using hp), Iv.hok, Iv.len⟩
theorem inv_out {e : Addr} (Iv : Inv (X.suite e (X.pn ++ pns)) [] σs Hh sh) (ok : X.Ok) : Inv X pns σs Hh sh :=
  ⟨ok, Iv.os, Iv.bare, Iv.base, Iv.loc, Iv.cell, Iv.free, Iv.freeC, fun p hp => Iv.pin p (by simpa using hp), Iv.hok, Iv.len⟩
end
section
variable {X : Cx} {y n : Str} {cv : Value} {ix : Nat} {bd su : List Stmt} {st0 : Stmt} {np po po' : Pos} {tbd : WX → TS} {tsu : TS}
theorem ps_try_keep (hstk : X.stack = X.env :: X.outer) (hfr0 : X.env.frame = some X.env.locals) (hnd : X.N.Nodup) (hix : X.N[ix]? = some n) (hnl : X.env.kindOf n = some .local) (hcl : Names X y cv)
    (hbd : ∀ (W : WX) (pn : List (Addr × Obj)) (xe : Value → Shared → Prop), Takes (X.tr pn xe) W → PassesOwn (model X.prog X.w) X.A X.env xe → PSs (X.tr pn xe) bd (tbd W))
    (hsu : ∀ (e : Addr) (pn : List (Addr × Obj)), PSs (X.suite e pn) (st0 :: su) tsu) :
    PS X (.Try bd [.ExceptHandler (some (.Name y np)) (some n) (st0 :: su) po'] [] [] po) (fun De σs Hh => tbd (wKeep X.K cv ix tsu De) De σs Hh) := by
  refine ⟨fun pns sh σs Hh De Iv hh => ?_⟩
  have ok := Iv.ok
  have hfr : X.A.frames = some (X.env :: X.outer) := by rw [ok.frames, hstk]
  have hbody := (hbd (wKeep X.K cv ix tsu De) (X.pn ++ pns) (fun e s1 => wpAny (model X.prog X.w) X.A (noteFrame e X.env) (fun _ s2 => wpAny (model X.prog X.w) X.A (setFlight e none) (fun _ s3 =>
    wpAny (model X.prog X.w) X.A (handleBy e X.env [.ExceptHandler (some (.Name y np)) (some n) (st0 :: su) po']) (SP X pns De) X.xe s3) X.xe s2) X.xe s1) (fun u sx xx => ?_) PassesOwn.looking).run [] sh σs Hh De (Iv.toTry _) hh
  · refine wpAny_Try_except (wpAny_mono hbody (fun fl s1 q => ?_) fun _ _ q => q)
    cases fl with
    | next =>
      obtain ⟨τ, J, Jv, q⟩ := q
      exact wpAny_execs_nil ⟨τ, J, Jv.ofTry ok, q⟩
    | brk => exact let ⟨τ, J, Jv, q⟩ := q; ⟨τ, J, Jv.ofTry ok, q⟩
    | cont => exact let ⟨τ, J, Jv, q⟩ := q; ⟨τ, J, Jv.ofTry ok, q⟩
    | ret u => exact let ⟨v, τ, J, Jv, r, q⟩ := q; ⟨v, τ, J, Jv.ofTry ok, r, q⟩
  -- the error is at e
  obtain ⟨e, B, sI, _, τ, J, cls, dd, rfl, Jv0, nb, up, sky, ne, os, ag, hb, C, rfl, hyes⟩ := xx
  have Jv : Inv X pns τ J sI := Jv0.ofTry ok
  rw [hstk] at sky
  refine Sky.land Zc.steady hfr hfr0 sky fun h3 fl3 up3 => ?_
  have K3 : Inv X pns τ J { sx with heap := h3 } := Jv.landed nb fl3.1 (up.trans up3) os ag
  obtain ⟨o3, v3, g3, z3, d3⟩ := fl3.there
  have enf : e ∉ frs X.stack := fun hm => by
    rw [hstk] at hm
    obtain ⟨_, o', e', hnf⟩ := fl3.2.2.1.mem hm
    rw [g3] at e'
    cases e'
    exact hnf _ d3
  have enl : e ≠ X.env.locals := fun z => enf (by rw [hstk]; exact List.mem_filterMap.mpr ⟨X.env, List.mem_cons_self, by rw [hfr0, z]⟩)
  have enF : e ∉ X.fs := fun hm => enf (by
    rw [hstk]
    obtain ⟨ev, he, q⟩ := List.mem_filterMap.mp hm
    exact List.mem_filterMap.mpr ⟨ev, List.mem_cons_of_mem _ he, q⟩)
  have gone : ∀ ob, sI.heap.get? e = some ob → False := fun ob q => by
    have a := nb e ob q enf
    rw [fl3.2.1] at a
    cases a
  -- tracked
  have know : ∀ {h4 : Heap} {o4 : Obj} {v4 : Array Value}, Inv X pns τ J { sx with heap := h4 } → h4.get? e = some o4 → Zc (.ref C) dd o4 → o4.data = .fields v4 → Inv X pns τ (upd J e (errO e C dd)) { sx with heap := h4 } := fun {h4 o4 v4} K4 g4 z4 d4 => by
    refine inv_know K4 ne (fun hx ob q => ?_) enl (fun x c q z => ?_) (fun p hp z => ?_) (errO_ok g4 z4.1 z4.2 d4)
    · obtain ⟨o', q'⟩ := Jv.base.there e ob q hx
      exact gone o' q'
    · obtain ⟨v, o', q', _⟩ := Jv.cell x c q
      rw [z] at q'
      exact gone _ q'
    · obtain ⟨q', _⟩ := Jv.pin p hp
      rw [z] at q'
      exact gone _ q'
  have test : ∀ {Q E : Value → Shared → Prop}, Q cv { sx with heap := h3 } → wpAny (model X.prog X.w) (X.A.mark (some (.ref e))) (eval (.Name y np) X.env) Q E { sx with heap := h3 } := fun {Q E} q => by
    have S3 := inv_in K3 e
    obtain ⟨hg, hdb, hm | ⟨hm, hv, hn⟩⟩ := hcl
    · exact ld_glob S3 hg hm q hdb
    · exact ld_blt S3 hg hm hv q hn hdb
  refine wpAny_handleBy_cons (codeAny_handlers_test (test ((PySem.W.exm_one (M := model X.prog X.w) K3.kIn (fun _ _ _ _ k q => wpAny_typeOf_ref (k _ _ g3) (by rw [z3.1]; exact q)) hb).here (codeAny_handlers_suite_as (HandSPX.lands_againZ fl3 fun h4 fl4 up4 => ?_))))) (by intro q; cases q)
  obtain ⟨o4, v4, g4, z4, d4⟩ := fl4.there
  have K4 := know (Jv.landed nb fl4.1 ((up.trans up3).trans up4) os ag) g4 z4 d4
  refine store_ok (X := X.suite e (X.pn ++ pns)) (v := .ref e) (inv_in K4 e) hnd hix (.inl hnl) rfl (fun s5 S5 => ?_) (.inr hnl)
  refine wpAny_mono ((hsu e _).run [] s5 _ _ _ S5 (hyes e ne)) (fun fl s6 q => ?_) fun _ _ z => z.elim
  have fin : ∀ {ρ : L2.St} {L : Hp} {Q : Shared → Prop}, Inv (X.suite e (X.pn ++ pns)) [] ρ L s6 → (∀ s7, Inv X pns (ρ.set ix none) L s7 → Q s7) → wpAny (model X.prog X.w) X.A (do bindName X.env n .none; unbindBehindTheSuite X.env n po') (fun _ s7 => Q s7) X.xe s6 :=
    fun {ρ L Q} S6 hq => gone_ok (inv_out S6 ok) hnd hix hnl hq
  cases fl with
  | next => exact let ⟨ρ, L, S6, q⟩ := q; fin S6 fun s7 I7 => ⟨_, _, I7, q⟩
  | brk => exact let ⟨ρ, L, S6, q⟩ := q; fin S6 fun s7 I7 => ⟨_, _, I7, q⟩
  | cont => exact let ⟨ρ, L, S6, q⟩ := q; fin S6 fun s7 I7 => ⟨_, _, I7, q⟩
  | ret u => exact let ⟨v, ρ, L, S6, r, q⟩ := q; fin S6 fun s7 I7 => ⟨_, _, _, I7, r, q⟩
end
end Rg
namespace Rg
open PySem PySem.Spec PyProof.Rows L2
theorem call_or {X : Cx} {fv : Value} {r1 r2 : List V → Hp → VK → Prop} (h1 : CallR X fv r1) (h2 : CallR X fv r2) : CallR X fv (fun xs Hh Qq => r1 xs Hh Qq ∨ r2 xs Hh Qq) := fun pns s σs Hh xs us Qq Iv rr h => h.elim (h1 pns s σs Hh xs us Qq Iv rr) (h2 pns s σs Hh xs us Qq Iv rr)
/-- an error that is kept: its object, its dict -/
def ErrV (Hh : Hp) (x : V) (C : Addr) (fs : List (Str × V)) : Prop := ∃ (e dd : Addr), x = .ref e ∧ Hh e = some (errO e C (some dd)) ∧ Hh dd = some (.xd fs)
theorem err_inst {P : Program} {w : World} {Hh : Hp} {hp : Heap} {e C dd : Addr} {fs : List (Str × V)} (hok : HOk P w Hh hp) (he : Hh e = some (errO e C (some dd))) (hd : Hh dd = some (.xd fs)) :
    ∃ (ob od : Obj) (mA : Str → Option Value), PySem.W.InstAt hp e ob C (some od) ∧ (∀ f, PySem.W.lookIn f od = some (mA f)) ∧ ∀ f, RelO (fs.lookup f) (mA f) := by
  obtain ⟨ob, vs, g, c1, c2, c3⟩ := errO_at hok he
  obtain ⟨mA, hns, hr⟩ := (show ObjOk P w Hh hp dd (.xd fs) from hok dd _ hd)
  obtain ⟨od, ho, hl⟩ := lookIn_ns hns
  exact ⟨ob, od, mA, ⟨g, c1, by unfold PySem.W.notCls; rw [c3] <;> rfl, by rw [c2]; exact ho⟩, hl, hr⟩
/-- isinstance(e, c), e an error that is kept -/
def rIsE (K : PySem.W.Frag) : List V → Hp → VK → Prop := fun xs Hh Qq => ∃ (x c : V) (cv : Value) (C : Addr) (fs : List (Str × V)) (b : Bool), xs = [x, c] ∧ (∀ u, RelV c u → u = cv) ∧ ExcC K C ∧ ErrV Hh x C fs ∧ PySem.W.kitOne K (.ref C) cv = some b ∧ Qq (.bl b) Hh
theorem cr_isE {X : Cx} : CallR X (.builtin "isinstance") (rIsE X.K) := by
  intro pns s σs Hh xs us Qq Iv rr ⟨x, c, cv, C, fs, b, ex, hcv, G, ⟨e, dd, ez, he, hd⟩, kit, q⟩
  subst ex ez
  obtain ⟨u1, u2, rfl, r1, r2⟩ := vals2 rr
  obtain rfl : u1 = Value.ref e := r1
  obtain rfl := hcv _ r2
  obtain ⟨ob, od, mA, J, _, _⟩ := err_inst Iv.hok he hd
  have hcl : (PySem.W.clsIn X.K C).isSome = true := by
    obtain ⟨cd, hc, _⟩ := PySem.W.any_some G.hd
    rw [hc]
    rfl
  exact PySem.W.kia_one (PySem.W.kitx_exc hcl G.hg G.hk G.hs G.ha G.hn G.ht G.hm) Iv.kIn J kit (fun z => nomatch z) fun tk => ⟨.bl b, Hh, Iv.kept (t' := tk) fun _ _ z => z, rfl, q⟩
/-- e.f, e an error that is kept -/
def tFldE (K : PySem.W.Frag) (te : TE) (f : Str) : TE := fun σs Hh Qq => te σs Hh fun x J => ∃ (C : Addr) (fs : List (Str × V)) (v : V), ErrV J x C fs ∧ XfC K C ∧ PySem.W.findIn K (.ref C) f = some none ∧ fs.lookup f = some v ∧ Qq v J
theorem pe_fldE {X : Cx} {ex : Expr} {te : TE} {po : Pos} {n : Str} (he : PE X ex te) (hb : attributeBase ex n X.env (eval ex X.env) = eval ex X.env := by rfl) : PE X (.Attribute ex n po) (tFldE X.K te n) := by
  refine ⟨fun pns s σs Hh Qq Iv h => attr_of hb (thn (he.run pns s σs Hh _ Iv h) fun u s1 hh => ?_)⟩
  obtain ⟨x, J, I1, rx, C, fs, v, ⟨e, dd, ez, g1, g2⟩, T, hno, l, q⟩ := hh
  subst ez
  obtain rfl : u = Value.ref e := rx
  obtain ⟨ob, od, mA, K1, hl, hr⟩ := err_inst I1.hok g1 g2
  obtain ⟨z, hz, rz⟩ := RelO.some_of (v := v) (o := mA n) (by rw [← l]; exact hr n)
  exact HandSPX.exc_get I1.kIn K1 T.ga T.gg T.exC (PySem.W.findObj_own T.hdC hno rfl (by rw [hl, hz])) (handed_of rz) ⟨v, J, I1.tok _, rz, q⟩
end Rg
namespace Rg
open PySem PySem.Spec PyProof.Rows L2
/-- name = {k: v for ..}, a plain local name -/
theorem sw_dc {kx vx : Expr} {gs : List Comprehension} {sc : Scope} {po py : Pos} {y : Str} {ln : Nat} {ev : Env} (hk : ev.scope.kind = .function) (hy : ev.scope.names.lookup y = some .local) (hl : (py.line == po.line) = true)
    (ha : (sc.names.any fun (n, k) => n == y && (k == .local || k == .cell)) = false) : swapsWith (.DictComp kx vx gs sc po) (some (.Name y py)) ln ev = pure true := by
  have k1 : ev.kindOf y = some .local := hy
  have k2 : ev.blockKind = .function := by unfold Env.blockKind; rw [hk]; rfl
  unfold swapsWith
  simp only [k2, k1, ha, Expr.pos, hl]
  rfl
section
variable {X : Cx}
theorem ps_setDc {ix : Nat} {y : Str} {py : Pos} {kx vx tg itx : Expr} {ifs : List Expr} {sc : Scope} {own : List (Str × Nat)} {po spo : Pos} {wi : TI} {g : TG} {tt : TT} {tk tv : TE} (hc : X.calm = true) (hN : X.N.Nodup) (hy : X.N[ix]? = some y) (hyl : X.env.scope.names.lookup y = some .local)
    (hsw : swapsWith (.DictComp kx vx [⟨tg, itx, ifs, 0⟩] sc po) (some (.Name y py)) spo.line X.env = pure true) (hi : PI X tg itx wi) (ok : BlkOk X.N X.env.scope sc own)
    (hg : ∀ (s : Shared) (H : Hp) (C : Addr) (cl : List (Str × Addr)) (fp : List Addr), PG (X.blk s H sc (compEnvC sc cl C X.env) fp) tg g) (ht : ∀ (s : Shared) (H : Hp) (C : Addr) (cl : List (Str × Addr)) (fp : List Addr), PTs (X.blk s H sc (compEnvC sc cl C X.env) fp) ifs tt)
    (hk : ∀ (s : Shared) (H : Hp) (C : Addr) (cl : List (Str × Addr)) (fp : List Addr), PE (X.blk s H sc (compEnvC sc cl C X.env) fp) kx tk) (he : ∀ (s : Shared) (H : Hp) (C : Addr) (cl : List (Str × Addr)) (fp : List Addr), PE (X.blk s H sc (compEnvC sc cl C X.env) fp) vx tv)
    (hs : ∀ x, foldedSetIterable itx X.env x = pure x := by intro _; rfl) : PS X (.Assign [.Name y py] (.DictComp kx vx [⟨tg, itx, ifs, 0⟩] sc po) spo) (tAsg (tDc wi g tt tk tv (own.map (·.2))) (gName ix)) := by
  refine ⟨fun pns sh σs Hh De Iv h => ?_⟩
  rw [exec_Assign_Name_used _ _ _ _ hsw]
  refine wpAny_bind (wpAny_standAt (wpAny_bind ?_))
  show wpAny _ X.A (do let _ ← comprehension (.DictComp kx vx [⟨tg, itx, ifs, 0⟩] sc po) sc X.env (firstIterPos [⟨tg, itx, ifs, 0⟩] po) newDict false (eval itx X.env) (some (assign (.Name y py) X.env))) _ _ sh
  have h2 : tDc wi g tt tk tv (own.map (·.2)) σs Hh (fun x J => gName ix x σs J De.nx) := h
  refine wpAny_bind (thn (dc_core (Qf := fun _ s' => SP X pns De .next s') hc hN Iv hi ok hg ht hk he hs h2 fun D C s' m J I' q hn f => ?_) fun _ s' hq => wpAny_pure (wpAny_pure hq))
  show wpAny _ _ (assign (.Name y py) X.env (.ref D)) _ _ _
  refine wpAny_assign_Name (store_ok2 (v := V.ref D) I' hN hy (.inl hyl) rfl (fun s2 I2 ⟨a, sb, ha⟩ => ?_) (.inr hyl))
  obtain ⟨f0, f1, f2, f3, f4, f5⟩ := f
  have ne : C ≠ a := ha.elim (fun z => by rw [z]; exact f1) fun z e => f4 y a z e.symm
  exact ⟨m, hn.sameBut sb ne, fun h3 sb3 => ⟨_, J, I2.turned (t' := s2.toks) (fun b o hb e => (sb3.2 b hb).trans e) f0 f1 f3 f4 f5, q⟩⟩
end
end Rg
namespace Rg
open PySem PySem.Spec PyProof.Rows L2
/-! ### the tuples of a zip that are kept -/
theorem tup_at {h h' : Heap} {a : Addr} {its : Array Value} (x : h.IsTuple a its) (e : ∀ o, h.get? a = some o → h'.get? a = some o) : h'.IsTuple a its := let ⟨o, ho, r⟩ := x; ⟨o, e _ ho, r⟩
theorem draws_tup {prog : Program} {w : World} {A : Around} (clear : A.handled = none) (it l : Addr) (apart : l ≠ it) (its : Array Value) : Draws prog w A it [it, l] its.size (fun j v => its[j]? = some v) (fun j h => h.IsTupleIter it l j ∧ h.IsTuple l its) where
  live := fun _ _ stand => let ⟨o, ho, _⟩ := stand.1; ⟨o, ho⟩
  frame := fun _ _ _ stand kept => ⟨stand.1.at fun o e => kept it (by simp) o e, tup_at stand.2 fun o e => kept l (by simp) o e⟩
  item := fun j s Q E hj stand hQ => by
    refine RZ.nextOf_tuple_item stand.1 stand.2 (x := its[j]) (by simp [hj]) fun h' it' same => ?_
    exact hQ _ h' s.toks (by simp [hj]) ⟨it', stand.2.extBut same.extBut apart⟩ same
  done := fun s Q E stand hE => RZ.nextOf_tuple_end clear stand.1 stand.2 (by simp) hE
section
variable {prog : Program} {w : World} {A : Around} {E : Value → Shared → Prop} {s : Shared} {z TI TO T L i1 i2 : Addr} {fp1 fp2 : List Addr} {n1 n2 j : Nat} {P1 P2 : Nat → Value → Prop} {St1 St2 : Nat → Heap → Prop} {b : Bool} {oT : Obj}
theorem zh_next {Q : Value → Shared → Prop} (S : ZipSep2 z TI TO i1 i2 fp1 fp2) (D1 : Draws prog w A i1 fp1 n1 P1 St1) (D2 : Draws prog w A i2 fp2 n2 P2 St2) (hz : IsZipHeld s.heap z TI TO T b) (hT : s.heap.get? T = some oT) (hTI : IsTupOf2 s.heap TI (.ref i1) (.ref i2)) (t1 : St1 j s.heap) (t2 : St2 j s.heap) (l1 : j < n1) (l2 : j < n2)
    (hQ : ∀ u v h' tk, P1 j u → P2 j v → IsZipHeld h' z TI TO T true → St1 (j + 1) h' → St2 (j + 1) h' → IsTupOf2 h' s.heap.objs.size u v → h'.objs.size = s.heap.objs.size + 1 → (∀ c o, c ≠ z → c ≠ i1 → c ≠ i2 → s.heap.get? c = some o → h'.get? c = some o) → Q (.ref s.heap.objs.size) { s with heap := h', toks := tk }) :
    wpAny (model prog w) A (Builtin.«zip.__next__» ⟨[.ref z], []⟩) (fun fin s' => ∃ v, fin = .done (.ret v) ∧ Q v s') E s := by
  obtain ⟨hp, g, d, tk0, os⟩ := s
  show wpAny _ _ (field (.ref z) 2 >>= _) _ _ _
  refine wpAny_bind (wpAny_field hz rfl (x := .bool false) rfl ?_)
  show wpAny _ _ (field (.ref z) 3 >>= _) _ _ _
  refine wpAny_bind (wpAny_field hz rfl (x := .ref TI) rfl ?_)
  refine wpAny_bind (wpAny_seqItems hTI rfl ?_)
  show wpAny _ _ (Builtin.SmallTypes.ownedTupleIsFree (.ref z) >>= _) _ _ _
  refine wpAny_bind (wpAny_tupleHeld_zip (s := ⟨hp, g, d, tk0, os⟩) hz hT fun k1 z1 c1 => ?_)
  replace c1 : Heap.SameBut z hp k1 := c1
  simp only [Bool.false_eq_true, if_false]
  refine wpAny_bind ?_
  rw [← Array.forIn_toList]
  simp only [List.forIn_cons, List.forIn_nil]
  refine wpAny_bind (wpAny_bind (wpAny_holding ?_))
  show wpAny _ _ (Builtin.SmallTypes.nextOf (.ref i1) >>= _) _ _ ⟨k1, g, d, tk0, os⟩
  refine wpAny_bind (D1.item j _ _ _ l1 (D1.over t1 c1 S.zf1) fun u k2 tk1 pu t1' c2 => wpAny_pure ?_)
  replace c2 : Heap.SameBut i1 k1 k2 := c2
  refine wpAny_pure ?_
  refine wpAny_bind (wpAny_bind (wpAny_holding ?_))
  show wpAny _ _ (Builtin.SmallTypes.nextOf (.ref i2) >>= _) _ _ ⟨k2, g, d, tk1, os⟩
  refine wpAny_bind (D2.item j _ _ _ l2 (D2.over (D2.over t2 c1 S.zf2) c2 S.sep1_2) fun v k3 tk2 pv t2' c3 => wpAny_pure ?_)
  replace c3 : Heap.SameBut i2 k2 k3 := c3
  refine wpAny_pure (wpAny_pure ?_)
  show wpAny _ _ (newTuple [u, v] >>= _) _ _ ⟨k3, g, d, tk2, os⟩
  refine wpAny_bind (wpAny_newTuple ?_)
  have size3 : k3.objs.size = hp.objs.size := by rw [c3.1, c2.1, c1.1]
  have z3 : IsZipHeld k3 z TI TO T true := c3.extBut _ _ S.zi2 (c2.extBut _ _ S.zi1 z1)
  have stay : ∀ c o, c ≠ z → c ≠ i1 → c ≠ i2 → hp.get? c = some o → k3.get? c = some o := fun c o a1 a2 a3 e => c3.extBut _ _ a3 (c2.extBut _ _ a2 (c1.extBut _ _ a1 e))
  refine wpAny_pure ⟨_, rfl, ?_⟩
  show Q (.ref k3.objs.size) _
  have at3 : IsTupOf2 (k3.push { cls := .type "tuple", data := .seq #[u, v] }) k3.objs.size u v := Heap.get?_push_size _ rfl
  have size4 : (k3.push { cls := .type "tuple", data := .seq #[u, v] }).objs.size = k3.objs.size + 1 := Heap.size_push ..
  rw [size3] at at3 size4 ⊢
  exact hQ u v _ tk2 pu pv (Heap.get?_push_of_some _ z3) (D1.frame _ _ _ (D1.over t1' c3 S.sep2_1) fun c _ o e => Heap.get?_push_of_some _ e) (D2.frame _ _ _ t2' fun c _ o e => Heap.get?_push_of_some _ e) at3 size4 fun c o a1 a2 a3 e => Heap.get?_push_of_some _ (stay c o a1 a2 a3 e)
theorem zh_stop {Q : Fin → Shared → Prop} (S : ZipSep2 z TI TO i1 i2 fp1 fp2) (D1 : Draws prog w A i1 fp1 n1 P1 St1) (D2 : Draws prog w A i2 fp2 n2 P2 St2) (hz : IsZipHeld s.heap z TI TO T b) (hT : s.heap.get? T = some oT) (hTI : IsTupOf2 s.heap TI (.ref i1) (.ref i2)) (t1 : St1 j s.heap) (t2 : St2 j s.heap) (l1 : j ≤ n1) (l2 : j ≤ n2) (over : j = n1 ∨ j = n2)
    (hE : ∀ h' tk e, (∀ c o, c ≠ z → c ≠ i1 → c ≠ i2 → s.heap.get? c = some o → h'.get? c = some o) → (∃ o, h'.get? e = some o ∧ o.cls = .type "StopIteration") → E (.ref e) { s with heap := h', toks := tk }) :
    wpAny (model prog w) A (Builtin.«zip.__next__» ⟨[.ref z], []⟩) Q E s := by
  obtain ⟨hp, g, d, tk0, os⟩ := s
  show wpAny _ _ (field (.ref z) 2 >>= _) _ _ _
  refine wpAny_bind (wpAny_field hz rfl (x := .bool false) rfl ?_)
  show wpAny _ _ (field (.ref z) 3 >>= _) _ _ _
  refine wpAny_bind (wpAny_field hz rfl (x := .ref TI) rfl ?_)
  refine wpAny_bind (wpAny_seqItems hTI rfl ?_)
  show wpAny _ _ (Builtin.SmallTypes.ownedTupleIsFree (.ref z) >>= _) _ _ _
  refine wpAny_bind (wpAny_tupleHeld_zip (s := ⟨hp, g, d, tk0, os⟩) hz hT fun k1 z1 c1 => ?_)
  replace c1 : Heap.SameBut z hp k1 := c1
  simp only [Bool.false_eq_true, if_false]
  refine wpAny_bind ?_
  rw [← Array.forIn_toList]
  simp only [List.forIn_cons, List.forIn_nil]
  refine wpAny_bind (wpAny_bind (wpAny_holding ?_))
  show wpAny _ _ (Builtin.SmallTypes.nextOf (.ref i1) >>= _) _ _ ⟨k1, g, d, tk0, os⟩
  by_cases c : j < n1
  · have e2 : j = n2 := by omega
    refine wpAny_bind (D1.item j _ _ _ c (D1.over t1 c1 S.zf1) fun u k2 tk1 pu t1' c2 => wpAny_pure ?_)
    replace c2 : Heap.SameBut i1 k1 k2 := c2
    refine wpAny_pure ?_
    refine wpAny_bind (wpAny_bind (wpAny_holding ?_))
    show wpAny _ _ (Builtin.SmallTypes.nextOf (.ref i2) >>= _) _ _ ⟨k2, g, d, tk1, os⟩
    refine wpAny_bind (D2.done ⟨k2, g, d, tk1, os⟩ _ _ (by rw [← e2]; exact D2.over (D2.over t2 c1 S.zf2) c2 S.sep1_2) fun q e hq he => ?_)
    exact hE q tk1 e (fun c o a1 a2 a3 x => hq c o a3 (c2.extBut _ _ a2 (c1.extBut _ _ a1 x))) he
  · have e1 : j = n1 := by omega
    refine wpAny_bind (D1.done ⟨k1, g, d, tk0, os⟩ _ _ (by rw [← e1]; exact D1.over t1 c1 S.zf1) fun q e hq he => ?_)
    exact hE q tk0 e (fun c o a1 a2 a3 x => hq c o a2 (c1.extBut _ _ a1 x)) he
/-- a zip whose tuples a list keeps -/
def ZSt (z TI TO i1 i2 L : Addr) (St1 St2 : Nat → Heap → Prop) (j : Nat) (h : Heap) : Prop := IsTupOf2 h TI (.ref i1) (.ref i2) ∧ St1 j h ∧ St2 j h ∧ ((IsZip h z TI TO .none ∧ ∃ a b, IsTupOf2 h TO a b) ∨ ∃ T f oT, IsZipHeld h z TI TO T f ∧ h.get? T = some oT ∧ T ≠ z ∧ T ≠ i1 ∧ T ≠ i2 ∧ T ≠ L)
theorem zst_type (st : ZSt z TI TO i1 i2 L St1 St2 j s.heap) : s.TypeIs (.ref z) "zip" := by
  rcases st.2.2.2 with ⟨hz, _⟩ | ⟨_, _, _, hz, _⟩
  · exact ⟨_, hz, rfl⟩
  · exact ⟨_, hz, rfl⟩
theorem zst_keep (D1 : Draws prog w A i1 fp1 n1 P1 St1) (D2 : Draws prog w A i2 fp2 n2 P2 St2) {h h' : Heap} (st : ZSt z TI TO i1 i2 L St1 St2 j h) (nz : z ≠ L) (nTI : TI ≠ L) (nTO : TO ≠ L) (nf1 : L ∉ fp1) (nf2 : L ∉ fp2) (k : ∀ c o, c ≠ L → h.get? c = some o → h'.get? c = some o) : ZSt z TI TO i1 i2 L St1 St2 j h' := by
  obtain ⟨a1, a2, a3, a4⟩ := st
  refine ⟨k _ _ nTI a1, D1.frame _ _ _ a2 fun c hc o e => k c o (fun q => nf1 (q ▸ hc)) e, D2.frame _ _ _ a3 fun c hc o e => k c o (fun q => nf2 (q ▸ hc)) e, ?_⟩
  rcases a4 with ⟨hz, a, b, hTO⟩ | ⟨T, f, oT, hz, hT, r1, r2, r3, r4⟩
  · exact .inl ⟨k _ _ nz hz, a, b, k _ _ nTO hTO⟩
  · exact .inr ⟨T, f, oT, k _ _ nz hz, k _ _ r4 hT, r1, r2, r3, r4⟩
theorem zst_item {Q : Option Value → Shared → Prop} (S : ZipSep2 z TI TO i1 i2 fp1 fp2) (D1 : Draws prog w A.in1 i1 fp1 n1 P1 St1) (D2 : Draws prog w A.in1 i2 fp2 n2 P2 St2) (st : ZSt z TI TO i1 i2 L St1 St2 j s.heap) (hL : L < s.heap.objs.size) (l1 : j < n1) (l2 : j < n2)
    (hQ : ∀ u v h' tk, P1 j u → P2 j v → ZSt z TI TO i1 i2 L St1 St2 (j + 1) h' → IsTupOf2 h' s.heap.objs.size u v → (∀ c o, c ≠ z → c ≠ TO → c ≠ i1 → c ≠ i2 → s.heap.get? c = some o → h'.get? c = some o) → Q (some (.ref s.heap.objs.size)) { s with heap := h', toks := tk }) :
    wpAny (model prog w) A (pyNext (.ref z)) Q E s := by
  have ty := zst_type st
  obtain ⟨hTI, t1, t2, a4⟩ := st
  have lt : ∀ {c o}, s.heap.get? c = some o → s.heap.objs.size ≠ c := fun e => Nat.ne_of_gt (Heap.lt_size e)
  have m1 : s.heap.objs.size ≠ i1 := by obtain ⟨_, e⟩ := D1.live _ _ t1; exact lt e
  have m2 : s.heap.objs.size ≠ i2 := by obtain ⟨_, e⟩ := D2.live _ _ t2; exact lt e
  rcases a4 with ⟨hz, a, b, hTO⟩ | ⟨T, f, oT, hz, hT, r1, r2, r3, r4⟩
  · refine wpAny_pyNext_zipD2_item S D1 D2 hz hTI hTO t1 t2 l1 l2 fun u v h' tk pu pv b1 b2 d1 d2 b5 b6 hk => ?_
    exact hQ u v h' tk pu pv ⟨hk _ _ S.TIz S.TITO S.TIi1 S.TIi2 hTI, d1, d2, .inr ⟨_, false, _, b1, b5, lt hz, m1, m2, Nat.ne_of_gt hL⟩⟩ b5 hk
  · unfold pyNext
    refine wpAny_bind (wpAny_attempt (wpAny_callSpecial?_slot (name := Str.ofString "__next__") ty F.slot_zip_next
      (wpAny_call_entry F.slot_zip_next ty F.entry_zip_next (zh_next S D1 D2 hz hT hTI t1 t2 l1 l2 fun u v h' tk pu pv b1 d1 d2 b5 b6 hk => wpAny_pure ?_) (F.args_zip_next_1 _))))
    exact hQ u v h' tk pu pv ⟨hk _ _ S.TIz S.TIi1 S.TIi2 hTI, d1, d2, .inr ⟨T, true, oT, b1, hk _ _ r1 r2 r3 hT, r1, r2, r3, r4⟩⟩ b5 fun c o q1 _ q3 q4 e => hk c o q1 q3 q4 e
theorem zst_done {Q : Option Value → Shared → Prop} (S : ZipSep2 z TI TO i1 i2 fp1 fp2) (D1 : Draws prog w A.in1 i1 fp1 n1 P1 St1) (D2 : Draws prog w A.in1 i2 fp2 n2 P2 St2) (st : ZSt z TI TO i1 i2 L St1 St2 j s.heap) (l1 : j ≤ n1) (l2 : j ≤ n2) (over : j = n1 ∨ j = n2)
    (hQ : ∀ h' tk, (∀ c o, c ≠ z → c ≠ TO → c ≠ i1 → c ≠ i2 → s.heap.get? c = some o → h'.get? c = some o) → Q none { s with heap := h', toks := tk }) : wpAny (model prog w) A (pyNext (.ref z)) Q E s := by
  have ty := zst_type st
  obtain ⟨hTI, t1, t2, a4⟩ := st
  rcases a4 with ⟨hz, a, b, hTO⟩ | ⟨T, f, oT, hz, hT, r1, r2, r3, r4⟩
  · exact wpAny_pyNext_zipD2_end S D1 D2 hz hTI hTO t1 t2 l1 l2 over hQ
  · unfold pyNext
    refine wpAny_bind (wpAny_attempt (wpAny_callSpecial?_slot (name := Str.ofString "__next__") ty F.slot_zip_next
      (wpAny_call_entry F.slot_zip_next ty F.entry_zip_next (zh_stop S D1 D2 hz hT hTI t1 t2 l1 l2 over fun h' tk e hk he => ?_) (F.args_zip_next_1 _))))
    obtain ⟨o, ho, hc⟩ := he
    refine wpAny_bind (wpAny_isInstance (T := "StopIteration") (b := true) ⟨o, ho, hc⟩ isSubtype_stop ?_)
    exact wpAny_pure (hQ _ _ fun c o q1 _ q3 q4 e => hk c o q1 q3 q4 e)
theorem zst_self {Q : Value → Shared → Prop} (st : ZSt z TI TO i1 i2 L St1 St2 j s.heap) (h : Q (.ref z) s) : wpAny (model prog w) A (pyIter (.ref z)) Q E s := by
  have ty := zst_type st
  refine wpAny_pyIter_slot ty F.slot_zip_iter (wpAny_call_entry F.slot_zip_iter ty F.entry_zip_iter ?_ (F.args_zip_iter_1 _))
  show wpAny _ _ (ret (.ref z)) _ _ s
  exact wpAny_pure ⟨_, rfl, "zip", _, ty, F.slot_zip_next.lookup, h⟩
end
/-- the addresses of the pairs given out so far -/
structure ZGo (P1 P2 : Nat → Value → Prop) (lo : Addr) (h : Heap) (as : List Addr) : Prop where
  up : as.Pairwise (· < ·)
  hi : ∀ a ∈ as, lo < a
  each : ∀ (k : Nat) (a : Addr), as[k]? = some a → ∃ u v, P1 k u ∧ P2 k v ∧ IsTupOf2 h a u v
end Rg
namespace Rg
open PySem PySem.Spec PyProof.Rows L2
theorem nolen_zp : typeLookup (.type "zip") "__len__" = pure none := by rw [typeLookup_type, builtinLookup_eq_fast]; kernel_rfl
theorem nohint_zp : typeLookup (.type "zip") "__length_hint__" = pure none := by rw [typeLookup_type, builtinLookup_eq_fast]; kernel_rfl
/-- all cells of the zip stand below L -/
structure ZLow (z TI TO L : Addr) (fp1 fp2 : List Addr) : Prop where
  z : z < L
  TI : TI < L
  TO : TO < L
  f1 : ∀ c ∈ fp1, c < L
  f2 : ∀ c ∈ fp2, c < L
section
variable {prog : Program} {w : World} {A : Around} {s : Shared} {R : Result → Shared → Prop} {z TI TO L i1 i2 : Addr} {fp1 fp2 : List Addr} {n1 n2 : Nat} {P1 P2 : Nat → Value → Prop} {St1 St2 : Nat → Heap → Prop}
theorem zl_keep (W : ZLow z TI TO L fp1 fp2) (D1 : Draws prog w A i1 fp1 n1 P1 St1) (D2 : Draws prog w A i2 fp2 n2 P2 St2) {j : Nat} {h h' : Heap} (st : ZSt z TI TO i1 i2 L St1 St2 j h) (k : ∀ c o, c ≠ L → h.get? c = some o → h'.get? c = some o) : ZSt z TI TO i1 i2 L St1 St2 j h' :=
  zst_keep D1 D2 st (Nat.ne_of_lt W.z) (Nat.ne_of_lt W.TI) (Nat.ne_of_lt W.TO) (fun q => Nat.lt_irrefl _ (W.f1 _ q)) (fun q => Nat.lt_irrefl _ (W.f2 _ q)) k
theorem zl_loop (S : ZipSep2 z TI TO i1 i2 fp1 fp2) (D1 : Draws prog w A.in1.in1 i1 fp1 n1 P1 St1) (D2 : Draws prog w A.in1.in1 i2 fp2 n2 P2 St2) (W : ZLow z TI TO L fp1 fp2) (hn : min n1 n2 ≤ sizeLine) (res : Value) {h0 : Heap}
    (hR : ∀ h' tk acc c as, (∀ b o, b ≠ L → b ≠ z → b ≠ TO → b ≠ i1 → b ≠ i2 → h0.get? b = some o → h'.get? b = some o) → h'.get? L = some { cls := .type "list", dict := none, data := .seq acc c, slots := #[] } → as.length = min n1 n2 → ZGo P1 P2 L h' as → acc.toList = as.map Value.ref → R (.ok (.ret res)) { s with heap := h', toks := tk }) :
    ∀ (m j : Nat) (h : Heap) (tk c : Nat) (acc : Array Value) (as : List Addr), min n1 n2 - j = m → j ≤ min n1 n2 → ZSt z TI TO i1 i2 L St1 St2 j h → (∀ b o, b ≠ L → b ≠ z → b ≠ TO → b ≠ i1 → b ≠ i2 → h0.get? b = some o → h.get? b = some o) →
      h.get? L = some { cls := .type "list", dict := none, data := .seq acc c, slots := #[] } → acc.toList = as.map Value.ref → as.length = j → ZGo P1 P2 L h as → codeAny (model prog w) A (.builtin "list.extend.loop" ⟨[.ref L, .ref z, res], []⟩) R { s with heap := h, toks := tk } := by
  have lz : L ≠ z := Nat.ne_of_gt W.z
  have lTO : L ≠ TO := Nat.ne_of_gt W.TO
  have li1 : L ≠ i1 := Nat.ne_of_gt (W.f1 _ S.mem1)
  have li2 : L ≠ i2 := Nat.ne_of_gt (W.f2 _ S.mem2)
  have off : ∀ {a : Addr}, L < a → a ≠ z ∧ a ≠ TO ∧ a ≠ i1 ∧ a ≠ i2 := fun {a} q => ⟨Nat.ne_of_gt (Nat.lt_trans W.z q), Nat.ne_of_gt (Nat.lt_trans W.TO q), Nat.ne_of_gt (Nat.lt_trans (W.f1 _ S.mem1) q), Nat.ne_of_gt (Nat.lt_trans (W.f2 _ S.mem2) q)⟩
  intro m
  induction m with
  | zero =>
    intro j h tk c acc as hm hj st keep hL full len G
    have le1 := Nat.min_le_left n1 n2
    have le2 := Nat.min_le_right n1 n2
    refine codeAny_builtin PySem.F.entry_extend_loop ?_
    rw [Around.under_plainId PySem.F.plain_extend_loop _]
    show wpAny _ A.in1 (pyNext (.ref z) >>= _) _ _ _
    refine wpAny_bind (zst_done (s := { s with heap := h, toks := tk }) (A := A.in1) S D1 D2 st (by omega) (by omega) (by omega) fun h' tk' ex => ?_)
    refine wpAny_pure (hR h' tk' acc c as (fun b o q0 q1 q2 q3 q4 e => ex b o q1 q2 q3 q4 (keep b o q0 q1 q2 q3 q4 e)) (ex L _ lz lTO li1 li2 hL) (by omega) ⟨G.up, G.hi, fun k a hk => ?_⟩ full)
    obtain ⟨u, v, pu, pv, e⟩ := G.each k a hk
    obtain ⟨o1, o2, o3, o4⟩ := off (G.hi a (List.mem_of_getElem? hk))
    exact ⟨u, v, pu, pv, ex a _ o1 o2 o3 o4 e⟩
  | succ m ih =>
    intro j h tk c acc as hm hj st keep hL full len G
    have le1 := Nat.min_le_left n1 n2
    have le2 := Nat.min_le_right n1 n2
    have size : acc.size = j := by rw [← Array.length_toList, full, List.length_map, len]
    have hLs : L < h.objs.size := Heap.lt_size hL
    refine codeAny_builtin PySem.F.entry_extend_loop ?_
    rw [Around.under_plainId PySem.F.plain_extend_loop _]
    show wpAny _ A.in1 (pyNext (.ref z) >>= _) _ _ _
    refine wpAny_bind (zst_item (s := { s with heap := h, toks := tk }) (A := A.in1) S D1 D2 st hLs (by omega) (by omega) fun u v h' tk' pu pv st' new ex => ?_)
    dsimp only at new ex ⊢
    have hL' := ex L _ lz lTO li1 li2 hL
    have up : ∀ b o, b ≠ L → h'.get? b = some o → (h'.update L (Obj.mapSeq (·.push (Value.ref h.objs.size)))).get? b = some o := fun b o hb e => (Heap.get?_update_other _ _ (Ne.symm hb)).trans e
    show wpAny _ A.in1 (updateSeq L (·.push (Value.ref h.objs.size)) >>= _) _ _ _
    refine wpAny_bind ?_
    refine wpAny_updateSeq hL' rfl (wpAny_pure ⟨plainId_quiet PySem.F.plain_extend_loop _, ih (j + 1) _ tk' _ (acc.push (Value.ref h.objs.size)) (as ++ [h.objs.size]) (by omega) (by omega) (zl_keep W D1 D2 st' up)
      (fun b o q0 q1 q2 q3 q4 e => up b o q0 (ex b o q1 q2 q3 q4 (keep b o q0 q1 q2 q3 q4 e))) (Heap.get?_update_self _ hL' rfl) (by rw [Array.toList_push, full, List.map_append]; rfl) (by rw [List.length_append, len]; rfl) ⟨?_, ?_, ?_⟩⟩) (by rw [size]; omega) (by show (acc.push (Value.ref h.objs.size)).size ≤ sizeLine + 1; rw [Array.size_push, size]; omega)
    · refine List.pairwise_append.mpr ⟨G.up, List.pairwise_singleton _ _, fun a ha b hb => ?_⟩
      rw [List.mem_singleton.mp hb]
      obtain ⟨k, hk⟩ := List.mem_iff_getElem?.mp ha
      obtain ⟨_, _, _, _, e⟩ := G.each k a hk
      exact Heap.lt_size e
    · intro a ha
      rcases List.mem_append.mp ha with ha | ha
      · exact G.hi a ha
      · rw [List.mem_singleton.mp ha]; exact hLs
    · intro k a hk
      rcases Nat.lt_trichotomy k as.length with q | q | q
      · rw [List.getElem?_append_left q] at hk
        obtain ⟨u', v', pu', pv', e⟩ := G.each k a hk
        have ha := G.hi a (List.mem_of_getElem? hk)
        obtain ⟨o1, o2, o3, o4⟩ := off ha
        exact ⟨u', v', pu', pv', up a _ (Nat.ne_of_gt ha) (ex a _ o1 o2 o3 o4 e)⟩
      · subst q
        have ha : h.objs.size = a := by simpa using hk
        subst ha
        rw [len]
        exact ⟨u, v, pu, pv, up _ _ (Nat.ne_of_gt hLs) new⟩
      · rw [List.getElem?_eq_none (by rw [List.length_append, List.length_singleton]; omega)] at hk
        cases hk
theorem zl_extend (S : ZipSep2 z TI TO i1 i2 fp1 fp2) (D1 : Draws prog w A.in1.in1 i1 fp1 n1 P1 St1) (D2 : Draws prog w A.in1.in1 i2 fp2 n2 P2 St2) (W : ZLow z TI TO L fp1 fp2) (hn : min n1 n2 ≤ sizeLine) (res : Value) (c0 : Nat) (st : ZSt z TI TO i1 i2 L St1 St2 0 s.heap) (hL : s.heap.get? L = some { cls := .type "list", data := .seq #[] c0 })
    (hR : ∀ h' tk acc c as, (∀ b o, b ≠ L → b ≠ z → b ≠ TO → b ≠ i1 → b ≠ i2 → s.heap.get? b = some o → h'.get? b = some o) → h'.get? L = some { cls := .type "list", dict := none, data := .seq acc c, slots := #[] } → as.length = min n1 n2 → ZGo P1 P2 L h' as → acc.toList = as.map Value.ref → R (.ok (.ret res)) { s with heap := h', toks := tk }) :
    wpAny (model prog w) A.in1 (Builtin.List.listExtendWith (.ref L) (.ref z) res)
      (fun fin s' => match fin with | .done f => R (.ok f) s' | .again c' => c'.quiet = true ∧ codeAny (model prog w) A c' R s') (fun e s' => R (.error e) s') s := by
  have ty := zst_type st
  have ne : L ≠ z := Nat.ne_of_gt W.z
  unfold Builtin.List.listExtendWith
  refine wpAny_bind (wpAny_typeOf (T := "zip") ty ?_)
  have q1 : Builtin.List.listSameRef (.ref L) (.ref z) = false := by simp [Builtin.List.listSameRef, ne]
  have q2 : (Value.type "zip" == Value.type "list") = false := by decide
  have q3 : (Value.type "zip" == Value.type "tuple") = false := by decide
  simp only [q1, q2, q3, Bool.or_false, Bool.false_eq_true, if_false]
  refine wpAny_bind (zst_self st ?_)
  refine wpAny_bind (wpAny_holding ?_)
  unfold Builtin.List.listLengthHint
  refine wpAny_bind (wpAny_specialOf ty nolen_zp ?_)
  show wpAny _ A.in1 (specialOf (Value.ref z) (Str.ofString "__length_hint__") >>= _) _ _ _
  refine wpAny_bind (wpAny_specialOf ty nohint_zp ?_)
  refine wpAny_pure ?_
  show wpAny _ A.in1 (rule "list.extend.makes-room" >>= fun _ => Builtin.List.listTouch (.ref L) >>= fun _ => again (.builtin "list.extend.loop" ⟨[.ref L, .ref z, res], []⟩)) _ _ _
  refine wpAny_bind (wpAny_rule ?_)
  refine wpAny_bind ?_
  show wpAny _ A.in1 (updateSeq L (·.push .none) >>= fun _ => updateSeq L (·.pop)) _ _ _
  refine wpAny_bind (wpAny_updateSeq hL rfl ?_)
  have hL2 := Heap.get?_update_self (Obj.mapSeq (·.push Value.none)) hL rfl
  refine wpAny_updateSeq (hz := by seq_fits) hL2 rfl ?_
  have hL3 := Heap.get?_update_self (Obj.mapSeq (·.pop)) hL2 rfl
  have oth : ∀ b o, b ≠ L → s.heap.get? b = some o → ((s.heap.update L (Obj.mapSeq (·.push Value.none))).update L (Obj.mapSeq (·.pop))).get? b = some o := fun b o hb e => (Heap.get?_update_other _ _ (Ne.symm hb)).trans ((Heap.get?_update_other _ _ (Ne.symm hb)).trans e)
  refine wpAny_pure ⟨plainId_quiet PySem.F.plain_extend_loop _, zl_loop (s := s) (h0 := s.heap) S D1 D2 W hn res hR _ 0 _ s.toks _ #[] [] rfl (Nat.zero_le _) (zl_keep W D1 D2 st oth) (fun b o q0 _ _ _ _ e => oth b o q0 e) hL3 rfl rfl ⟨List.Pairwise.nil, (fun _ q => nomatch q), fun k a q => by simp at q⟩⟩
theorem zl_call {E : Value → Shared → Prop} {Q : Value → Shared → Prop} (S : ZipSep2 z TI TO i1 i2 fp1 fp2) (D1 : Draws prog w A.in1.in1.in1 i1 fp1 n1 P1 St1) (D2 : Draws prog w A.in1.in1.in1 i2 fp2 n2 P2 St2) (W : ZLow z TI TO s.heap.objs.size fp1 fp2) (hn : min n1 n2 ≤ sizeLine) (st : ZSt z TI TO i1 i2 s.heap.objs.size St1 St2 0 s.heap)
    (hQ : ∀ h' tk acc c as, (∀ b o, b ≠ z → b ≠ TO → b ≠ i1 → b ≠ i2 → s.heap.get? b = some o → h'.get? b = some o) → h'.get? s.heap.objs.size = some { cls := .type "list", dict := none, data := .seq acc c, slots := #[] } → as.length = min n1 n2 → ZGo P1 P2 s.heap.objs.size h' as → acc.toList = as.map Value.ref → Q (.ref s.heap.objs.size) { s with heap := h', toks := tk }) :
    wpAny (model prog w) A (call (.type "list") [.ref z]) Q E s := by
  refine callType_codes (Q₁ := fun obj t => obj = .ref s.heap.objs.size ∧ t = { s with heap := s.heap.push { cls := .type "list", data := .seq #[] } }) PySem.F.called_list (PySem.F.typeCall_list_1 _) PySem.F.entry_list_init
    (code_list_new _ ⟨rfl, rfl⟩) fun obj t ht => ?_
  obtain ⟨rfl, rfl⟩ := ht
  have hL : (s.heap.push { cls := .type "list", data := .seq #[] }).get? s.heap.objs.size = some { cls := .type "list", data := .seq #[] } := Heap.get?_push_size _ rfl
  refine ⟨⟨_, hL, rfl⟩, PySem.F.args_list_init_2 _ _, ?_⟩
  show wpAny _ _ (do let old ← Builtin.List.listItems (.ref s.heap.objs.size); Builtin.List.listUpdate (.ref s.heap.objs.size) (fun _ => #[]); letGo old.toList.reverse; Builtin.List.listExtendWith (.ref s.heap.objs.size) (.ref z) .none) _ _ _
  refine wpAny_bind ?_
  unfold Builtin.List.listItems
  refine wpAny_bind (wpAny_seqItems hL rfl (wpAny_pure ?_))
  show wpAny _ _ (updateSeq s.heap.objs.size (fun _ => #[]) >>= fun _ => letGo (#[] : Array Value).toList.reverse >>= fun _ => Builtin.List.listExtendWith (.ref s.heap.objs.size) (.ref z) .none) _ _ _
  refine wpAny_bind (wpAny_updateSeq hL rfl ?_)
  have hL2 := Heap.get?_update_self (Obj.mapSeq (fun _ => (#[] : Array Value))) hL rfl
  have oth : ∀ b o, b ≠ s.heap.objs.size → s.heap.get? b = some o → ((s.heap.push { cls := .type "list", data := .seq #[] }).update s.heap.objs.size (Obj.mapSeq (fun _ => (#[] : Array Value)))).get? b = some o :=
    fun b o hb e => (Heap.get?_update_other _ _ (Ne.symm hb)).trans (Heap.get?_push_of_some _ e)
  refine wpAny_bind (wpAny_letGo ?_)
  refine zl_extend (A := A.in1) S D1 D2 W hn .none _ (zl_keep W D1 D2 st oth) hL2 fun h' tk acc c as hk hL' hl G hacc => ?_
  exact ⟨rfl, hQ h' tk acc c as (fun b o q1 q2 q3 q4 e => hk b o (Nat.ne_of_lt (Heap.lt_size e)) q1 q2 q3 q4 (oth b o (Nat.ne_of_lt (Heap.lt_size e)) e)) hL' hl G hacc⟩
end
end Rg
namespace Rg
open PySem PySem.Spec PyProof.Rows L2
/-! ### x in a tuple of data -/
section
variable {X : Cx}
def rInDT (K : PySem.W.Frag) : R2 := fun x y Hh Qq => ∃ dx dxs, Dp K Hh x dx ∧ Dp K Hh y (.tuple dxs) ∧ SeqAt.shaped dx = true ∧ SeqAt.shaped (.tuple dxs) = true ∧ Qq (.bl (dxs.any fun z => PyData.eqv z dx)) Hh
theorem op_inDT (hu : X.A.units + 65 < cLine) : OpR X (compareOp .In) (rInDT X.K) := by
  intro pns s σs Hh x y v u Qq Iv rlx rly h
  obtain ⟨dx, dxs, hdx, hdy, sx, sy, qq⟩ := h
  obtain ⟨as, rd1⟩ := Dp.reads Iv dx x v hdx rlx
  obtain ⟨bs, rd2⟩ := Dp.reads Iv (.tuple dxs) y u hdy rly
  exact SeqAt.in_tuple_reads rd2 rd1 (SeqAt.canLay_of_shaped sy) (SeqAt.canLay_of_shaped sx) (room_in_shaped sx hu) ⟨.bl _, Hh, Iv, rfl, qq⟩
end
end Rg
namespace Rg
open PySem PySem.Spec PyProof.Rows L2
/-! ### list(zip(x, y)), by the hand layer -/
/-- pairs tracked at their addresses -/
def putZ : Hp → List Addr → List (V × V) → Hp
  | H, a :: as, q :: qs => putZ (upd H a (.tup [q.1, q.2])) as qs
  | H, _, _ => H
theorem putZ_off {b : Addr} : ∀ (as : List Addr) (qs : List (V × V)) (H : Hp), b ∉ as → putZ H as qs b = H b
  | [], _, _, _ => rfl
  | _ :: _, [], _, _ => rfl
  | a :: as, q :: qs, H, h => by
    show putZ (upd H a (.tup [q.1, q.2])) as qs b = H b
    rw [putZ_off as qs _ (fun m => h (List.mem_cons_of_mem _ m)), upd_ne (fun m => h (by rw [m]; exact List.mem_cons_self))]
/-- where pairs stand -/
def PairsAt (H : Hp) : List Addr → List (V × V) → Prop := Paired fun (t : Addr) (q : V × V) => H t = some (.tup [q.1, q.2])
theorem putZ_at : ∀ (as : List Addr) (qs : List (V × V)) (H : Hp), as.length = qs.length → as.Nodup → PairsAt (putZ H as qs) as qs
  | [], [], _, _, _ => .nil
  | [], _ :: _, _, h, _ => by cases h
  | _ :: _, [], _, h, _ => by cases h
  | a :: as, q :: qs, H, h, hn => by
    have hn' := List.nodup_cons.mp hn
    refine .cons ?_ (putZ_at as qs (upd H a (.tup [q.1, q.2])) (Nat.succ.inj h) hn'.2)
    show putZ (upd H a (.tup [q.1, q.2])) as qs a = some (.tup [q.1, q.2])
    rw [putZ_off as qs _ hn'.1, upd_same]
theorem pairs_get {H : Hp} : ∀ {as : List Addr} {qs : List (V × V)}, PairsAt H as qs → ∀ {i : Nat} {a : Addr}, as[i]? = some a → ∃ q, qs[i]? = some q ∧ H a = some (.tup [q.1, q.2])
  | _, _, .nil, i, x, h => by cases h
  | _, _, .cons r t, 0, x, h => by
    cases h
    exact ⟨_, rfl, r⟩
  | _, _, .cons r t, i + 1, x, h => pairs_get t h
theorem pairs_mem {H : Hp} {as : List Addr} {qs : List (V × V)} (h : PairsAt H as qs) {a : Addr} (m : a ∈ as) : ∃ (i : Nat) (q : V × V), as[i]? = some a ∧ qs[i]? = some q ∧ H a = some (.tup [q.1, q.2]) := by
  obtain ⟨i, hi⟩ := List.mem_iff_getElem?.mp m
  obtain ⟨q, e1, e2⟩ := pairs_get h hi
  exact ⟨i, q, hi, e1, e2⟩
theorem refs_vals : ∀ as : List Addr, Vals (as.map V.ref) (as.map Value.ref)
  | [] => .nil
  | _ :: as => .cons rfl (refs_vals as)
theorem zip_get {α β : Type} : ∀ {xs : List α} {ys : List β} {i : Nat} {q : α × β}, (xs.zip ys)[i]? = some q → xs[i]? = some q.1 ∧ ys[i]? = some q.2
  | [], _, i, q, h => by simp at h
  | _ :: _, [], i, q, h => by simp at h
  | x :: xs, y :: ys, 0, q, h => by
    have e : (x, y) = q := by simpa using h
    subst e
    exact ⟨rfl, rfl⟩
  | x :: xs, y :: ys, i + 1, q, h => by
    have h' : (xs.zip ys)[i]? = some q := by simpa using h
    simpa using zip_get h'
theorem zip_laid {X : Cx} {pins : List (Addr × Obj)} {σ : L2.St} {H : Hp} {s : Shared} {h' : Heap} {tk : Nat} {xs ys : List V} {is js : List Value} {acc : Array Value} {c : Nat} {as : List Addr} {L : Addr} (I : Inv X pins σ H s) (hx : Vals xs is) (hy : Vals ys js) (hz : xs.length ≤ sizeLine) (above : s.heap.objs.size ≤ L)
    (keep : ∀ b o, s.heap.get? b = some o → h'.get? b = some o) (hL : h'.get? L = some { cls := .type "list", dict := none, data := .seq acc c, slots := #[] }) (len : as.length = min is.toArray.size js.toArray.size) (G : ZGo (fun i v => is.toArray[i]? = some v) (fun i v => js.toArray[i]? = some v) L h' as) (full : acc.toList = as.map Value.ref) :
    ∃ H' : Hp, Same H H' ∧ H L = none ∧ (∀ t ∈ as, H t = none) ∧ H' L = some (.lst (as.map V.ref)) ∧ PairsAt H' as (xs.zip ys) ∧ Inv X pins σ H' { s with heap := h', toks := tk } := by
  have l1 := hx.length
  have l2 := hy.length
  have lz : as.length = (xs.zip ys).length := by rw [List.length_zip, len]; simp only [List.size_toArray]; omega
  have nL : L ∉ as := fun m => Nat.lt_irrefl _ (G.hi _ m)
  have nd : as.Nodup := List.Pairwise.imp (fun {a b} (h : a < b) => Nat.ne_of_lt h) G.up
  have fresh : ∀ t ∈ as, H t = none := fun t m => I.hok.fresh (Nat.le_trans above (Nat.le_of_lt (G.hi t m)))
  have freshL : H L = none := I.hok.fresh above
  have at_ := putZ_at as (xs.zip ys) (upd H L (.lst (as.map V.ref))) lz nd
  have off : ∀ b, b ∉ as → b ≠ L → putZ (upd H L (.lst (as.map V.ref))) as (xs.zip ys) b = H b := fun b m n => by rw [putZ_off as _ _ m, upd_ne n]
  have low : ∀ b o, s.heap.get? b = some o → b ∉ as ∧ b ≠ L := fun b o e => ⟨fun m => absurd (Heap.lt_size e) (Nat.not_lt.mpr (Nat.le_trans above (Nat.le_of_lt (G.hi b m)))), Nat.ne_of_lt (Nat.lt_of_lt_of_le (Heap.lt_size e) above)⟩
  have kp : ∀ b u, H b = some u → (putZ (upd H L (.lst (as.map V.ref))) as (xs.zip ys)) b = some u := fun b u e => by
    rw [off b (fun m => by rw [fresh b m] at e; cases e) (fun m => by rw [m, freshL] at e; cases e)]
    exact e
  have eL : putZ (upd H L (.lst (as.map V.ref))) as (xs.zip ys) L = some (.lst (as.map V.ref)) := by rw [putZ_off as _ _ nL, upd_same]
  refine ⟨putZ (upd H L (.lst (as.map V.ref))) as (xs.zip ys), kp, freshL, fresh, eL, at_, ?_⟩
  refine I.call' (ch := []) rfl ⟨fun b o q _ _ _ => keep b o q, fun b o q _ _ _ => ⟨o.slots, keep b o q⟩, fun b o q n _ => ?_, fun b o q _ => ⟨o, keep b o q⟩, fun b us q => kp b _ q, fun b o u q => kp b _ q, fun b ps q => ⟨#[], by rw [kp b _ q]; simp⟩⟩ (fun b u q => ?_) I.bare fun b m => by simp at m
  · obtain ⟨m1, m2⟩ := low b o q
    rw [off b m1 m2]
    exact n
  · by_cases m : b ∈ as
    · obtain ⟨i, p, e1, e2, e3⟩ := pairs_mem at_ m
      rw [e3] at q
      cases q
      obtain ⟨x, y⟩ := p
      obtain ⟨f1, f2⟩ := zip_get e2
      obtain ⟨u, v, pu, pv, hT⟩ := G.each i b e1
      obtain ⟨u', hu, ru⟩ := hx.get f1
      obtain ⟨v', hv, rv⟩ := hy.get f2
      have eu : u' = u := by rw [List.getElem?_toArray, hu] at pu; exact Option.some.inj pu
      have ev : v' = v := by rw [List.getElem?_toArray, hv] at pv; exact Option.some.inj pv
      subst eu ev
      exact ⟨by show 2 ≤ sizeLine; decide, [u', v'], .cons ru (.cons rv .nil), ⟨_, hT, rfl, _, rfl⟩⟩
    · by_cases m2 : b = L
      · rw [m2] at q ⊢
        rw [eL] at q
        cases q
        refine ⟨by rw [List.length_map, lz, List.length_zip]; omega, acc.toList, c, by rw [full]; exact refs_vals as, ?_⟩
        rw [Array.toArray_toList]
        exact hL
      · rw [off b m m2] at q
        exact (I.hok b u q).stay (fun d v _ y => keep d v y) (fun d y => kp d _ y) fun d us y => kp d _ y
section
variable {X : Cx}
/-- two lists, or two tuples -/
def Seq2 (K : PySem.W.Frag) (H : Hp) (a b : Addr) (xs ys : List V) : Prop := (SqL K H a xs ∧ SqL K H b ys) ∨ (SqT K H a xs ∧ SqT K H b ys)
def tLZip (K : PySem.W.Frag) (ta : TA) : TE := fun σ H Q => ta σ H fun vs H1 => ∃ (a b : Addr) (xs ys : List V), vs = [.ref a, .ref b] ∧ Seq2 K H1 a b xs ys ∧
  ∀ (p : Addr) (ts : List Addr) (H' : Hp), Same H1 H' → H1 p = none → (∀ t ∈ ts, H1 t = none) → H' p = some (.lst (ts.map V.ref)) → PairsAt H' ts (xs.zip ys) → Q (.ref p) H'
theorem pe_listZip {e e2 : Expr} {ta : TA} {p p2 pos2 pos : Pos} (calm : X.calm = true) (gl : Gl X "list") (ml : X.mg "list" = none) (gz : Gl X "zip") (mz : X.mg "zip" = none) (ha : PA X [e, e2] ta)
    (st : starEach [.Call (.Name "zip" p2) [e, e2] [] pos2] X.env = (false, eval (.Call (.Name "zip" p2) [e, e2] [] pos2) X.env) :: starEach [] X.env := by rfl)
    (st2 : starEach [e, e2] X.env = (false, eval e X.env) :: starEach [e2] X.env := by rfl) (pl2 : (backTo pos2 (starEach [e2] X.env)).any (·.1) = false := by rfl) :
    PE X (.Call (.Name "list" p) [.Call (.Name "zip" p2) [e, e2] [] pos2] [] pos) (tLZip X.K ta) := by
  refine ⟨fun pins s σ H Q I h => ?_⟩
  refine wpAny_Call_Name_kw (ld_blt I gl ml (by decide +kernel : bootBuiltins "list" = some (.type "list")) ?_)
  refine PyProof.Rows.callWith_type1 ?_ st rfl
  rw [st]
  show wpAny _ _ (spliced ((false, eval (.Call (.Name "zip" p2) [e, e2] [] pos2) X.env) :: backTo pos (starEach [] X.env))) _ _ s
  refine Calls.spliced_cons ?_
  refine wpAny_Call_Name_kw (ld_blt I gz mz PyProof.Rows.boot_zip ?_)
  refine PyProof.Rows.callWith_type1 (thn (ha.run pos2 pins s σ H _ I h) fun us s1 ⟨vs, H1, I1, r1, q1⟩ => ?_) st2 pl2
  obtain ⟨a, b, xs, ys, ex, sq, q⟩ := q1
  subst ex
  cases r1 with
  | cons r rr =>
    cases rr with
    | cons r' rr =>
      cases rr
      cases r
      cases r'
      have clear := I1.ok.hd calm
      have fin : ∀ {is js : List Value} {St1 St2 : Nat → Heap → Prop} {h' : Heap}, Vals xs is → Vals ys js → xs.length ≤ sizeLine → ys.length ≤ sizeLine → a < s1.heap.objs.size → b < s1.heap.objs.size →
          Draws X.prog X.w X.A.in1.in1.in1 s1.heap.objs.size [s1.heap.objs.size, a] is.toArray.size (fun i v => is.toArray[i]? = some v) St1 → Draws X.prog X.w X.A.in1.in1.in1 (s1.heap.objs.size + 1) [s1.heap.objs.size + 1, b] js.toArray.size (fun i v => js.toArray[i]? = some v) St2 →
          IsZip h' (s1.heap.objs.size + 4) (s1.heap.objs.size + 2) (s1.heap.objs.size + 3) .none → IsPair h' (s1.heap.objs.size + 2) (.ref s1.heap.objs.size) (.ref (s1.heap.objs.size + 1)) → IsPair h' (s1.heap.objs.size + 3) .none .none → St1 0 h' → St2 0 h' → h'.objs.size = s1.heap.objs.size + 5 →
          (∀ c o, s1.heap.get? c = some o → h'.get? c = some o) → wpAny (model X.prog X.w) X.A (spliced (backTo pos (starEach [] X.env))) (fun vs s₁ => wpAny (model X.prog X.w) X.A (call (.type "list") (.ref (s1.heap.objs.size + 4) :: vs)) (EP X pins σ Q) X.xe s₁) X.xe { s1 with heap := h' } := by
        intro is js St1 St2 h' rx ry zx zy la lb D1 D2 hz hTI hTO t1 t2 size keep
        refine Calls.spliced_nil ?_
        have S := zip_sep2 (N := s1.heap.objs.size) (fp1 := [a]) (fp2 := [b]) (fun c m => by rw [List.mem_singleton.mp m]; exact la) (fun c m => by rw [List.mem_singleton.mp m]; exact lb)
        have lx := rx.length
        have W : ZLow (s1.heap.objs.size + 4) (s1.heap.objs.size + 2) (s1.heap.objs.size + 3) h'.objs.size [s1.heap.objs.size, a] [s1.heap.objs.size + 1, b] := by
          rw [size]
          refine ⟨show (s1.heap.objs.size + 4 : Nat) < s1.heap.objs.size + 5 by omega, show (s1.heap.objs.size + 2 : Nat) < s1.heap.objs.size + 5 by omega, show (s1.heap.objs.size + 3 : Nat) < s1.heap.objs.size + 5 by omega, fun c m => ?_, fun c m => ?_⟩
          · rcases List.mem_cons.mp m with e | m
            · rw [e]; exact show (s1.heap.objs.size : Nat) < s1.heap.objs.size + 5 by omega
            · rw [List.mem_singleton.mp m]; exact Nat.lt_of_lt_of_le la (Nat.le_add_right _ _)
          · rcases List.mem_cons.mp m with e | m
            · rw [e]; exact show (s1.heap.objs.size + 1 : Nat) < s1.heap.objs.size + 5 by omega
            · rw [List.mem_singleton.mp m]; exact Nat.lt_of_lt_of_le lb (Nat.le_add_right _ _)
        refine zl_call (s := { s1 with heap := h' }) S D1 D2 W (Nat.le_trans (Nat.min_le_left _ _) (by simp only [List.size_toArray]; omega)) ⟨hTI, t1, t2, .inl ⟨hz, _, _, hTO⟩⟩ fun h2 tk acc c as hk hL len G full => ?_
        have keep2 : ∀ b o, s1.heap.get? b = some o → h2.get? b = some o := fun d o x => by
          have l := Heap.lt_size x
          exact hk d o (Nat.ne_of_lt (Nat.lt_of_lt_of_le l (Nat.le_add_right _ _))) (Nat.ne_of_lt (Nat.lt_of_lt_of_le l (Nat.le_add_right _ _))) (Nat.ne_of_lt l) (Nat.ne_of_lt (Nat.lt_of_lt_of_le l (Nat.le_add_right _ _))) (keep d o x)
        obtain ⟨H', k1, k2, k3, k4, k5, J⟩ := zip_laid (tk := tk) I1 rx ry zx (by show s1.heap.objs.size ≤ h'.objs.size; rw [size]; exact Nat.le_add_right _ _) keep2 hL len G full
        exact ⟨.ref _, H', J, rfl, q _ as H' k1 k2 k3 k4 k5⟩
      rcases sq with ⟨hx, hy⟩ | ⟨hx, hy⟩
      · obtain ⟨is, rx, p1, zx⟩ := I1.list hx
        obtain ⟨js, ry, p2, zy⟩ := I1.list hy
        have d1 : Draws X.prog X.w X.A.in1.in1.in1 s1.heap.objs.size [s1.heap.objs.size, a] is.toArray.size (fun i v => is.toArray[i]? = some v) (fun j h => h.IsListIter s1.heap.objs.size a j ∧ h.IsList a is.toArray) := Draws.list (A := X.A.in1.in1.in1) clear _ a (Nat.ne_of_lt p1.lt) _
        have d2 : Draws X.prog X.w X.A.in1.in1.in1 (s1.heap.objs.size + 1) [s1.heap.objs.size + 1, b] js.toArray.size (fun i v => js.toArray[i]? = some v) (fun j h => h.IsListIter (s1.heap.objs.size + 1) b j ∧ h.IsList b js.toArray) := Draws.list (A := X.A.in1.in1.in1) clear _ b (Nat.ne_of_lt (Nat.lt_succ_of_lt p2.lt)) _
        refine call_zip_2 p1.isList p2.isList fun h' hz hTI hTO h1 h2 size keep => fin rx ry zx zy p1.lt p2.lt d1 d2 hz hTI hTO ⟨h1, p1.isList.at fun o e => keep _ o e⟩ ⟨h2, p2.isList.at fun o e => keep _ o e⟩ size keep
      · obtain ⟨is, rx, p1, zx⟩ := I1.tuple hx
        obtain ⟨js, ry, p2, zy⟩ := I1.tuple hy
        have la : a < s1.heap.objs.size := by obtain ⟨o1, ho1, _⟩ := id p1; exact Heap.lt_size ho1
        have lb : b < s1.heap.objs.size := by obtain ⟨o1, ho1, _⟩ := id p2; exact Heap.lt_size ho1
        have g1 : s1.heap.IsTuple a is.toArray := p1
        have g2 : s1.heap.IsTuple b js.toArray := p2
        have d1 : Draws X.prog X.w X.A.in1.in1.in1 s1.heap.objs.size [s1.heap.objs.size, a] is.toArray.size (fun i v => is.toArray[i]? = some v) (fun j h => h.IsTupleIter s1.heap.objs.size a j ∧ h.IsTuple a is.toArray) := draws_tup (A := X.A.in1.in1.in1) clear _ a (Nat.ne_of_lt la) _
        have d2 : Draws X.prog X.w X.A.in1.in1.in1 (s1.heap.objs.size + 1) [s1.heap.objs.size + 1, b] js.toArray.size (fun i v => js.toArray[i]? = some v) (fun j h => h.IsTupleIter (s1.heap.objs.size + 1) b j ∧ h.IsTuple b js.toArray) := draws_tup (A := X.A.in1.in1.in1) clear _ b (Nat.ne_of_lt (Nat.lt_succ_of_lt lb)) _
        refine RZ.call_zipT g1 g2 fun h' hz hTI hTO h1 h2 size keep => fin rx ry zx zy la lb d1 d2 hz hTI hTO ⟨h1, tup_at g1 fun o e => keep _ o e⟩ ⟨h2, tup_at g2 fun o e => keep _ o e⟩ size keep
/-! ### for .. in (x if c else y) -/
def iIf (tA : TT) (wa wb : TI) : TI := fun σ H R => tA σ H fun d H1 => if d = true then wa σ H1 R else wb σ H1 R
theorem pi_ifExp {c a b tg : Expr} {pos : Pos} {tA : TT} {wa wb : TI} (hc : PT X c tA) (ha : PI X tg a wa) (hb : PI X tg b wb) : PI X tg (.IfExp c a b pos) (iIf tA wa wb) := by
  refine ⟨fun pins s σ H R I h => ?_⟩
  refine wpAny_IfExp (thn (hc.run pins s σ H _ I h) fun d s1 ⟨H1, I1, q1⟩ => ?_)
  cases d with
  | true => exact ha.run pins s1 σ H1 R I1 q1
  | false => exact hb.run pins s1 σ H1 R I1 q1
/-! ### x not in a tuple of data -/
def rNotInDT (K : PySem.W.Frag) : R2 := fun x y Hh Qq => ∃ dx dxs, Dp K Hh x dx ∧ Dp K Hh y (.tuple dxs) ∧ SeqAt.shaped dx = true ∧ SeqAt.shaped (.tuple dxs) = true ∧ Qq (.bl (!dxs.any fun z => PyData.eqv z dx)) Hh
theorem op_notInDT (hu : X.A.units + 65 < cLine) : OpR X (compareOp .NotIn) (rNotInDT X.K) := by
  intro pns s σs Hh x y v u Qq Iv rlx rly h
  obtain ⟨dx, dxs, hdx, hdy, sx, sy, qq⟩ := h
  obtain ⟨as, rd1⟩ := Dp.reads Iv dx x v hdx rlx
  obtain ⟨bs, rd2⟩ := Dp.reads Iv (.tuple dxs) y u hdy rly
  exact SeqAt.notIn_tuple_reads rd2 rd1 (SeqAt.canLay_of_shaped sy) (SeqAt.canLay_of_shaped sx) (room_in_shaped sx hu) ⟨.bl _, Hh, Iv, rfl, qq⟩
end
end Rg
namespace K
open PySem L2 Rg
open Evl (pss_cut)
/-- each from 1 to m -/
def Bd (m : Int) (ls : List Int) : Prop := ∀ x ∈ ls, 1 ≤ x ∧ x ≤ m
theorem Bd.snoc {m x : Int} {ls : List Int} (h : Bd m ls) (h1 : 1 ≤ x) (h2 : x ≤ m) : Bd m (ls ++ [x]) := fun y hy => by
  rcases List.mem_append.mp hy with z | z
  · exact h y z
  · rw [List.mem_singleton.mp z]
    exact ⟨h1, h2⟩
theorem Bd.le {m k : Int} {ls : List Int} (h : Bd m ls) (hk : m ≤ k) : Bd k ls := fun x hx => ⟨(h x hx).1, by have := (h x hx).2; omega⟩
theorem Bd.set {m x : Int} {ls : List Int} {i : Nat} (h : Bd m ls) (h1 : 1 ≤ x) (h2 : x ≤ m) : Bd m (ls.set i x) := fun y hy => by
  rcases List.mem_or_eq_of_mem_set hy with z | z
  · exact h y z
  · rw [z]; exact ⟨h1, h2⟩
theorem Bd.sum {m : Int} : ∀ {ls : List Int}, Bd m ls → (ls.length : Int) ≤ ls.sum ∧ ls.sum ≤ m * ls.length
  | [], _ => by simp
  | x :: ls, h => by
    have ih := Bd.sum (m := m) (ls := ls) fun y hy => h y (List.mem_cons_of_mem _ hy)
    have hx := h x (List.mem_cons_self ..)
    rw [List.sum_cons, List.length_cons]
    have e : m * ((ls.length + 1 : Nat) : Int) = m * ls.length + m := by push_cast; rw [Int.mul_add, Int.mul_one]
    rw [e]
    push_cast
    omega
theorem ixN_at {n : Nat} {r : Int} (h0 : 0 ≤ r) (h1 : r < n) : ixN n r = some r.toNat := by
  unfold ixN
  rw [if_pos h0, if_pos h1]
theorem int_get {ls : List Int} {i : Nat} (h : i < ls.length) : (ls.map V.int)[i]? = some (V.int ls[i]) := by
  rw [List.getElem?_map, List.getElem?_eq_getElem h]; rfl
theorem set_map (ls : List Int) (i : Nat) (x : Int) : (ls.map V.int).set i (V.int x) = (ls.set i x).map V.int := by
  rw [List.map_set]
theorem erase_sum : ∀ {ls : List Int} {i : Nat} (h : i < ls.length), (ls.eraseIdx i).sum = ls.sum - ls[i]
  | x :: ls, 0, h => by simp [List.sum_cons]; omega
  | x :: ls, i + 1, h => by
    have h' : i < ls.length := by simpa using h
    have ih := erase_sum h'
    rw [List.eraseIdx_cons_succ, List.sum_cons, List.sum_cons, ih, List.getElem_cons_succ]
    omega
theorem abs_sum {m : Int} (hm : 0 ≤ m) : ∀ {ls : List Int}, (∀ x ∈ ls, -m ≤ x ∧ x ≤ m) → -(m * ls.length) ≤ ls.sum ∧ ls.sum ≤ m * ls.length
  | [], _ => by simp
  | x :: ls, h => by
    have ih := abs_sum hm (ls := ls) fun y hy => h y (List.mem_cons_of_mem _ hy)
    have hx := h x (List.mem_cons_self ..)
    have e : m * ((ls.length + 1 : Nat) : Int) = m * ls.length + m := by push_cast; rw [Int.mul_add, Int.mul_one]
    rw [List.sum_cons, List.length_cons, e]
    omega
section
variable {P : Program} {w : World} {K : PySem.W.Frag} {mg : Str → Option Value} {base : Heap}
def spLengths (K : PySem.W.Frag) : Sp := fun vs H Q _ => ∃ (p : Addr) (e : Addr × List Int) (m n : Nat), vs = [.ref p, .int (m : Nat)] ∧ 3 ≤ m ∧ m ≤ 8 ∧ n < 800000 ∧ PenAt K H p e n ∧
  ∀ (l : Addr) (ls : List Int) (H' : Hp), ls.length = m → Bd 1000000 ls → H l = none → But p H H' → H' l = some (.lst (ls.map V.int)) → PenAt K H' p e (n + 12) → Q (.ref l) H'
abbrev nLengths : List Str := ["_law_bench_here", "_law_many", "_law_way", "_law_most", "_law_found", "_law_at", "_law_bar"]
theorem scLengths : FnScope nLengths ["_law_bench_here", "_law_many"] (defScope sLwLengths) := ⟨rfl, rfl, rfl, by decide +kernel, rfl, by decide +kernel, by decide +kernel⟩
theorem put_bd {ls : List Int} {m i : Nat} {most r : Int} (h : ls.length = m) (h3 : 3 ≤ m) (h8 : m ≤ 8) (bd : Bd most ls) (mm : most * m ≤ 1000000) (hi : i < ls.length) (r0 : 0 ≤ r) (r3 : r < 3) : ls.sum - ls[i] + r - 1 ≤ 1000000 := by
  have e := Bd.sum (m := most) (ls := ls.eraseIdx i) fun y hy => bd y (List.mem_of_mem_eraseIdx hy)
  rw [erase_sum hi, List.length_eraseIdx_of_lt hi, h] at e
  have b := bd _ (List.getElem_mem hi)
  have c : most * ((m - 1 : Nat) : Int) = most * m - most := by
    rw [show ((m - 1 : Nat) : Int) = (m : Int) - 1 by omega, Int.mul_sub, Int.mul_one]
  omega
theorem ok_lengths {f fD : Addr} {fd fdD : FuncData} (F : Fun K "_law_lengths" "_law_lengths" sLwLengths f fd) (T : Bi mg) (D : DrawAt P w K mg base fD fdD) : FnOk P w K mg base CX0 3 f fd ["_law_bench_here", "_law_many"] (spLengths K) := by
  refine F.ok scLengths (fun vs H Q E h => ?_) (fun cdv A outer s H vs Q E hr h => ?_)
  · obtain ⟨p, e, m, n, rfl, _⟩ := h
    rfl
  · have nd := scLengths.nd
    refine ⟨_, pss_cons (ps_set (i := 2) nd rfl (Or.inl rfl) (pe_call D.ok hr rfl D.g D.kp D.b .nil pass0 (pa_cons (pv 0) (pa_cons pe_int pa_nil))))
      (pss_cut (ps_set (i := 3) nd rfl (Or.inr rfl) (pe_ifExp (pt_cmpR op_lt (pv 2) pe_int (nomark _)) pe_int (pe_ifExp (pt_cmpR op_lt (pv 2) pe_int (nomark _)) pe_int (pe_op op_fdiv (pe_op op_pow pe_int pe_int) (pv 1)))))
      (pss_cons (ps_setLc (i := 4) (own := [("_law_bar", 6)]) (g := gName 6) rfl nd rfl rfl (sw_true rfl rfl rfl (by decide +kernel)) (pi_range1 (by rfl) T.range (pa_cons (pv 1) pa_nil)) (blkOk_by (N := nLengths) (sc := defScope sLwLengths) (by decide +kernel))
        (fun _ _ _ _ _ => pg_name (i := 6) nd rfl (Or.inl rfl)) (fun _ _ _ _ _ => pts_nil) (fun _ _ _ _ _ => pe_op op_add pe_int (pe_call D.ok hr rfl D.g D.kp D.b .nil pass0 (pa_cons (pv 0) (pa_cons (pv 3) pa_nil)))))
      (pss_cut (ps_if (pt_cmpR op_eq (pe_call D.ok hr rfl D.g D.kp D.b .nil pass0 (pa_cons (pv 0) (pa_cons pe_int pa_nil))) pe_int (nomark _))
        (pss_cons (ps_set (i := 5) nd rfl (Or.inl rfl) (pe_call D.ok hr rfl D.g D.kp D.b .nil pass0 (pa_cons (pv 0) (pa_cons (pv 1) pa_nil))))
        (pss_cons (ps_asg (pe_op op_sub (pe_op op_add (pe_op op_sub (pe_callB (cr_sum rfl) (by rfl) T.sum (by decide +kernel) (pa_cons (pv 4) pa_nil)) (pe_ix ix_list (pv 4) (pv 5) (fun _ _ => rfl))) (pe_call D.ok hr rfl D.g D.kp D.b .nil pass0 (pa_cons (pv 0) (pa_cons pe_int pa_nil)))) pe_int) (pg_sub (pv 4) (pv 5) set_list))
        (pss_one (ps_asg (pe_callB (call_max2 rfl) (by rfl) T.max (by decide +kernel) (pa_cons pe_int (pa_cons (pe_ix ix_list (pv 4) (pv 5) (fun _ _ => rfl)) pa_nil))) (pg_sub (pv 4) (pv 5) set_list))))) pss_nil)
      (pss_one (ps_ret (pv 4)))))), ?_⟩
    obtain ⟨p, e, m, n, rfl, m3, m8, hn, pen, k⟩ := h
    refine ⟨_, rfl, p, e, 8, n, rfl, by decide, by decide, by omega, pen, fun r1 H1 r1a r1b b1 pen1 => ?_⟩
    refine ⟨fun σ' H' => ∃ most : Int, 1 ≤ most ∧ most * m ≤ 1000000 ∧ σ' = [some (.ref p), some (.int (m : Nat)), some (.int r1), some (.int most), none, none, none] ∧ H' = H1, ?_, ?_⟩
    · refine ⟨_, rfl, _, _, rfl, rfl, _, rfl, ?_⟩
      refine ite2 (fun c => ⟨9, by decide, by omega, rfl, rfl⟩) (fun c => ?_)
      refine ⟨_, rfl, _, _, rfl, rfl, _, rfl, ?_⟩
      refine ite2 (fun c => ⟨3, by decide, by omega, rfl, rfl⟩) (fun c => ?_)
      have pw : CPow 10 6 := ⟨by decide, by decide, by decide⟩
      refine ⟨_, _, rfl, rfl, pw, _, rfl, _, _, rfl, rfl, ⟨by omega, by omega⟩, ?_⟩
      refine ⟨_, ?_, ?_, rfl, rfl⟩
      · show 1 ≤ (10 : Int) ^ (6 : Int).toNat / (m : Int)
        exact Int.le_ediv_of_mul_le (by omega) (by show 1 * (m : Int) ≤ 1000000; omega)
      · exact Int.ediv_mul_le _ (by omega)
    rintro σ' H' ⟨most, mo1, mom, rfl, rfl⟩
    have mo6 : most ≤ 1000000 := by
      have := Int.mul_le_mul_of_nonneg_left (show (1 : Int) ≤ m by omega) (show 0 ≤ most by omega)
      omega
    refine ⟨_, rfl, _, rfl, by omega, by omega, fun D0 hD => ?_⟩
    have hDp : D0 ≠ p := pen1.ne hD
    have hD0 : H D0 = none := b1.free hDp hD
    refine lc_range (lo := 0) (n := ((m : Nat) : Int).toNat) (fun i H' => ∃ ls : List Int, ls.length = i ∧ Bd most ls ∧ H' D0 = some (.lst (ls.map V.int)) ∧ But p H H' ∧ PenAt K H' p e (n + 1 + i)) ⟨[], rfl, fun x hx => (by cases hx), upd_same, b1.mut hD0, pen.mut pen1 b1 hD0⟩ ?_ ?_
    · rintro i H' hi ⟨ls, ll, bd, hd, b, pen'⟩
      rw [Int.toNat_natCast] at hi
      refine ⟨rfl, _, rfl, _, rfl, p, e, most, n + 1 + i, rfl, mo1, mo6, by omega, pen', fun r H4 q0 q1 b4 pen4 => ⟨_, _, rfl, rfl, _, b4 D0 _ hDp hd, szl (by rw [List.length_map]; omega), ls ++ [1 + r], by rw [List.length_append, ll]; rfl, bd.snoc (by omega) (by omega), ?_, (b.trans b4).mut hD0, pen.mut pen4 (b.trans b4) hD0⟩⟩
      rw [List.map_append]
      exact upd_same
    rintro H2 ⟨ls, ll, bd, hd, b2, pen2⟩
    rw [Int.toNat_natCast] at ll pen2
    refine ⟨fun σ' H' => ∃ (z : Option V) (ms : List Int), ms.length = m ∧ Bd 1000000 ms ∧ σ' = [some (.ref p), some (.int (m : Nat)), some (.int r1), some (.int most), some (.ref D0), z, none] ∧ But p H H' ∧ H' D0 = some (.lst (ms.map V.int)) ∧ PenAt K H' p e (n + 12), ?_, ?_⟩
    · refine ⟨_, rfl, p, e, 7, _, rfl, by decide, by decide, by omega, pen2, fun r2 H3 r2a r2b b3 pen3 => ⟨rfl, _, rfl, ?_⟩⟩
      have hd3 := b3 _ _ hDp hd
      have b23 := b2.trans b3
      rw [dec_int]
      refine ite2 (fun c => ?_) (fun c => ?_)
      · refine ⟨_, rfl, _, rfl, p, e, (m : Nat), _, rfl, by omega, by omega, by omega, pen3, fun r3 H4 r3a r3b b4 pen4 => ?_⟩
        have hd4 := b4 _ _ hDp hd3
        have il : r3.toNat < ls.length := by omega
        have gx : atI (ls.map V.int) r3 = some (.int ls[r3.toNat]) := at_of (j := r3.toNat) (by omega) (int_get il)
        refine ⟨_, rfl, D0, ls, rfl, SqL.of hd4, _, rfl, _, rfl, D0, _, _, _, rfl, rfl, SqL.of hd4, gx, _, _, rfl, rfl, _, rfl, p, e, 3, _, rfl, by decide, by decide, by omega, pen4, fun r4 H5 r4a r4b b5 pen5 => ⟨_, _, rfl, rfl, _, _, rfl, rfl, ?_⟩⟩
        have hd5 := b5 _ _ hDp hd4
        have up := put_bd ll m3 m8 bd mom il r4a r4b
        have pen5b := pen5
        obtain ⟨y, hy⟩ : ∃ y : Int, y = ls.sum - ls[r3.toNat] + r4 - 1 := ⟨_, rfl⟩
        refine ⟨_, rfl, _, rfl, D0, _, _, r3.toNat, rfl, rfl, hd5, ixN_at r3a (by rw [List.length_map]; omega), ?_⟩
        have b25 := (b23.trans b4).trans b5
        have h6 : upd H5 D0 (.lst ((ls.map V.int).set r3.toNat (.int (ls.sum - ls[r3.toNat] + r4 - 1)))) D0 = some (.lst ((ls.set r3.toNat y).map V.int)) := by
          rw [upd_same, set_map, hy]
        have b6 : But p H (upd H5 D0 (.lst ((ls.map V.int).set r3.toNat (.int (ls.sum - ls[r3.toNat] + r4 - 1))))) := b25.mut hD0
        have pen6 := pen.mut pen5 b25 hD0 (o := .lst ((ls.map V.int).set r3.toNat (.int (ls.sum - ls[r3.toNat] + r4 - 1))))
        generalize upd H5 D0 (.lst ((ls.map V.int).set r3.toNat (.int (ls.sum - ls[r3.toNat] + r4 - 1)))) = H6 at h6 b6 pen6 ⊢
        have il6 : r3.toNat < (ls.set r3.toNat y).length := by rw [List.length_set]; exact il
        have gx6 : atI ((ls.set r3.toNat y).map V.int) r3 = some (.int y) := at_of (j := r3.toNat) (by omega) (by rw [int_get il6, List.getElem_set_self])
        refine ⟨_, rfl, _, rfl, D0, _, _, _, rfl, rfl, SqL.of h6, gx6, _, _, rfl, _, rfl, _, rfl, D0, _, _, r3.toNat, rfl, rfl, h6, ixN_at r3a (by rw [List.length_map, List.length_set]; omega), ?_⟩
        have mx1 : (1 : Int) ≤ (if y > 1 then y else 1) := by split <;> omega
        have mx2 : (if y > 1 then y else 1) ≤ 1000000 := by split <;> omega
        refine ⟨some (.int r3), (ls.set r3.toNat y).set r3.toNat (if y > 1 then y else 1), by rw [List.length_set, List.length_set]; exact ll, ?_, rfl, b6.mut hD0, by rw [upd_same, set_map], (pen.mut pen6 b6 hD0).mono (by omega)⟩
        rw [List.set_set]
        exact (bd.le mo6).set mx1 mx2
      · exact ⟨none, ls, ll, bd.le mo6, rfl, b23, hd3, pen3.mono (by omega)⟩
    rintro σ' H3 ⟨z, ms, ml, bdm, rfl, b3, h3, pen3⟩
    exact ⟨_, rfl, k D0 ms H3 ml bdm hD0 b3 h3 pen3⟩
end
end K
namespace K
open PySem L2 Rg
open Evl (pss_cut)
/-! ### what a ring tells -/
def sumsOf (ls : List Int) : List Int := ls.foldl (fun s l => s ++ s.map (· + l)) [0]
def levelB (ls : List Int) : Bool := (sumsOf ls).any fun o => decide (2 * o = ls.sum)
def closesB (ls : List Int) : Bool := ls.all fun x => decide (2 * x ≤ ls.sum)
def lsum (ls ns : List Int) : Int := (ns.map fun b => ls.getD b.toNat 0).sum
def sortV (ls ns : List Int) : Str := if 2 * lsum ls ns = ls.sum then "level" else if 2 * lsum ls ns < ls.sum then "short" else "long"
theorem sums_take {ls : List Int} {i : Nat} {z : Int} (h : ls[i]? = some z) : sumsOf (ls.take (i + 1)) = sumsOf (ls.take i) ++ (sumsOf (ls.take i)).map (· + z) := by
  unfold sumsOf
  rw [← take_snoc h, List.foldl_append]
  rfl
theorem sums_len : ∀ (ls : List Int) (i : Nat), i ≤ ls.length → (sumsOf (ls.take i)).length = 2 ^ i
  | ls, 0, _ => rfl
  | ls, i + 1, h => by
    have hz : ls[i]? = some ls[i] := List.getElem?_eq_getElem h
    rw [sums_take hz, List.length_append, List.length_map, sums_len ls i (by omega), Nat.pow_succ]
    omega
theorem closes_max {ls : List Int} {m : Int} (hm : m ∈ ls) (hx : ∀ y ∈ ls, y ≤ m) : decide (2 * m ≤ ls.sum) = closesB ls := by
  unfold closesB
  by_cases c : 2 * m ≤ ls.sum
  · rw [decide_eq_true c]
    refine (List.all_eq_true.mpr fun y hy => decide_eq_true ?_).symm
    have := hx y hy
    omega
  · rw [decide_eq_false c]
    cases e : ls.all fun x => decide (2 * x ≤ ls.sum) with
    | false => rfl
    | true => exact absurd (of_decide_eq_true (List.all_eq_true.mp e m hm)) c
theorem dec_int (a b : Int) : decide (V.int a = V.int b) = decide (a = b) := by
  by_cases e : a = b
  · rw [e]; simp
  · rw [decide_eq_false e, decide_eq_false fun z => e (V.int.inj z)]
theorem all_any (l : List Int) (g : Int → Bool) : (l.map g).any id = l.any g := by
  rw [List.any_map]; rfl
/-- the attributes of a ring, in the order in which __init__ stores them -/
def rf (t : Addr) (ls : List Int) : List (Str × V) := putF "is_clear" (.bl (!levelB ls)) (putF "closes" (.bl (closesB ls)) (putF "total" (.int ls.sum) (putF "lengths" (.ref t) [])))
theorem n1 : ¬ (("lengths" : Str) = "total") := by decide +kernel
theorem n2 : ¬ (("lengths" : Str) = "closes") := by decide +kernel
theorem n3 : ¬ (("lengths" : Str) = "is_clear") := by decide +kernel
theorem n4 : ¬ (("total" : Str) = "closes") := by decide +kernel
theorem n5 : ¬ (("total" : Str) = "is_clear") := by decide +kernel
theorem n6 : ¬ (("closes" : Str) = "is_clear") := by decide +kernel
theorem rf_lengths (t : Addr) (ls : List Int) : (rf t ls).lookup ("lengths" : Str) = some (.ref t) := by
  unfold rf
  rw [lookup_putF, if_neg n3, lookup_putF, if_neg n2, lookup_putF, if_neg n1, lookup_putF, if_pos rfl]
theorem rf_total (t : Addr) (ls : List Int) : (rf t ls).lookup ("total" : Str) = some (.int ls.sum) := by
  unfold rf
  rw [lookup_putF, if_neg n5, lookup_putF, if_neg n4, lookup_putF, if_pos rfl]
theorem rf_closes (t : Addr) (ls : List Int) : (rf t ls).lookup ("closes" : Str) = some (.bl (closesB ls)) := by
  unfold rf
  rw [lookup_putF, if_neg n6, lookup_putF, if_pos rfl]
theorem rf_clear (t : Addr) (ls : List Int) : (rf t ls).lookup ("is_clear" : Str) = some (.bl (!levelB ls)) := by
  unfold rf
  rw [lookup_putF, if_pos rfl]
theorem rf_no (t : Addr) (ls : List Int) {m : Str} (h1 : ¬ m = "lengths") (h2 : ¬ m = "total") (h3 : ¬ m = "closes") (h4 : ¬ m = "is_clear") : (rf t ls).lookup m = none := by
  unfold rf
  rw [lookup_putF, if_neg h4, lookup_putF, if_neg h3, lookup_putF, if_neg h2, lookup_putF, if_neg h1]
  rfl
section
variable {P : Program} {w : World} {K : PySem.W.Frag} {mg : Str → Option Value} {base : Heap}
def RingAt (K : PySem.W.Frag) (C : Addr) (H : Hp) (r : Addr) (ls : List Int) : Prop := ∃ dx t, H r = some (.ins C dx (rf t ls)) ∧ SqT K H t (ls.map V.int) ∧ ∃ o : Obj, H t = some (.frz o (.tup (ls.map V.int))) ∧ o.dict = none
theorem RingAt.same {C : Addr} {H H' : Hp} {r : Addr} {ls : List Int} (h : RingAt K C H r ls) (s : Same H H') : RingAt K C H' r ls := by
  obtain ⟨dx, t, h1, h2, o, h3, h4⟩ := h
  exact ⟨dx, t, s _ _ h1, s.tup h2, o, s _ _ h3, h4⟩
/-- the class Ring as the top has made it -/
structure RingC (K : PySem.W.Frag) (mg : Str → Option Value) (C : Addr) : Prop where
  cl : Cls K C
  nL : NoAttr K C "lengths"
  nT : NoAttr K C "total"
  nC : NoAttr K C "closes"
  nI : NoAttr K C "is_clear"
  g : mg "Ring" = some (.ref C)
  ha : PySem.W.findIn K (.ref C) "__class__" = some (some (.builtin "object.__class__"))
  hn : PySem.W.specialIn K (.builtin "object.__class__") "__get__" = some (some (.builtin "getset_descriptor.__get__"))
  ht : PySem.W.takesIn K (.builtin "object.__class__") = some true
  hm : PySem.W.mroIn K C (.type "object") = some true
structure Nm (mg : Str → Option Value) : Prop where
  mostL : ∃ t, mg "MOST_LENGTH" = some (.int 1000000 t)
  leastB : ∃ t, mg "LEAST_BARS" = some (.int 3 t)
  mostB : ∃ t, mg "MOST_BARS" = some (.int 8 t)
/-! ### are_lengths -/
def spAreL (K : PySem.W.Frag) : Sp := fun vs H Q _ => ∃ (a : Addr) (ls : List Int), vs = [.ref a] ∧ Knd K H (.ref a) "list" ∧ SqL K H a (ls.map V.int) ∧ ls.length ≤ 1000 ∧ Bd 1000000 ls ∧ ∀ H', Same H H' → Q (.bl true) H'
abbrev nAreL : List Str := ["value", "one"]
theorem scAreL : FnScope nAreL ["value"] (defScope sAreLengths) := ⟨rfl, rfl, rfl, by decide +kernel, rfl, by decide +kernel, by decide +kernel⟩
theorem all_true {bs : List Bool} (h : ∀ b ∈ bs, b = true) : bs.all id = true := List.all_eq_true.mpr fun b hb => h b hb
theorem ok_areL {f fW fL : Addr} {fd fdW fdL : FuncData} (F : Fun K "are_lengths" "are_lengths" sAreLengths f fd) (T : Bi mg) (N : Nm mg) (W : DefAt P w K mg base CX0 2 "is_within" ["value", "least", "most"] spWithin fW fdW) (L : DefAt P w K mg base CX0 1 "is_list" ["value"] (spIsList K) fL fdL) : FnOk P w K mg base CX0 3 f fd ["value"] (spAreL K) := by
  refine F.ok scAreL (fun vs H Q E h => ?_) (fun cdv A outer s H vs Q E hr h => ?_)
  · obtain ⟨a, ls, rfl, _⟩ := h
    rfl
  · obtain ⟨tM, hM⟩ := N.mostL
    refine ⟨_, pss_one (ps_ret (pe_and (pe_call L.ok (hr.mono (by decide)) rfl L.g L.kp L.b .nil pass0 (pa_cons (pv 0) pa_nil)) (pe_one (pe_callB (cr_all rfl) (by rfl) T.all (by decide +kernel) (pa_cons (pe_lc (own := [("one", 1)]) (g := gName 1) (tt := tYes) rfl scAreL.nd (pi_list (pv 0))
      (blkOk_by (N := nAreL) (sc := defScope sAreLengths) (by decide +kernel)) (fun _ _ _ _ _ => pg_name (i := 1) scAreL.nd rfl (Or.inl rfl)) (fun _ _ _ _ _ => pts_nil) (fun _ _ _ _ _ => pe_call W.ok hr rfl W.g W.kp W.b .nil pass0 (pa_cons (pv 1) (pa_cons pe_int (pa_cons (pe_glob (v := .int 1000000) rfl hM ⟨_, rfl⟩) pa_nil))))) pa_nil))))), ?_⟩
    obtain ⟨a, ls, rfl, hk, hs, hl, hb, q⟩ := h
    refine ⟨_, rfl, _, "list", rfl, hk, fun H1 s1 => ⟨_, rfl, iteDT (.inl rfl) ?_⟩⟩
    refine ⟨_, rfl, a, rfl, ⟨_, s1.seq hs⟩, fun D hD => ?_⟩
    have hD0 := s1.free hD
    refine lc_list (K := K) (a := a) (xs := ls.map V.int) (fun i H' => Same H H' ∧ ∃ bs : List Bool, (∀ b ∈ bs, b = true) ∧ bs.length ≤ i ∧ H' D = some (.lst (bs.map V.bl))) ⟨s1.new hD, [], (fun b hb => nomatch hb), Nat.le_refl _, upd_same⟩ (fun i H' _ p => p.1.seq hs) ?_ ?_
    · rintro i x H' hi ⟨s2, bs, h1, h2, h3⟩
      obtain ⟨z, hz, rfl⟩ := int_at hi
      have hil : i < ls.length := (List.getElem?_eq_some_iff.mp hz).1
      have hzb := hb z (List.mem_of_getElem? hz)
      refine ⟨rfl, _, rfl, z, 1, 1000000, rfl, _, h3, (by rw [List.length_map]; exact sm (by omega)), s2.mut hD0, bs ++ [true], fun b hb => ?_, by rw [List.length_append, List.length_singleton]; omega, ?_⟩
      · rcases List.mem_append.mp hb with m | m
        · exact h1 b m
        · exact List.mem_singleton.mp m
      · rw [upd_same, List.map_append, decide_eq_true hzb.1, decide_eq_true hzb.2]
        rfl
    · rintro H' ⟨s2, bs, h1, h2, h3⟩
      refine ⟨D, bs, rfl, SqL.of h3, ?_⟩
      rw [all_true h1]
      exact q H' s2
/-! ### has_level -/
def spHasL (K : PySem.W.Frag) : Sp := fun vs H Q _ => ∃ (t : Addr) (ls : List Int), vs = [.ref t] ∧ SqT K H t (ls.map V.int) ∧ ls.length ≤ 8 ∧ ∀ H', Same H H' → Q (.bl (levelB ls)) H'
abbrev nHasL : List Str := ["lengths", "sums", "length", "one"]
theorem scHasL : FnScope nHasL ["lengths"] (defScope sHasLevel) := ⟨rfl, rfl, rfl, by decide +kernel, rfl, by decide +kernel, by decide +kernel⟩
theorem ok_hasL {f : Addr} {fd : FuncData} (F : Fun K "has_level" "has_level" sHasLevel f fd) (T : Bi mg) : FnOk P w K mg base CX0 2 f fd ["lengths"] (spHasL K) := by
  refine F.ok scHasL (fun vs H Q E h => ?_) (fun cdv A outer s H vs Q E hr h => ?_)
  · obtain ⟨a, ls, rfl, _⟩ := h
    rfl
  · have nd := scHasL.nd
    refine ⟨_, pss_cons (ps_set (i := 1) nd rfl (Or.inl rfl) (pe_lst (pa_cons pe_int pa_nil)))
      (pss_cons (ps_for PassesOwn.never rfl (pi_tup (pv 0)) (pg_name (i := 2) nd rfl (Or.inr rfl)) (pss_one (ps_set (i := 1) nd rfl (Or.inl rfl) (pe_op op_cat (pv 1) (pe_lc (own := [("one", 3)]) (g := gName 3) (tt := tYes) rfl nd (pi_list (pv 1))
        (blkOk_by (N := nHasL) (sc := defScope sHasLevel) (by decide +kernel)) (fun _ _ _ _ _ => pg_name (i := 3) nd rfl (Or.inl rfl)) (fun _ _ _ _ _ => pts_nil) (fun _ _ _ _ _ => pe_op op_add (pv 3) (pv 2)))))))
      (pss_one (ps_ret (pe_callB (cr_any rfl) (by rfl) T.any (by decide +kernel) (pa_cons (pe_lc (own := [("one", 3)]) (g := gName 3) (tt := tYes) rfl nd (pi_list (pv 1))
        (blkOk_by (N := nHasL) (sc := defScope sHasLevel) (by decide +kernel)) (fun _ _ _ _ _ => pg_name (i := 3) nd rfl (Or.inl rfl)) (fun _ _ _ _ _ => pts_nil) (fun _ _ _ _ _ => pe_cmpR op_eq (pe_op op_mul pe_int (pv 3)) (pe_callB (r := rSumT K) (cr_sumT (by rfl)) (by rfl) T.sum (by decide +kernel) (pa_cons (pv 0) pa_nil)) (nomark _))) pa_nil))))), ?_⟩
    obtain ⟨t, ls, rfl, hs, hl, q⟩ := h
    refine ⟨(by show 1 ≤ sizeLine; decide), fun l0 hl0 => ?_⟩
    have s0 : Same H (upd H l0 (.lst [.int 0])) := (Same.refl H).new hl0
    have pw : ∀ i, i ≤ ls.length → (sumsOf (ls.take i)).length ≤ 256 := fun i hi => by
      rw [sums_len ls i hi]
      exact Nat.pow_le_pow_right (by decide) (show i ≤ 8 by omega)
    refine ⟨_, rfl, t, rfl, ⟨_, s0.tup hs⟩, for_tup (K := K) (a := t) (xs := ls.map V.int) (fun i σ H' => ∃ (l : Addr) (z : Option V), σ = [some (.ref t), some (.ref l), z, none] ∧ Same H H' ∧ H' l = some (.lst ((sumsOf (ls.take i)).map V.int)))
      ⟨l0, none, rfl, s0, upd_same⟩ (fun i σ H' _ ⟨_, _, _, s, _⟩ => s.tup hs) ?_ ?_⟩
    · rintro i x σ H' hi ⟨l, z, rfl, s1, h1⟩
      obtain ⟨z, hz, rfl⟩ := int_at hi
      have hil : i < ls.length := (List.getElem?_eq_some_iff.mp hz).1
      have p1 := pw i (by omega)
      refine ⟨_, rfl, _, rfl, l, rfl, ⟨_, SqL.of h1⟩, fun D hD => ?_⟩
      have hlD : l ≠ D := ne_of_none h1 hD
      refine lc_list (K := K) (a := l) (xs := (sumsOf (ls.take i)).map V.int) (fun j H2 => Same H' H2 ∧ H2 D = some (.lst ((((sumsOf (ls.take i)).take j).map (· + z)).map V.int))) ⟨(Same.refl H').new hD, upd_same⟩ (fun j H2 _ p => p.1.seq (SqL.of h1)) ?_ ?_
      · rintro j y H2 hj ⟨s2, h2⟩
        obtain ⟨o, ho, rfl⟩ := int_at hj
        refine ⟨rfl, _, rfl, _, rfl, _, _, rfl, rfl, _, h2, (by rw [List.length_map, List.length_map, List.length_take]; exact sm (by omega)), s2.mut hD, ?_⟩
        rw [upd_same, ← take_snoc ho, List.map_append, List.map_append]
        rfl
      · rintro H2 ⟨s2, h2⟩
        rw [List.length_map, List.take_length] at h2
        refine ⟨l, D, _, _, rfl, rfl, s2 _ _ h1, h2, (by rw [List.length_map, List.length_map, List.length_map]; exact Nat.le_of_lt (sm (by omega))), fun p hp => ⟨p, _, rfl, (s1.trans s2).new hp, ?_⟩⟩
        rw [upd_same, sums_take hz, List.map_append]
    · rintro σ H' ⟨l, z, rfl, s1, h1⟩
      rw [List.length_map, List.take_length] at h1
      have p1 := pw ls.length (Nat.le_refl _)
      rw [List.take_length] at p1
      refine ⟨_, rfl, l, rfl, ⟨_, SqL.of h1⟩, fun D hD => ?_⟩
      refine lc_list (K := K) (a := l) (xs := (sumsOf ls).map V.int) (fun j H2 => Same H' H2 ∧ H2 D = some (.lst ((((sumsOf ls).take j).map fun o => decide (2 * o = ls.sum)).map V.bl))) ⟨(Same.refl H').new hD, upd_same⟩ (fun j H2 _ p => p.1.seq (SqL.of h1)) ?_ ?_
      · rintro j y H2 hj ⟨s2, h2⟩
        obtain ⟨o, ho, rfl⟩ := int_at hj
        refine ⟨rfl, _, rfl, _, _, rfl, rfl, .inl ⟨by decide, by decide⟩, _, rfl, t, ls, rfl, (s1.trans s2).tup hs, rfl, _, h2, (by rw [List.length_map, List.length_map, List.length_take]; exact sm (by omega)), s2.mut hD, ?_⟩
        rw [upd_same, ← take_snoc ho, List.map_append, List.map_append, dec_int]
        rfl
      · rintro H2 ⟨s2, h2⟩
        rw [List.length_map, List.take_length] at h2
        refine ⟨D, _, rfl, SqL.of h2, ?_⟩
        rw [all_any]
        exact q H2 (s1.trans s2)
/-! ### Ring.__init__ -/
def spRI (K : PySem.W.Frag) (C : Addr) : Sp := fun vs H Q _ => ∃ (r l dx : Addr) (ls : List Int), vs = [.ref r, .ref l] ∧ H r = some (.ins C dx []) ∧ Knd K H (.ref l) "list" ∧ SqL K H l (ls.map V.int) ∧ 3 ≤ ls.length ∧ ls.length ≤ 8 ∧ Bd 1000000 ls ∧
  ∀ H', RingAt K C H' r ls → (∀ b o, H b = some o → b ≠ r → H' b = some o) → Q .non H'
theorem scRI : FnScope ["self", "lengths"] ["self", "lengths"] (defScope sRingInit) := ⟨rfl, rfl, rfl, by decide +kernel, rfl, by decide +kernel, by decide +kernel⟩
theorem ok_ri {C f fA fH : Addr} {fd fdA fdH : FuncData} (F : Fun K "__init__" "Ring.__init__" sRingInit f fd) (T : Bi mg) (N : Nm mg) (R : RingC K mg C) (A' : DefAt P w K mg base CX0 3 "are_lengths" ["value"] (spAreL K) fA fdA) (L : DefAt P w K mg base CX0 2 "has_level" ["lengths"] (spHasL K) fH fdH) : FnOk P w K mg base CX0 4 f fd ["self", "lengths"] (spRI K C) := by
  refine F.ok scRI (fun vs H Q E h => ?_) (fun cdv A outer s H vs Q E hr h => ?_)
  · obtain ⟨r, l, dx, ls, rfl, _⟩ := h
    rfl
  · obtain ⟨t3, h3⟩ := N.leastB
    obtain ⟨t8, h8⟩ := N.mostB
    refine ⟨_, pss_cons (ps_if (pt_not (pt_val (pe_call A'.ok hr rfl A'.g A'.kp A'.b .nil pass0 (pa_cons (pv 1) pa_nil)))) (pss_one ps_never) pss_nil)
      (pss_cons (ps_if (pt_cmpR op_lt (pe_callB call_len_seq (by rfl) T.len PySem.boot_len (pa_cons (pv 1) pa_nil)) (pe_glob (v := .int 3) rfl h3 ⟨_, rfl⟩) (nomark _)) (pss_one ps_never) pss_nil)
      (pss_cons (ps_if (pt_cmpR op_gt (pe_callB call_len_seq (by rfl) T.len PySem.boot_len (pa_cons (pv 1) pa_nil)) (pe_glob (v := .int 8) rfl h8 ⟨_, rfl⟩) (nomark _)) (pss_one ps_never) pss_nil)
      (pss_cons (ps_fld (pv 0) (pe_callTy cr_tupF (by rfl) T.tuple (by decide +kernel) (pa_cons (pv 1) pa_nil)) rfl)
      (pss_cons (ps_fld (pv 0) (pe_callB (cr_sumT rfl) (by rfl) T.sum (by decide +kernel) (pa_cons (pe_fld (pv 0) rfl) pa_nil)) rfl)
      (pss_cons (ps_fld (pv 0) (pe_cmpR op_le (pe_op op_mul pe_int (pe_callB (cr_maxT rfl) (by rfl) T.max (by decide +kernel) (pa_cons (pe_fld (pv 0) rfl) pa_nil))) (pe_fld (pv 0) rfl) (nomark _)) rfl)
      (pss_one (ps_fld (pv 0) (pe_not (pe_call L.ok (hr.mono (by decide)) rfl L.g L.kp L.b .nil pass0 (pa_cons (pe_fld (pv 0) rfl) pa_nil))) rfl))))))), ?_⟩
    obtain ⟨r, l, dx, ls, rfl, hr0, hk, hs, l3, l8, hb, q⟩ := h
    refine ⟨_, rfl, l, ls, rfl, hk, hs, by omega, hb, fun H1 s1 => ⟨_, rfl, iteF ?_⟩⟩
    refine ⟨_, rfl, l, _, rfl, .inl (s1.seq hs), _, _, rfl, rfl, _, rfl, iteDF (by rw [List.length_map]; omega) ?_⟩
    refine ⟨_, rfl, l, _, rfl, .inl (s1.seq hs), _, _, rfl, rfl, _, rfl, iteDF (by rw [List.length_map]; omega) ?_⟩
    have hr1 := s1 _ _ hr0
    refine ⟨_, rfl, l, _, rfl, s1.seq hs, fun t o ht hd => ?_⟩
    have nrt : r ≠ t := ne_of_none hr1 ht
    have ht0 := s1.free ht
    have tup0 : ∀ u, upd (upd H1 t (.frz o (.tup (ls.map V.int)))) r u t = some (.frz o (.tup (ls.map V.int))) := fun u => by rw [upd_ne nrt.symm, upd_same]
    refine ⟨_, rfl, r, C, dx, [], rfl, (by rw [upd_ne nrt]; exact hr1), R.cl, R.nL, (by show 0 < 1000; decide), ?_⟩
    -- self.total
    refine ⟨_, rfl, r, C, dx, _, _, rfl, upd_same, R.cl, R.nL, (by rw [lookup_putF, if_pos rfl]), t, ls, rfl, .inl (.inr ⟨o, tup0 _⟩), _, rfl, r, C, dx, _, rfl, upd_same, R.cl, R.nT, (by show 1 < 1000; decide), ?_⟩
    rw [upd_upd]
    -- self.closes
    refine ⟨_, rfl, r, C, dx, _, _, rfl, upd_same, R.cl, R.nL, (by rw [lookup_putF, if_neg n1, lookup_putF, if_pos rfl]), t, ls, rfl, .inl (.inr ⟨o, tup0 _⟩), by omega, fun m hm hx => ?_⟩
    refine ⟨_, _, rfl, rfl, .inl ⟨by decide, by decide⟩, _, rfl, r, C, dx, _, _, rfl, upd_same, R.cl, R.nT, (by rw [lookup_putF, if_pos rfl]), _, _, rfl, rfl, _, rfl, r, C, dx, _, rfl, upd_same, R.cl, R.nC, ?_, ?_⟩
    · have e1 := length_putF "total" (V.int ls.sum) (putF "lengths" (V.ref t) [])
      have e2 := length_putF "lengths" (V.ref t) []
      simp only [List.length_nil] at e2
      omega
    dsimp only
    rw [upd_upd, closes_max hm hx]
    -- self.is_clear
    refine ⟨_, rfl, r, C, dx, _, _, rfl, upd_same, R.cl, R.nL, (by rw [lookup_putF, if_neg n2, lookup_putF, if_neg n1, lookup_putF, if_pos rfl]), t, ls, rfl, .inl (.inr ⟨o, tup0 _⟩), l8, fun H5 s5 => ⟨_, rfl, _, rfl, r, C, dx, _, rfl, s5 _ _ upd_same, R.cl, R.nI, ?_, ?_⟩⟩
    · have e1 := length_putF "total" (V.int ls.sum) (putF "lengths" (V.ref t) [])
      have e2 := length_putF "lengths" (V.ref t) []
      have e3 := length_putF "closes" (V.bl (closesB ls)) (putF "total" (V.int ls.sum) (putF "lengths" (V.ref t) []))
      simp only [List.length_nil] at e2
      omega
    · have tf := s5 _ _ (tup0 _)
      refine q _ ⟨dx, t, upd_same, .inl (.inr ⟨o, by rw [upd_ne nrt.symm]; exact tf⟩), o, by rw [upd_ne nrt.symm]; exact tf, hd⟩ fun b o e hbr => ?_
      rw [upd_ne hbr]
      refine s5 _ _ ?_
      rw [upd_ne hbr, upd_ne (ne_of_none (s1 _ _ e) ht)]
      exact s1 _ _ e
end
end K
namespace K
open PySem L2 Rg
open Evl (pss_cut)
theorem perm_sum {a b : List Int} (h : a.Perm b) : a.sum = b.sum := by
  induction h with
  | nil => rfl
  | cons x _ ih => rw [List.sum_cons, List.sum_cons, ih]
  | swap x y l => simp only [List.sum_cons]; omega
  | trans _ _ ih1 ih2 => exact ih1.trans ih2
theorem lsum_perm {ls a b : List Int} (h : a.Perm b) : lsum ls a = lsum ls b := perm_sum (h.map _)
section
variable {P : Program} {w : World} {K : PySem.W.Frag} {mg : Str → Option Value} {base : Heap}
/-- a value passed for a lot of a ring of many bars: what becomes of it, k of what it is if it is one -/
def LotV (K : PySem.W.Frag) (H : Hp) (E : XK) (c : Cs) (many : Int) (part : Str) (v : V) (k : List Int → Prop) : Prop :=
  (∃ kd, Knd K H v kd ∧ kd ≠ "list" ∧ kd ≠ "tuple" ∧ Errs E c.l "part" (.str part) H) ∨
  (∃ (a : Addr) (xs : List V) (kf : V → String), v = .ref a ∧ Knd K H (.ref a) "list" ∧ SqL K H a xs ∧ xs.length ≤ 1000 ∧ (∀ x ∈ xs, Knd K H x (kf x)) ∧
    (((xs.all fun x => decide (kf x = "int")) = false ∧ Errs E c.l "part" (.str part) H) ∨ ∃ ns, xs = ns.map V.int ∧ (xs.all fun x => decide (kf x = "int")) = true ∧ LotFin E c part H (res many ns) k)) ∨
  (∃ (a : Addr) (ns : List Int), v = .ref a ∧ Knd K H (.ref a) "tuple" ∧ SqT K H a (ns.map V.int) ∧ ns.length ≤ 1000 ∧ LotFin E c part H (res many ns) k)
theorem LotFin.imp {E : XK} {c : Cs} {part : Str} {H : Hp} {r : Lr} {k k' : List Int → Prop} (h : LotFin E c part H r k) (i : ∀ ns, k ns → k' ns) : LotFin E c part H r k' := by
  cases r with
  | bad => exact h
  | bar b => exact h
  | twice b => exact h
  | ok ns => exact i ns h
theorem LotV.imp {H : Hp} {E : XK} {c : Cs} {many : Int} {part : Str} {v : V} {k k' : List Int → Prop} (h : LotV K H E c many part v k) (i : ∀ ns, k ns → k' ns) : LotV K H E c many part v k' := by
  rcases h with h | ⟨a, xs, kf, e, h1, h2, h3, h4, h⟩ | ⟨a, ns, e, h1, h2, h3, h4⟩
  · exact .inl h
  · refine .inr (.inl ⟨a, xs, kf, e, h1, h2, h3, h4, ?_⟩)
    rcases h with h | ⟨ns, q1, q2, q3⟩
    · exact .inl h
    · exact .inr ⟨ns, q1, q2, q3.imp i⟩
  · exact .inr (.inr ⟨a, ns, e, h1, h2, h3, h4.imp i⟩)
def spWL (K : PySem.W.Frag) (c : Cs) : Sp := fun vs H Q E => ∃ (v : V) (many : Int) (part : Str), vs = [v, .int many, .str part] ∧ LotV K H E c many part v fun ns => ∀ (p : Addr) (ms : List Int) (H' : Hp), ms.Perm ns → Same H H' → H' p = some (.tup (ms.map V.int)) → Q (.ref p) H'
theorem ok_wl {CX : CXT} {k : Nat} {f : Addr} {fd : FuncData} {ps : List Str} {c : Cs} (F1 : FnOk P w K mg base CX k f fd ps (spWLO K c)) (F2 : FnOk P w K mg base CX k f fd ps (spWLL K c)) (F3 : FnOk P w K mg base CX k f fd ps (spWLT K c)) : FnOk P w K mg base CX k f fd ps (spWL K c) := by
  refine (fn_or F1 (fn_or F2 F3)).imp fun vs H Q E h => ?_
  obtain ⟨v, many, part, rfl, h⟩ := h
  rcases h with ⟨kd, h1, h2, h3, h4⟩ | ⟨a, xs, kf, rfl, h1, h2, h3, h4, h⟩ | ⟨a, ns, rfl, h1, h2, h3, h4⟩
  · exact .inl ⟨v, kd, many, part, rfl, h1, h2, h3, h4⟩
  · exact .inr (.inl ⟨a, xs, kf, many, part, rfl, h1, h2, h3, h4, h⟩)
  · exact .inr (.inr ⟨a, ns, many, part, rfl, h1, h2, h3, h4⟩)
/-- a ring, of whose tuple of lengths nothing is known but its items -/
def RingW (K : PySem.W.Frag) (C : Addr) (H : Hp) (r : Addr) (ls : List Int) : Prop := ∃ dx t, H r = some (.ins C dx (rf t ls)) ∧ SqT K H t (ls.map V.int)
theorem RingAt.weak {C : Addr} {H : Hp} {r : Addr} {ls : List Int} (h : RingAt K C H r ls) : RingW K C H r ls := let ⟨dx, t, h1, h2, _⟩ := h; ⟨dx, t, h1, h2⟩
/-! ### len(ring) -/
def spRLen (K : PySem.W.Frag) (C : Addr) : Sp := fun vs H Q _ => ∃ (r : Addr) (ls : List Int), vs = [.ref r] ∧ RingW K C H r ls ∧ Q (.int ls.length) H
theorem scRLen : FnScope ["self"] ["self"] (defScope sRingLen) := ⟨rfl, rfl, rfl, by decide +kernel, rfl, by decide +kernel, by decide +kernel⟩
theorem ok_rlen {C f : Addr} {fd : FuncData} (F : Fun K "__len__" "Ring.__len__" sRingLen f fd) (T : Bi mg) (R : RingC K mg C) : FnOk P w K mg base CX0 1 f fd ["self"] (spRLen K C) := by
  refine F.ok scRLen (fun vs H Q E h => ?_) (fun cdv A outer s H vs Q E hr h => ?_)
  · obtain ⟨r, ls, rfl, _⟩ := h
    rfl
  · refine ⟨_, pss_one (ps_ret (pe_callB call_len_seq (by rfl) T.len PySem.boot_len (pa_cons (pe_fld (pv 0) rfl) pa_nil))), ?_⟩
    obtain ⟨r, ls, rfl, ⟨dx, t, hr0, ht⟩, q⟩ := h
    refine ⟨_, rfl, r, C, dx, _, _, rfl, hr0, R.cl, R.nL, rf_lengths _ _, t, _, rfl, .inr ht, ?_⟩
    rw [List.length_map]
    exact q
/-! ### ring.length_of(lot), ring.sort_of(lot) -/
def spLenOf (K : PySem.W.Frag) (C : Addr) (c : Cs) : Sp := fun vs H Q E => ∃ (r : Addr) (v : V) (ls : List Int), vs = [.ref r, v] ∧ RingW K C H r ls ∧ ls.length ≤ 8 ∧ LotV K H E c ls.length "lot" v fun ns => ∀ H', Same H H' → Q (.int (lsum ls ns)) H'
abbrev nLenOf : List Str := ["self", "lot", "bars", "bar"]
theorem scLenOf : FnScope nLenOf ["self", "lot"] (defScope sRingLengthOf) := ⟨rfl, rfl, rfl, by decide +kernel, rfl, by decide +kernel, by decide +kernel⟩
theorem get_len {ls : List Int} {b : Int} (h0 : 0 ≤ b) (h1 : b < (ls.length : Int)) : atI (ls.map V.int) b = some (V.int (ls.getD b.toNat 0)) := by
  have hb : b.toNat < ls.length := by omega
  refine at_of (j := b.toNat) (by omega) ?_
  rw [int_get hb, List.getD_eq_getElem?_getD, List.getElem?_eq_getElem hb]
  rfl
theorem res_ok {many : Int} {ns ms : List Int} (h : res many ns = .ok ms) : ms = ns ∧ (∀ x ∈ ns, isBar many x = true) ∧ ft [] ns = none := by
  unfold res at h
  cases e : ns.find? (fun b => !isBar many b) with
  | some b => rw [e] at h; cases h
  | none =>
    rw [e] at h
    cases e2 : ft [] ns with
    | some b => rw [e2] at h; cases h
    | none =>
      rw [e2] at h
      cases h
      refine ⟨rfl, fun x hx => ?_, rfl⟩
      have := List.find?_eq_none.mp e x hx
      simpa using this
/-- a lot that is one, with what is known of it -/
theorem LotFin.fine {E : XK} {c : Cs} {part : Str} {H : Hp} {many : Int} {ns : List Int} {k k' : List Int → Prop} (h : LotFin E c part H (res many ns) k) (hl : ns.length ≤ 1000) (i : ∀ ms, ms.length ≤ 1000 → (∀ x ∈ ms, isBar many x = true) → k ms → k' ms) : LotFin E c part H (res many ns) k' := by
  cases e : res many ns with
  | bad => rw [e] at h; exact h
  | bar b => rw [e] at h; exact h
  | twice b => rw [e] at h; exact h
  | ok ms =>
    rw [e] at h
    obtain ⟨rfl, a, _⟩ := res_ok e
    exact i ms hl a h
theorem LotV.fine {H : Hp} {E : XK} {c : Cs} {many : Int} {part : Str} {v : V} {k k' : List Int → Prop} (h : LotV K H E c many part v k) (i : ∀ ms, ms.length ≤ 1000 → (∀ x ∈ ms, isBar many x = true) → k ms → k' ms) : LotV K H E c many part v k' := by
  rcases h with h | ⟨a, xs, kf, e, h1, h2, h3, h4, h⟩ | ⟨a, ns, e, h1, h2, h3, h4⟩
  · exact .inl h
  · refine .inr (.inl ⟨a, xs, kf, e, h1, h2, h3, h4, ?_⟩)
    rcases h with h | ⟨ns, q1, q2, q3⟩
    · exact .inl h
    · exact .inr ⟨ns, q1, q2, q3.fine (by rw [q1, List.length_map] at h3; exact h3) i⟩
  · exact .inr (.inr ⟨a, ns, e, h1, h2, h3, h4.fine h3 i⟩)
theorem ok_lenOf {C f fW : Addr} {c : Cs} {fd fdW : FuncData} (F : Fun K "length_of" "Ring.length_of" sRingLengthOf f fd) (T : Bi mg) (R : RingC K mg C) (W : DefAt P w K mg base (L2.CX P w) 4 "want_lot" ["value", "many", "part"] (spWL K c) fW fdW) : FnOk P w K mg base (L2.CX P w) 5 f fd ["self", "lot"] (spLenOf K C c) := by
  refine F.okX scLenOf (fun vs H Q E h => ?_) (fun cdv A outer s H vs Q E hr h => ?_)
  · obtain ⟨r, v, ls, rfl, _⟩ := h
    rfl
  · have nd := scLenOf.nd
    refine ⟨_, pss_cons (ps_set (i := 2) nd rfl (Or.inl rfl) (pe_call W.ok hr rfl W.g W.kp W.b .nil (passes_call (takes_of rfl rfl rfl rfl) (fun _ _ _ _ h => h)) (pa_cons (pv 1) (pa_cons (pe_callB call_len_seq (by rfl) T.len PySem.boot_len (pa_cons (pe_fld (pv 0) rfl) pa_nil)) (pa_cons pe_str pa_nil)))))
      (pss_one (ps_ret (pe_callB (cr_sum rfl) (by rfl) T.sum (by decide +kernel) (pa_cons (pe_lc (own := [("bar", 3)]) (g := gName 3) (tt := tYes) (te := tOp (rIxT K) (tFld K (tVar 0) "lengths") (tVar 3)) rfl nd (pi_tup (pv 2))
        (blkOk_by (N := nLenOf) (sc := defScope sRingLengthOf) (by decide +kernel)) (fun _ _ _ _ _ => pg_name (i := 3) nd rfl (Or.inl rfl)) (fun _ _ _ _ _ => pts_nil) (fun _ _ _ _ _ => pe_ix (r := rIxT K) ix_tup (pe_fld (pv 0) rfl) (pv 3) (fun _ _ => rfl))) pa_nil)))), ?_⟩
    obtain ⟨r, v, ls, rfl, ⟨dx, t, hr0, ht⟩, l8, q⟩ := h
    refine ⟨_, rfl, _, rfl, r, C, dx, _, _, rfl, hr0, R.cl, R.nL, rf_lengths _ _, t, _, rfl, .inr ht, v, ls.length, "lot", by rw [List.length_map]; rfl, q.fine fun ns hns al q => ?_⟩
    intro p ms H1 pm s1 hp
    have hms : ms.length ≤ 1000 := by rw [pm.length_eq]; exact hns
    refine ⟨_, rfl, p, rfl, ⟨_, .inl (.inl hp)⟩, fun D hD => ?_⟩
    have hD0 := s1.free hD
    refine lc_tup (K := K) (a := p) (xs := ms.map V.int) (fun i H' => Same H H' ∧ H' p = some (.tup (ms.map V.int)) ∧ H' D = some (.lst (((ms.take i).map fun b => ls.getD b.toNat 0).map V.int))) ⟨s1.new hD, by rw [upd_ne (ne_of_none hp hD)]; exact hp, upd_same⟩ (fun i H' _ q => .inl (.inl q.2.1)) ?_ ?_
    · rintro i x H' hi ⟨s2, h1, h2⟩
      obtain ⟨z, hz, rfl⟩ := int_at hi
      have hil : i < ms.length := (List.getElem?_eq_some_iff.mp hz).1
      have az := al z (pm.mem_iff.mp (List.mem_of_getElem? hz))
      refine ⟨rfl, _, rfl, r, C, dx, _, _, rfl, s2 _ _ hr0, R.cl, R.nL, rf_lengths _ _, _, rfl, t, _, z, _, rfl, rfl, s2.tup ht, get_len (isBar_iff.mp az).1 (isBar_iff.mp az).2, _, h2, (by rw [List.length_map, List.length_map, List.length_take]; exact sm (by omega)), s2.mut hD0, by rw [upd_ne (ne_of_none hp hD)]; exact h1, ?_⟩
      rw [upd_same, ← take_snoc hz, List.map_append, List.map_append]
      rfl
    · rintro H' ⟨s2, h1, h2⟩
      rw [List.length_map, List.take_length] at h2
      refine ⟨D, _, rfl, SqL.of h2, ?_⟩
      have q2 := q H' s2
      rw [← lsum_perm pm] at q2
      exact q2
def sbV (e : Int) : Str := if e = 0 then "level" else if e < 0 then "short" else "long"
def spSortBy : Sp := fun vs H Q _ => ∃ e : Int, vs = [.int e] ∧ Q (.str (sbV e)) H
theorem scSortBy : FnScope ["excess"] ["excess"] (defScope sSortBy) := ⟨rfl, rfl, rfl, by decide +kernel, rfl, by decide +kernel, by decide +kernel⟩
theorem ok_sortBy {f : Addr} {fd : FuncData} (F : Fun K "sort_by" "sort_by" sSortBy f fd) : FnOk P w K mg base CX0 1 f fd ["excess"] spSortBy := by
  refine F.ok scSortBy (fun vs H Q E h => ?_) (fun cdv A outer s H vs Q E hr h => ?_)
  · obtain ⟨e, rfl, _⟩ := h
    rfl
  · refine ⟨_, pss_cons (ps_if (pt_cmpR op_eq (pv 0) pe_int (nomark _)) (pss_one (ps_ret pe_str)) pss_nil)
      (pss_one (ps_ret (pe_ifExp (pt_cmpR op_lt (pv 0) pe_int (nomark _)) pe_str pe_str))), ?_⟩
    obtain ⟨e, rfl, q⟩ := h
    unfold sbV at q
    refine ⟨_, rfl, rfl, _, rfl, ?_⟩
    by_cases c : e = 0
    · rw [if_pos c] at q
      exact iteDT (congrArg V.int c) q
    · rw [if_neg c] at q
      refine iteDF (fun z => c (V.int.inj z)) ?_
      refine ⟨_, rfl, _, _, rfl, rfl, _, rfl, ?_⟩
      by_cases c2 : e < 0
      · rw [if_pos c2] at q
        exact iteDT c2 q
      · rw [if_neg c2] at q
        exact iteDF c2 q
theorem sbV_sort (ls ns : List Int) : sbV (2 * lsum ls ns - ls.sum) = sortV ls ns := by
  unfold sbV sortV
  by_cases c : 2 * lsum ls ns = ls.sum
  · rw [if_pos c, if_pos (by omega)]
  · rw [if_neg c, if_neg (by omega)]
    by_cases d : 2 * lsum ls ns < ls.sum
    · rw [if_pos d, if_pos (by omega)]
    · rw [if_neg d, if_neg (by omega)]
abbrev nSortOf : List Str := ["self", "lot"]
theorem scSortOf : FnScope nSortOf ["self", "lot"] (defScope sRingSortOf) := ⟨rfl, rfl, rfl, by decide +kernel, rfl, by decide +kernel, by decide +kernel⟩
def spSortOf (K : PySem.W.Frag) (C : Addr) (c : Cs) : Sp := fun vs H Q E => ∃ (r : Addr) (v : V) (ls : List Int), vs = [.ref r, v] ∧ RingW K C H r ls ∧ ls.length ≤ 8 ∧ LotV K H E c ls.length "lot" v fun ns => ∀ H', Same H H' → Q (.str (sortV ls ns)) H'
theorem ok_sortOf {C f fL fB : Addr} {c : Cs} {fd fdL fdB : FuncData} (F : Fun K "sort_of" "Ring.sort_of" sRingSortOf f fd) (R : RingC K mg C) (M : Meth K C "length_of" fL) (L : FnOk P w K mg base (L2.CX P w) 5 fL fdL ["self", "lot"] (spLenOf K C c)) (LB : Binds K fdL ["self", "lot"] []) (SB : DefAt P w K mg base CX0 1 "sort_by" ["excess"] spSortBy fB fdB) : FnOk P w K mg base (L2.CX P w) 6 f fd ["self", "lot"] (spSortOf K C c) := by
  refine F.okX scSortOf (fun vs H Q E h => ?_) (fun cdv A outer s H vs Q E hr h => ?_)
  · obtain ⟨r, v, ls, rfl, _⟩ := h
    rfl
  · have nd := scSortOf.nd
    refine ⟨_, pss_one (ps_ret (pe_call SB.ok (hr.mono (by decide)) rfl SB.g SB.kp SB.b .nil pass0 (pa_cons (pe_op op_sub (pe_op op_mul pe_int (pe_meth (pv 0) R.cl M L hr LB .nil (passes_call (takes_of rfl rfl rfl rfl) (fun _ _ _ _ h => h)) (pa_cons (pv 1) pa_nil))) (pe_fld (pv 0) rfl)) pa_nil))), ?_⟩
    obtain ⟨r, v, ls, rfl, ⟨dx, t, hr0, ht⟩, l8, q⟩ := h
    refine ⟨_, rfl, r, dx, _, rfl, hr0, rf_no _ _ (by decide +kernel) (by decide +kernel) (by decide +kernel) (by decide +kernel), _, rfl, r, v, ls, rfl, ⟨dx, t, hr0, ht⟩, l8, q.imp fun ns q => ?_⟩
    intro H1 s1
    have hr1 := s1 _ _ hr0
    refine ⟨_, _, rfl, rfl, .inl ⟨by decide, by decide⟩, _, rfl, r, C, dx, _, _, rfl, hr1, R.cl, R.nT, rf_total _ _, _, _, rfl, rfl, _, rfl, ?_⟩
    have q1 := q H1 s1
    rw [← sbV_sort] at q1
    exact q1
end
end K
namespace K
open PySem L2 Rg
open Evl (pss_cut)
section
variable {P : Program} {w : World} {K : PySem.W.Frag} {mg : Str → Option Value} {base : Heap}
theorem kit_self {K : PySem.W.Frag} {C : Addr} : PySem.W.kitOne K (.ref C) (.ref C) = some true := by
  unfold PySem.W.kitOne
  simp
/-- what is no ring: a value of a kind that is no Ring -/
def NoR (K : PySem.W.Frag) (C : Addr) (H : Hp) (v : V) : Prop := ∃ k : String, TyX K H v (.type k) ∧ PySem.W.kitOne K (.type k) (.ref C) = some false
theorem NoR.same {C : Addr} {H H' : Hp} {v : V} (h : NoR K C H v) (s : Same H H') : NoR K C H' v := let ⟨k, a, b⟩ := h; ⟨k, tyx_same a s, b⟩
def spWantR (K : PySem.W.Frag) (C cR : Addr) : Sp := fun vs H Q E => ∃ (v : V) (part : Str), vs = [v, .str part] ∧ ((∃ r ls, v = .ref r ∧ RingW K C H r ls ∧ Q .non H) ∨ (NoR K C H v ∧ Errs E cR "part" (.str part) H))
theorem scWantR : FnScope ["value", "part"] ["value", "part"] (defScope sWantRing) := ⟨rfl, rfl, rfl, by decide +kernel, rfl, by decide +kernel, by decide +kernel⟩
theorem ok_wantR {C cR f fI : Addr} {fd fdI : FuncData} (F : Fun K "want_ring" "want_ring" sWantRing f fd) (T : Bi mg) (R : RingC K mg C) (B : ErrAt P w K mg base "BadRing" "part" cR fI fdI) : FnOk P w K mg base (L2.CX P w) 3 f fd ["value", "part"] (spWantR K C cR) := by
  refine F.okX scWantR (fun vs H Q E h => ?_) (fun cdv A outer s H vs Q E hr h => ?_)
  · obtain ⟨v, part, rfl, _⟩ := h
    rfl
  · refine ⟨_, pss_one (ps_if (pt_not (pt_val (pe_callB call_isi (by rfl) T.isinstance (by decide +kernel) (pa_cons (pv 0) (pa_cons (pe_glob (v := .ref C) rfl R.g rfl) pa_nil)))))
      (pss_one (ps_raise rfl (takes_of rfl rfl rfl rfl) (pmk_oex B.oex B.ic B.ti B.ok hr B.b .nil pass0 rfl B.g (pa_cons (pv 1) pa_nil)))) pss_nil), ?_⟩
    obtain ⟨v, part, rfl, h⟩ := h
    rcases h with ⟨r, ls, rfl, ⟨dx, t, hr0, ht⟩, q⟩ | ⟨⟨k, ty, kit⟩, er⟩
    · refine ⟨_, rfl, .ref r, .ref C, _, _, _, rfl, .own C, .base (.ins hr0 R.cl R.ha R.hn R.ht R.hm), kit_self, ?_⟩
      exact ⟨_, rfl, iteF q⟩
    · refine ⟨_, rfl, v, .ref C, _, _, _, rfl, .own C, ty, kit, ?_⟩
      exact ⟨_, rfl, iteT ⟨_, rfl, err_made B.oex B.nf er⟩⟩
end
end K
namespace K
open PySem L2 Rg
open Evl (pss_cut)
theorem ne_bb {a b : Bool} (h : a = b) : (!decide (V.bl a = V.bl b)) = false := by rw [h, decide_eq_true rfl]; rfl
theorem ne_vv (v : V) : (!decide (v = v)) = false := by rw [decide_eq_true rfl]; rfl
theorem at_back {α : Type} {xs : List α} {v : α} (hl : 0 < xs.length) (h : xs[xs.length - 1]? = some v) : atI xs (-1) = some v := by
  unfold atI ixN
  rw [if_neg (by decide), if_pos (by omega), show ((-1 : Int) + (xs.length : Int)).toNat = xs.length - 1 by omega]
  exact h
theorem shaped_nil : SeqAt.shaped (.list []) = true := shaped_ints []
theorem Bd.app {m : Int} {a b : List Int} (h : Bd m a) (k : Bd m b) : Bd m (a ++ b) := fun x hx => (List.mem_append.mp hx).elim (h x) (k x)
theorem Bd.take {m : Int} {a : List Int} (i : Nat) (h : Bd m a) : Bd m (a.take i) := fun x hx => h x (List.mem_of_mem_take hx)
theorem Bd.drop {m : Int} {a : List Int} (i : Nat) (h : Bd m a) : Bd m (a.drop i) := fun x hx => h x (List.mem_of_mem_drop hx)
theorem Bd.one {m x : Int} (h1 : 1 ≤ x) (h2 : x ≤ m) : Bd m [x] := fun y hy => by rw [List.mem_singleton.mp hy]; exact ⟨h1, h2⟩
theorem getD_mem {ls : List Int} {i : Nat} (h : i < ls.length) : ls.getD i 0 ∈ ls := by
  rw [List.getD_eq_getElem?_getD, List.getElem?_eq_getElem h]
  exact List.getElem_mem h
theorem Bd.get {m : Int} {ls : List Int} (h : Bd m ls) {i : Nat} (hi : i < ls.length) : 1 ≤ ls.getD i 0 ∧ ls.getD i 0 ≤ m := h _ (getD_mem hi)
theorem cut_from (xs : List V) {z : Int} {k : Nat} (hz : z = (k : Int)) : cutV xs (some z) none = xs.drop k := by
  subst hz
  unfold cutV
  rw [HT.sIx_nat, HT.sIx_none]
  by_cases h : k ≤ xs.length
  · rw [Nat.min_eq_left h, List.take_of_length_le (by rw [List.length_drop]; omega)]
  · rw [Nat.min_eq_right (by omega), List.drop_eq_nil_of_le (Nat.le_refl _), List.drop_eq_nil_of_le (show xs.length ≤ k by omega), List.take_nil]
theorem getL {ls : List Int} {z : Int} {i : Nat} (hz : z = (i : Int)) (h1 : i < ls.length) : atI (ls.map V.int) z = some (V.int (ls.getD i 0)) := by
  subst hz
  have h : (ls.map V.int)[i]? = some (V.int (ls.getD i 0)) := by rw [int_get h1, List.getD_eq_getElem?_getD, List.getElem?_eq_getElem h1]; rfl
  exact atI_nat h
theorem get_z {ls : List Int} {z : Int} (h0 : 0 ≤ z) (h1 : z < ls.length) : atI (ls.map V.int) z = some (V.int (ls.getD z.toNat 0)) := getL (i := z.toNat) (by omega) (by omega)
theorem eqvA_pd (a b : List Int) : PyData.eqv (.list (a.map PyData.int)) (.list (b.map PyData.int)) = decide (a = b) := by
  simp [PyData.eqv, Rg.eqvA_ints8]
section
variable {P : Program} {w : World} {K : PySem.W.Frag} {mg : Str → Option Value} {base : Heap}
theorem RingW.same {C : Addr} {H H' : Hp} {r : Addr} {ls : List Int} (h : RingW K C H r ls) (s : Same H H') : RingW K C H' r ls := by
  obtain ⟨dx, t, h1, h2⟩ := h
  exact ⟨dx, t, s _ _ h1, s.tup h2⟩
/-- a new ring is told, all that was tracked stands -/
def NewA (K : PySem.W.Frag) (C : Addr) (ls : List Int) (H : Hp) (Q : VK) : Prop := ∀ r H', RingAt K C H' r ls → Same H H' → H r = none → Q (.ref r) H'
theorem NewA.later {C : Addr} {ls : List Int} {H H1 : Hp} {Q : VK} (h : NewA K C ls H Q) (s : Same H H1) : NewA K C ls H1 Q := fun r H' a b c => h r H' a (s.trans b) (s.free c)
/-! ### want_number of what is one -/
def spNumV : Sp := fun vs H Q _ => ∃ (v lo hi : Int) (part : Str), vs = [.int v, .int lo, .int hi, .str part] ∧ lo ≤ v ∧ v ≤ hi ∧ Q .non H
theorem scWantNum : FnScope ["value", "least", "most", "part"] ["value", "least", "most", "part"] (defScope sWantNumber) := ⟨rfl, rfl, rfl, by decide +kernel, rfl, by decide +kernel, by decide +kernel⟩
theorem ok_numV {f fW : Addr} {fd fdW : FuncData} (F : Fun K "want_number" "want_number" sWantNumber f fd) (W : DefAt P w K mg base CX0 2 "is_within" ["value", "least", "most"] spWithin fW fdW) : FnOk P w K mg base CX0 3 f fd ["value", "least", "most", "part"] spNumV := by
  refine F.ok scWantNum (fun vs H Q E h => ?_) (fun cdv A outer s H vs Q E hr h => ?_)
  · obtain ⟨v, lo, hi, part, rfl, _⟩ := h
    rfl
  · refine ⟨_, pss_one (ps_if (pt_not (pt_val (pe_call W.ok hr rfl W.g W.kp W.b .nil pass0 (pa_cons (pv 0) (pa_cons (pv 1) (pa_cons (pv 2) pa_nil)))))) (pss_one ps_never) pss_nil), ?_⟩
    obtain ⟨v, lo, hi, part, rfl, h0, h1, q⟩ := h
    refine ⟨_, rfl, _, rfl, _, rfl, v, lo, hi, rfl, _, rfl, ?_⟩
    refine iteBF ?_ q
    simp only [decide_eq_true h0, decide_eq_true h1]
    rfl
/-! ### is_within of anything -/
/-- what is_within tells of a value of the kind k -/
def winB (k : String) (lo hi : Int) (v : V) : Bool := decide (k = "int") && match v with
  | .int i => decide (lo ≤ i) && decide (i ≤ hi)
  | _ => false
def spWithinO (K : PySem.W.Frag) : Sp := fun vs H Q _ => ∃ (v : V) (k : String) (lo hi : Int), vs = [v, .int lo, .int hi] ∧ Knd K H v k ∧ k ≠ "int" ∧ Q (.bl false) H
theorem ok_withinO {f fI : Addr} {fd fdI : FuncData} (F : Fun K "is_within" "is_within" sIsWithin f fd) (G : DefAt P w K mg base CX0 1 "is_integer" ["value"] (spIsInt K) fI fdI) : FnOk P w K mg base CX0 2 f fd ["value", "least", "most"] (spWithinO K) := by
  refine F.ok scWithin (fun vs H Q E h => ?_) (fun cdv A outer s H vs Q E hr h => ?_)
  · obtain ⟨v, k, lo, hi, rfl, _⟩ := h
    rfl
  · refine ⟨_, pss_cons (ps_if (pt_not (pt_val (pe_call G.ok hr rfl G.g G.kp G.b .nil pass0 (pa_cons (pv 0) pa_nil)))) (pss_one (ps_ret pe_bl)) pss_nil) (pss_one ps_never), ?_⟩
    obtain ⟨v, k, lo, hi, rfl, hk, nk, q⟩ := h
    refine ⟨_, rfl, v, k, rfl, hk, _, rfl, ?_⟩
    rw [decide_eq_false nk]
    exact iteT q
/-- a value, of a kind, that is an int just if the kind says so -/
def KndI (K : PySem.W.Frag) (H : Hp) (v : V) (k : String) : Prop := Knd K H v k ∧ (k = "int" → ∃ i, v = .int i)
def spWithinG (K : PySem.W.Frag) : Sp := fun vs H Q _ => ∃ (v : V) (k : String) (lo hi : Int), vs = [v, .int lo, .int hi] ∧ KndI K H v k ∧ Q (.bl (winB k lo hi v)) H
theorem ok_withinG {f fI : Addr} {fd fdI : FuncData} (F : Fun K "is_within" "is_within" sIsWithin f fd) (G : DefAt P w K mg base CX0 1 "is_integer" ["value"] (spIsInt K) fI fdI) : FnOk P w K mg base CX0 2 f fd ["value", "least", "most"] (spWithinG K) := by
  refine (fn_or (ok_within F G) (ok_withinO F G)).imp fun vs H Q E h => ?_
  obtain ⟨v, k, lo, hi, rfl, ⟨hk, hi'⟩, q⟩ := h
  by_cases c : k = "int"
  · obtain ⟨i, rfl⟩ := hi' c
    refine .inl ⟨i, lo, hi, rfl, ?_⟩
    unfold winB at q
    rw [decide_eq_true c, Bool.true_and] at q
    exact q
  · refine .inr ⟨v, k, lo, hi, rfl, hk, c, ?_⟩
    unfold winB at q
    rw [decide_eq_false c, Bool.false_and] at q
    exact q
/-! ### want_number of anything -/
def spNumG (K : PySem.W.Frag) (C : Addr) : Sp := fun vs H Q E => ∃ (v : V) (k : String) (lo hi : Int) (part : Str), vs = [v, .int lo, .int hi, .str part] ∧ KndI K H v k ∧ ((winB k lo hi v = true ∧ Q .non H) ∨ (winB k lo hi v = false ∧ Errs E C "part" (.str part) H))
theorem ok_numG {f fW C fI : Addr} {fd fdW fdI : FuncData} (F : Fun K "want_number" "want_number" sWantNumber f fd) (W : DefAt P w K mg base CX0 2 "is_within" ["value", "least", "most"] (spWithinG K) fW fdW) (B : ErrAt P w K mg base "BadNumber" "part" C fI fdI) :
    FnOk P w K mg base (L2.CX P w) 3 f fd ["value", "least", "most", "part"] (spNumG K C) := by
  refine F.okX scWantNum (fun vs H Q E h => ?_) (fun cdv A outer s H vs Q E hr h => ?_)
  · obtain ⟨v, k, lo, hi, part, rfl, _⟩ := h
    rfl
  · refine ⟨_, pss_one (ps_if (pt_not (pt_val (pe_call W.ok hr rfl W.g W.kp W.b .nil pass0 (pa_cons (pv 0) (pa_cons (pv 1) (pa_cons (pv 2) pa_nil))))))
      (pss_one (ps_raise rfl (takes_of rfl rfl rfl rfl) (pmk_oex B.oex B.ic B.ti B.ok hr B.b .nil pass0 rfl B.g (pa_cons (pv 3) pa_nil)))) pss_nil), ?_⟩
    obtain ⟨v, k, lo, hi, part, rfl, hk, h⟩ := h
    refine ⟨_, rfl, _, rfl, _, rfl, v, k, lo, hi, rfl, hk, _, rfl, ?_⟩
    rcases h with ⟨e, q⟩ | ⟨e, q⟩
    · rw [e]; exact iteF q
    · rw [e]; exact iteT ⟨_, rfl, err_made B.oex B.nf q⟩
theorem madeL2 {C l : Addr} {E : XK} {H : Hp} {ls : List Int} {R : Addr → VK} (hs : H l = some (.lst (ls.map V.int))) (l3 : 3 ≤ ls.length) (l8 : ls.length ≤ 8) (bd : Bd 1000000 ls) (h : ∀ r H', RingAt K C H' r ls → Same H H' → H r = none → R r .non H') :
    ∀ x dx, H x = none → H dx = none → dx ≠ x → spRI K C (.ref x :: ([.ref l] ++ [])) (upd (upd H dx (.own x)) x (.ins C dx [])) (R x) E := by
  intro x dx hx hdx _
  have s0 : Same H (upd (upd H dx (.own x)) x (.ins C dx [])) := fun b o q => by
    rw [upd_ne (ne_of_none q hx), upd_ne (ne_of_none q hdx)]
    exact q
  exact ⟨x, l, dx, ls, rfl, upd_same, ⟨.base (.lst (s0 _ _ hs)), by decide⟩, SqL.of (s0 _ _ hs), l3, l8, bd, fun H' ring kp => h x H' ring (fun b o e => kp b o (s0 b o e) (ne_of_none e hx)) hx⟩
/-- the making of a Ring of a right list -/
structure RingP (P : Program) (w : World) (K : PySem.W.Frag) (mg : Str → Option Value) (base : Heap) (C fI : Addr) (fdI : FuncData) : Prop where
  made : Mk K C fI
  ok : FnOk P w K mg base CX0 4 fI fdI ["self", "lengths"] (spRI K C)
  b : Binds K fdI ["self", "lengths"] []
theorem sl_to {a : Addr} {ls : List Int} {i : Nat} {H : Hp} {Q : VK} (hs : SqT K H a (ls.map V.int)) (hi : i < ls.length) (k : ∀ t, H t = none → Q (.ref t) (upd H t (.tup ((ls.take i).map V.int)))) : rSlA K (.ref a) none (some (i : Int)) H Q := by
  refine ⟨a, _, rfl, hs, fun ⟨_, e2⟩ => ?_, fun _ p hp => ?_⟩
  · rw [HT.sIx_nat, List.length_map] at e2
    omega
  · rw [cutV_to, ← List.map_take]
    exact k p hp
theorem sl_from {a : Addr} {ls : List Int} {z : Int} {i : Nat} {H : Hp} {Q : VK} (hs : SqT K H a (ls.map V.int)) (hz : z = ((i + 1 : Nat) : Int)) (h0 : 0 < ls.length) (k : ∀ t, H t = none → Q (.ref t) (upd H t (.tup ((ls.drop (i + 1)).map V.int)))) : rSlA K (.ref a) (some z) none H Q := by
  refine ⟨a, _, rfl, hs, fun ⟨e1, _⟩ => ?_, fun _ p hp => ?_⟩
  · subst hz
    rw [HT.sIx_nat, List.length_map] at e1
    omega
  · rw [cut_from _ hz, ← List.map_drop]
    exact k p hp
theorem catI {a b : Addr} {xs ys : List Int} {H : Hp} {Q : VK} (ha : H a = some (.tup (xs.map V.int))) (hb : H b = some (.tup (ys.map V.int))) (hl : xs.length + ys.length ≤ 1000) (k : ∀ t H', H' t = some (.tup ((xs ++ ys).map V.int)) → Same H H' → Q (.ref t) H') : rCatA K (.ref a) (.ref b) H Q := by
  refine ⟨a, b, _, _, rfl, rfl, .inl (.inl ha), .inl (.inl hb), by rw [List.length_map, List.length_map]; exact Nat.le_of_lt (sm (by omega)), fun e => k b H ?_ (Same.refl H), fun _ e => k a H ?_ (Same.refl H), fun _ _ p hp => k p _ ?_ ((Same.refl H).new hp)⟩
  · rw [List.map_eq_nil_iff.mp e]; exact hb
  · rw [List.map_eq_nil_iff.mp e, List.append_nil]; exact ha
  · rw [upd_same, List.map_append]
end
end K
namespace K
open PySem L2 Rg
open Evl (pss_cut)
/-! ### all lots -/
def lotsN : Nat → List (List Int)
  | 0 => [[]]
  | n + 1 => lotsN n ++ (lotsN n).map (· ++ [(n : Int)])
def barsN : Nat → List Int
  | 0 => []
  | n + 1 => barsN n ++ [(n : Int)]
theorem lotsN_succ (n : Nat) : lotsN (n + 1) = lotsN n ++ (lotsN n).map (· ++ [(n : Int)]) := rfl
theorem barsN_succ (n : Nat) : barsN (n + 1) = barsN n ++ [(n : Int)] := rfl
theorem barsN_length : ∀ n, (barsN n).length = n
  | 0 => rfl
  | n + 1 => by unfold barsN; rw [List.length_append, barsN_length n]; rfl
theorem lotsN_length : ∀ n, (lotsN n).length = 2 ^ n
  | 0 => rfl
  | n + 1 => by unfold lotsN; rw [List.length_append, List.length_map, lotsN_length n, Nat.pow_succ]; omega
theorem lotsN_len : ∀ n, ∀ l ∈ lotsN n, l.length ≤ n
  | 0, l, h => by rw [List.mem_singleton.mp h]; exact Nat.le_refl _
  | n + 1, l, h => by
    rcases List.mem_append.mp h with h | h
    · exact Nat.le_succ_of_le (lotsN_len n l h)
    · obtain ⟨a, ha, rfl⟩ := List.mem_map.mp h
      have := lotsN_len n a ha
      rw [List.length_append, List.length_singleton]
      omega
theorem lotsN_full : ∀ n, ∀ l ∈ lotsN n, l.length = n → l = barsN n
  | 0, l, h, _ => List.mem_singleton.mp h
  | n + 1, l, h, hl => by
    rcases List.mem_append.mp h with h | h
    · have := lotsN_len n l h
      omega
    · obtain ⟨a, ha, rfl⟩ := List.mem_map.mp h
      rw [List.length_append, List.length_singleton] at hl
      rw [lotsN_full n a ha (by omega)]
      rfl
theorem lotsN_in : ∀ n, ∀ l ∈ lotsN n, ∀ b ∈ l, 0 ≤ b ∧ b < n
  | 0, l, h, b, hb => by rw [List.mem_singleton.mp h] at hb; cases hb
  | n + 1, l, h, b, hb => by
    rcases List.mem_append.mp h with h | h
    · have := lotsN_in n l h b hb
      omega
    · obtain ⟨a, ha, rfl⟩ := List.mem_map.mp h
      rcases List.mem_append.mp hb with hb | hb
      · have := lotsN_in n a ha b hb
        omega
      · rw [List.mem_singleton.mp hb]
        omega
theorem lotsN_nodup : ∀ n, ∀ l ∈ lotsN n, l.Nodup
  | 0, l, h => by rw [List.mem_singleton.mp h]; exact List.nodup_nil
  | n + 1, l, h => by
    rcases List.mem_append.mp h with h | h
    · exact lotsN_nodup n l h
    · obtain ⟨a, ha, rfl⟩ := List.mem_map.mp h
      rw [List.nodup_append]
      refine ⟨lotsN_nodup n a ha, by simp, fun x hx y hy => ?_⟩
      have := lotsN_in n a ha x hx
      rw [List.mem_singleton.mp hy]
      omega
theorem lotsN_nil : ∀ n, [] ∈ lotsN n
  | 0 => List.mem_singleton.mpr rfl
  | n + 1 => List.mem_append_left _ (lotsN_nil n)
theorem barsN_mem : ∀ n, barsN n ∈ lotsN n
  | 0 => List.mem_singleton.mpr rfl
  | n + 1 => List.mem_append_right _ (List.mem_map.mpr ⟨_, barsN_mem n, rfl⟩)
/-- the sums of the lengths are those of all lots -/
theorem lots_sums {ls : List Int} : ∀ n, n ≤ ls.length → (lotsN n).map (lsum ls) = sumsOf (ls.take n)
  | 0, _ => rfl
  | n + 1, h => by
    have hz : ls[n]? = some ls[n] := List.getElem?_eq_getElem h
    have ih := lots_sums (ls := ls) n (by omega)
    rw [sums_take hz, ← ih, lotsN_succ, List.map_append, List.map_map, List.map_map]
    congr 1
    refine List.map_congr_left fun l _ => ?_
    show lsum ls (l ++ [(n : Int)]) = lsum ls l + ls[n]
    unfold lsum
    rw [List.map_append, List.sum_append, List.map_singleton, List.sum_singleton, List.getD_eq_getElem?_getD, Int.toNat_natCast, hz]
    rfl
theorem level_lots (ls : List Int) : levelB ls = (lotsN ls.length).any fun l => decide (2 * lsum ls l = ls.sum) := by
  have h := lots_sums (ls := ls) ls.length (Nat.le_refl _)
  rw [List.take_length] at h
  unfold levelB
  rw [← h, List.any_map]
  rfl
theorem sum_bars {ls : List Int} : ∀ n, n ≤ ls.length → lsum ls (barsN n) = (ls.take n).sum
  | 0, _ => rfl
  | n + 1, h => by
    have hz : ls[n]? = some ls[n] := List.getElem?_eq_getElem h
    rw [← take_snoc hz, List.sum_append, ← sum_bars n (by omega), barsN_succ]
    unfold lsum
    rw [List.map_append, List.sum_append, List.map_singleton, List.sum_singleton, List.sum_singleton, List.getD_eq_getElem?_getD, Int.toNat_natCast, hz]
    rfl
section
variable {P : Program} {w : World} {K : PySem.W.Frag} {mg : Str → Option Value} {base : Heap}
/-- lots in a heap: kf tells the bars of each -/
def LotsAt (H : Hp) (xs : List V) (kf : V → List Int) : Prop := ∀ x ∈ xs, ∃ a, x = .ref a ∧ H a = some (.tup ((kf x).map V.int))
theorem LotsAt.same {H H' : Hp} {xs : List V} {kf : V → List Int} (h : LotsAt H xs kf) (s : Same H H') : LotsAt H' xs kf := fun x hx => let ⟨a, e, q⟩ := h x hx; ⟨a, e, s _ _ q⟩
/-- refs to tuples of ints, what they hold -/
def TL (H : Hp) : List V → List (List Int) → Prop := Paired fun x ns => ∃ a, x = V.ref a ∧ H a = some (.tup (ns.map V.int))
def PL (H : Hp) : List V → List (List Int) → Prop := Paired fun x ns => ∃ t b, x = V.ref t ∧ H t = some (.tup [.int (ns.length : Nat), .ref b]) ∧ H b = some (.tup (ns.map V.int))
theorem par_imp {α β : Type} {R S : α → β → Prop} (i : ∀ a b, R a b → S a b) : ∀ {xs : List α} {ys : List β}, Paired R xs ys → Paired S xs ys
  | _, _, .nil => .nil
  | _, _, .cons h t => .cons (i _ _ h) (par_imp i t)
theorem par_app {α β : Type} {R : α → β → Prop} : ∀ {xs : List α} {ys : List β} {zs : List α} {ws : List β}, Paired R xs ys → Paired R zs ws → Paired R (xs ++ zs) (ys ++ ws)
  | _, _, _, _, .nil, q => q
  | _, _, _, _, .cons h t, q => .cons h (par_app t q)
theorem par_len {α β : Type} {R : α → β → Prop} : ∀ {xs : List α} {ys : List β}, Paired R xs ys → xs.length = ys.length
  | _, _, .nil => rfl
  | _, _, .cons _ t => congrArg (· + 1) (par_len t)
theorem par_get {α β : Type} {R : α → β → Prop} : ∀ {xs : List α} {ys : List β}, Paired R xs ys → ∀ {i : Nat} {x : α}, xs[i]? = some x → ∃ y, ys[i]? = some y ∧ R x y
  | _, _, .cons h t, 0, x, e => ⟨_, rfl, by cases e; exact h⟩
  | _, _, .cons h t, i + 1, x, e => par_get t (by simpa using e)
theorem par_mem {α β : Type} {R : α → β → Prop} : ∀ {xs : List α} {ys : List β}, Paired R xs ys → ∀ {x : α}, x ∈ xs → ∃ y ∈ ys, R x y
  | _, _, .cons h t, x, e => by
    rcases List.mem_cons.mp e with rfl | e
    · exact ⟨_, List.mem_cons_self .., h⟩
    · obtain ⟨y, hy, r⟩ := par_mem t e
      exact ⟨y, List.mem_cons_of_mem _ hy, r⟩
theorem par_mem2 {α β : Type} {R : α → β → Prop} : ∀ {xs : List α} {ys : List β}, Paired R xs ys → ∀ {y : β}, y ∈ ys → ∃ x ∈ xs, R x y
  | _, _, .cons h t, y, e => by
    rcases List.mem_cons.mp e with rfl | e
    · exact ⟨_, List.mem_cons_self .., h⟩
    · obtain ⟨x, hx, r⟩ := par_mem2 t e
      exact ⟨x, List.mem_cons_of_mem _ hx, r⟩
theorem par_map {α β : Type} {R : α → β → Prop} {f : α → β} (i : ∀ a b, R a b → f a = b) : ∀ {xs : List α} {ys : List β}, Paired R xs ys → xs.map f = ys
  | _, _, .nil => rfl
  | _, _, .cons h t => by rw [List.map_cons, i _ _ h, par_map i t]
theorem TL.same {H H' : Hp} {xs : List V} {nss : List (List Int)} (h : TL H xs nss) (s : Same H H') : TL H' xs nss := par_imp (fun _ _ ⟨a, e, q⟩ => ⟨a, e, s _ _ q⟩) h
theorem PL.same {H H' : Hp} {xs : List V} {nss : List (List Int)} (h : PL H xs nss) (s : Same H H') : PL H' xs nss := par_imp (fun _ _ ⟨t, b, e, q, r⟩ => ⟨t, b, e, s _ _ q, s _ _ r⟩) h
def vint : V → Int
  | .int z => z
  | _ => 0
theorem vints : ∀ ns : List Int, (ns.map V.int).map vint = ns
  | [] => rfl
  | n :: ns => by rw [List.map_cons, List.map_cons, vints ns]; rfl
def cont (H : Hp) (x : V) : List Int := match x with
  | .ref a => (match H a with
    | some (.tup ys) => ys.map vint
    | _ => [])
  | _ => []
theorem cont_at {H : Hp} {a : Addr} {ns : List Int} (h : H a = some (.tup (ns.map V.int))) : cont H (.ref a) = ns := by
  show (match H a with
    | some (.tup ys) => ys.map vint
    | _ => []) = ns
  rw [h]
  exact vints ns
end
def rLenS (K : PySem.W.Frag) : List V → Hp → VK → Prop := fun xs H Q => ∃ p ys, xs = [.ref p] ∧ (SqL K H p ys ∨ SqT K H p ys) ∧ Q (.int ys.length) H
end K
namespace K
open PySem L2 Rg
open Evl (pss_cut)
/-! ### a lot against all other bars -/
def Lot (n : Nat) (ns : List Int) : Prop := ns.Nodup ∧ ∀ b ∈ ns, 0 ≤ b ∧ b < (n : Int)
def hasB (ns : List Int) (j : Nat) : Bool := ns.any fun y => decide (y = (j : Int))
def oth (ls ns : List Int) (i : Nat) : List Int := ((List.range i).filter fun j => !hasB ns j).map fun j => ls.getD j 0
theorem inV_int (z : Int) : ∀ ns : List Int, inV (.int z) (ns.map V.int) = ns.any fun y => decide (y = z) := by
  intro ns
  unfold inV
  rw [List.any_map]
  rfl
theorem oth_len (ls ns : List Int) (i : Nat) : (oth ls ns i).length ≤ i := by
  unfold oth
  rw [List.length_map]
  exact Nat.le_trans (List.length_filter_le ..) (by rw [List.length_range]; exact Nat.le_refl _)
theorem oth_in {ls ns : List Int} {i : Nat} {z : Int} (hz : ls[i]? = some z) (h : hasB ns i = false) : oth ls ns (i + 1) = oth ls ns i ++ [z] := by
  unfold oth
  rw [List.range_succ, List.filter_append, List.map_append]
  simp [h, List.getD_eq_getElem?_getD, hz]
theorem oth_out {ls ns : List Int} {i : Nat} (h : hasB ns i = true) : oth ls ns (i + 1) = oth ls ns i := by
  unfold oth
  rw [List.range_succ, List.filter_append, List.map_append]
  simp [h]
theorem sum_range (ls : List Int) : ∀ n, n ≤ ls.length → ((List.range n).map fun j => ls.getD j 0).sum = (ls.take n).sum
  | 0, _ => rfl
  | n + 1, h => by
    have hz : ls[n]? = some ls[n] := List.getElem?_eq_getElem h
    rw [← take_snoc hz, List.sum_append, ← sum_range ls n (by omega), List.range_succ, List.map_append, List.sum_append]
    simp [List.getD_eq_getElem?_getD, hz]
theorem sum_split (f : Nat → Int) (p : Nat → Bool) : ∀ l : List Nat, ((l.filter fun j => !p j).map f).sum + ((l.filter p).map f).sum = (l.map f).sum
  | [] => rfl
  | x :: l => by
    have ih := sum_split f p l
    cases e : p x <;> simp [e, List.sum_cons] <;> omega
theorem hasB_iff {ns : List Int} {j : Nat} : hasB ns j = true ↔ (j : Int) ∈ ns := by
  unfold hasB
  rw [List.any_eq_true]
  constructor
  · rintro ⟨y, hy, e⟩
    rw [← of_decide_eq_true e]
    exact hy
  · intro h
    exact ⟨_, h, decide_eq_true rfl⟩
theorem nodup_cast : ∀ {l : List Nat}, l.Nodup → (l.map fun j : Nat => (j : Int)).Nodup
  | [], _ => List.nodup_nil
  | x :: l, h => by
    rw [List.nodup_cons] at h
    rw [List.map_cons, List.nodup_cons]
    refine ⟨fun m => ?_, nodup_cast h.2⟩
    obtain ⟨y, hy, e⟩ := List.mem_map.mp m
    exact h.1 (by rw [show x = y by omega]; exact hy)
theorem lot_sorted {n : Nat} {ns : List Int} (h : Lot n ns) : (((List.range n).filter (hasB ns)).map fun j : Nat => (j : Int)).Perm ns := by
    refine (List.perm_ext_iff_of_nodup (nodup_cast (List.Pairwise.filter _ List.nodup_range)) h.1).mpr fun z => ?_
    constructor
    · intro m
      obtain ⟨j, hj, rfl⟩ := List.mem_map.mp m
      exact hasB_iff.mp (List.mem_filter.mp hj).2
    · intro m
      have b := h.2 z m
      refine List.mem_map.mpr ⟨z.toNat, List.mem_filter.mpr ⟨List.mem_range.mpr (by omega), hasB_iff.mpr ?_⟩, by omega⟩
      rw [show ((z.toNat : Nat) : Int) = z by omega]
      exact m
theorem oth_sum {ls ns : List Int} (h : Lot ls.length ns) : (oth ls ns ls.length).sum + lsum ls ns = ls.sum := by
  have e1 := sum_split (fun j => ls.getD j 0) (hasB ns) (List.range ls.length)
  rw [sum_range ls _ (Nat.le_refl _), List.take_length] at e1
  rw [← e1]
  congr 1
  rw [← lsum_perm (lot_sorted h)]
  unfold lsum
  rw [List.map_map]
  rfl
theorem sort_eq {ls ns : List Int} (h : Lot ls.length ns) : sortV ls ns = (if lsum ls ns = (oth ls ns ls.length).sum then ("level" : Str) else if lsum ls ns < (oth ls ns ls.length).sum then ("short" : Str) else ("long" : Str) : Str) := by
  have e := oth_sum h
  unfold sortV
  by_cases c : 2 * lsum ls ns = ls.sum
  · rw [if_pos c, if_pos (show lsum ls ns = (oth ls ns ls.length).sum by omega)]
  · rw [if_neg c, if_neg (show ¬ lsum ls ns = (oth ls ns ls.length).sum by omega)]
    by_cases d : 2 * lsum ls ns < ls.sum
    · rw [if_pos d, if_pos (show lsum ls ns < (oth ls ns ls.length).sum by omega)]
    · rw [if_neg d, if_neg (show ¬ lsum ls ns < (oth ls ns ls.length).sum by omega)]
theorem lsum_take {ls ns : List Int} {i : Nat} {z : Int} (h : ns[i]? = some z) : (ns.take (i + 1)).map (fun b => ls.getD b.toNat 0) = (ns.take i).map (fun b => ls.getD b.toNat 0) ++ [ls.getD z.toNat 0] := by
  rw [← take_snoc h, List.map_append]
  rfl
end K
namespace K
open PySem L2 Rg
open Evl (pss_cut)
/-! ### a lot that is one -/
theorem ft_none : ∀ {ns seen : List Int}, ns.Nodup → (∀ x ∈ ns, x ∉ seen) → ft seen ns = none
  | [], _, _, _ => rfl
  | x :: ns, seen, h, hs => by
    rw [List.nodup_cons] at h
    show (if x ∈ seen then some x else ft (seen ++ [x]) ns) = none
    rw [if_neg (hs x (List.mem_cons_self ..))]
    refine ft_none h.2 fun y hy m => ?_
    rcases List.mem_append.mp m with m | m
    · exact hs y (List.mem_cons_of_mem _ hy) m
    · rw [List.mem_singleton.mp m] at hy
      exact h.1 hy
theorem res_lot {n : Nat} {ns : List Int} (h : Lot n ns) : res n ns = .ok ns := by
  rw [res_all fun x hx => isBar_iff.mpr (h.2 x hx), ft_none h.1 fun x _ m => by cases m]
theorem lot_perm {n : Nat} {ms ns : List Int} (h : Lot n ns) (p : ms.Perm ns) : Lot n ms := ⟨p.nodup_iff.mpr h.1, fun b hb => h.2 b (p.mem_iff.mp hb)⟩
theorem lot_take {n d : Nat} {ns : List Int} (h : Lot n ns) : Lot n (ns.take d) := ⟨h.1.sublist (List.take_sublist ..), fun b hb => h.2 b (List.mem_of_mem_take hb)⟩
def natB (l : List Nat) : List Int := l.map fun j : Nat => (j : Int)
theorem lot_nat {n : Nat} {p : Nat → Bool} : Lot n (natB ((List.range n).filter p)) := by
  refine ⟨nodup_cast (List.Pairwise.filter _ List.nodup_range), fun b hb => ?_⟩
  obtain ⟨j, hj, rfl⟩ := List.mem_map.mp hb
  have := List.mem_range.mp (List.mem_filter.mp hj).1
  omega
theorem lot_all {n : Nat} : Lot n (natB (List.range n)) := by
  refine ⟨nodup_cast List.nodup_range, fun b hb => ?_⟩
  obtain ⟨j, hj, rfl⟩ := List.mem_map.mp hb
  have := List.mem_range.mp hj
  omega
theorem lot_len {n : Nat} {ns : List Int} (h : Lot n ns) : ns.length ≤ n := by
  have e := lot_sorted h
  rw [e.length_eq.symm, List.length_map]
  exact Nat.le_trans (List.length_filter_le ..) (by rw [List.length_range]; exact Nat.le_refl _)
def restN (n : Nat) (ns : List Int) (i : Nat) : List Int := natB ((List.range i).filter fun j => !hasB ns j)
theorem rest_in {n : Nat} {ns : List Int} {i : Nat} (h : hasB ns i = false) : restN n ns (i + 1) = restN n ns i ++ [(i : Int)] := by
  unfold restN natB
  rw [List.range_succ, List.filter_append, List.map_append]
  simp [h]
theorem rest_out {n : Nat} {ns : List Int} {i : Nat} (h : hasB ns i = true) : restN n ns (i + 1) = restN n ns i := by
  unfold restN natB
  rw [List.range_succ, List.filter_append, List.map_append]
  simp [h]
theorem rest_len {n : Nat} {ns : List Int} {i : Nat} : (restN n ns i).length ≤ i := by
  unfold restN natB
  rw [List.length_map]
  exact Nat.le_trans (List.length_filter_le ..) (by rw [List.length_range]; exact Nat.le_refl _)
theorem rest_lot {n : Nat} {ns : List Int} : Lot n (restN n ns n) := lot_nat
theorem rest_sum {ls ns : List Int} (h : Lot ls.length ns) : lsum ls (restN ls.length ns ls.length) + lsum ls ns = ls.sum := by
  have e : lsum ls (restN ls.length ns ls.length) = (oth ls ns ls.length).sum := by
    unfold lsum restN natB oth
    rw [List.map_map]
    rfl
  rw [e]
  exact oth_sum h
theorem nat_lots (p : Nat → Bool) : ∀ n, natB ((List.range n).filter p) ∈ lotsN n
  | 0 => List.mem_singleton.mpr rfl
  | n + 1 => by
    have ih := nat_lots p n
    rw [List.range_succ, List.filter_append, lotsN_succ]
    unfold natB at ih ⊢
    rw [List.map_append]
    cases e : p n with
    | true => exact List.mem_append_right _ (List.mem_map.mpr ⟨_, ih, by simp [e]⟩)
    | false => exact List.mem_append_left _ (by simpa [e] using ih)
theorem level_of {ls ns : List Int} (h : Lot ls.length ns) (e : 2 * lsum ls ns = ls.sum) : levelB ls = true := by
  rw [level_lots, List.any_eq_true]
  exact ⟨_, nat_lots (hasB ns) ls.length, decide_eq_true (by rw [lsum_perm (show (natB _).Perm ns from lot_sorted h)]; exact e)⟩
/-- the sort of the other bars -/
def opp (z : Str) : Str := if z = "short" then "long" else if z = "long" then "short" else "level"
theorem ne_sl : ¬ (("short" : Str) = "long") := by decide +kernel
theorem ne_sv : ¬ (("short" : Str) = "level") := by decide +kernel
theorem ne_lv : ¬ (("long" : Str) = "level") := by decide +kernel
theorem sort_cases (ls ns : List Int) : (2 * lsum ls ns = ls.sum ∧ sortV ls ns = "level") ∨ (2 * lsum ls ns < ls.sum ∧ sortV ls ns = "short") ∨ (ls.sum < 2 * lsum ls ns ∧ sortV ls ns = "long") := by
  unfold sortV
  by_cases c : 2 * lsum ls ns = ls.sum
  · exact .inl ⟨c, if_pos c⟩
  · by_cases d : 2 * lsum ls ns < ls.sum
    · exact .inr (.inl ⟨d, by rw [if_neg c, if_pos d]⟩)
    · exact .inr (.inr ⟨by omega, by rw [if_neg c, if_neg d]⟩)
theorem sort_rest {ls ns ms : List Int} (h : lsum ls ms + lsum ls ns = ls.sum) : sortV ls ms = opp (sortV ls ns) := by
  unfold opp
  rcases sort_cases ls ns with ⟨a, e⟩ | ⟨a, e⟩ | ⟨a, e⟩ <;> rcases sort_cases ls ms with ⟨b, f⟩ | ⟨b, f⟩ | ⟨b, f⟩ <;> rw [e, f] <;> first | (exfalso; omega) | skip
  · rw [if_neg fun z => ne_sv z.symm, if_neg fun z => ne_lv z.symm]
  · rw [if_pos rfl]
  · rw [if_neg fun z => ne_sl z.symm, if_pos rfl]
theorem perm_ints {ys : List V} {l : List Int} (h : ys.Perm (l.map V.int)) : ∃ ms : List Int, ys = ms.map V.int ∧ ms.Perm l := by
  refine ⟨ys.map vint, ?_, ?_⟩
  · rw [List.map_map]
    refine (List.map_id ys).symm.trans (List.map_congr_left fun y hy => ?_)
    obtain ⟨i, _, rfl⟩ := List.mem_map.mp (h.mem_iff.mp hy)
    rfl
  · have := h.map vint
    rw [vints] at this
    exact this
theorem rg_nat (n : Nat) : rgV 0 (n : Int) = (natB (List.range n)).map V.int := by
  unfold rgV natB
  rw [List.map_map, show (((n : Nat) : Int) - 0).toNat = n by omega]
  refine List.map_congr_left fun j _ => ?_
  show V.int (0 + (j : Int)) = V.int (j : Int)
  rw [Int.zero_add]
section
variable {P : Program} {w : World} {K : PySem.W.Frag} {mg : Str → Option Value} {base : Heap}
theorem LotV.lst {H : Hp} {E : XK} {c : Cs} {n : Nat} {part : Str} {a : Addr} {ns : List Int} {k : List Int → Prop} (h : H a = some (.lst (ns.map V.int))) (l : Lot n ns) (hn : ns.length ≤ 8) (q : k ns) : LotV K H E c n part (.ref a) k := by
  refine .inr (.inl ⟨a, ns.map V.int, fun _ => "int", rfl, ⟨.base (.lst h), by decide⟩, SqL.of h, by rw [List.length_map]; omega, fun x hx => ?_, .inr ⟨ns, rfl, List.all_eq_true.mpr fun _ _ => rfl, ?_⟩⟩)
  · obtain ⟨i, _, rfl⟩ := List.mem_map.mp hx
    exact Knd.int
  · rw [res_lot l]
    exact q
theorem LotV.tpl {H : Hp} {E : XK} {c : Cs} {n : Nat} {part : Str} {a : Addr} {ns : List Int} {k : List Int → Prop} (h : H a = some (.tup (ns.map V.int))) (l : Lot n ns) (hn : ns.length ≤ 8) (q : k ns) : LotV K H E c n part (.ref a) k := by
  refine .inr (.inr ⟨a, ns, rfl, ⟨.base (.tup h), by decide⟩, .inl (.inl h), by omega, ?_⟩)
  rw [res_lot l]
  exact q
theorem RingAt.but {C p : Addr} {e : Addr × List Int} {n : Nat} {H H' : Hp} {r : Addr} {ls : List Int} (h : RingAt K C H r ls) (b : But p H H') (pen : PenAt K H p e n) : RingAt K C H' r ls := by
  obtain ⟨dx, t, h1, h2, o, h3, h4⟩ := h
  obtain ⟨_, _, hp, _⟩ := pen.ex
  have nr : r ≠ p := fun z => by rw [z, hp] at h1; cases h1
  have nt : t ≠ p := fun z => by rw [z, hp] at h3; cases h3
  exact ⟨dx, t, b _ _ nr h1, .inl (.inr ⟨o, b _ _ nt h3⟩), o, b _ _ nt h3, h4⟩
end
/-! ### a whole ring -/
def isLong (ls : List Int) (j : Nat) : Bool := decide (ls.sum < 2 * ls.getD j 0)
def alone (ls : List Int) (i : Nat) : List Int := natB ((List.range i).filter (isLong ls))
theorem alone_in {ls : List Int} {i : Nat} (h : isLong ls i = true) : alone ls (i + 1) = alone ls i ++ [(i : Int)] := by
  unfold alone natB
  rw [List.range_succ, List.filter_append, List.map_append]
  simp [h]
theorem alone_out {ls : List Int} {i : Nat} (h : isLong ls i = false) : alone ls (i + 1) = alone ls i := by
  unfold alone natB
  rw [List.range_succ, List.filter_append, List.map_append]
  simp [h]
theorem alone_len {ls : List Int} {i : Nat} : (alone ls i).length ≤ i := by
  unfold alone natB
  rw [List.length_map]
  exact Nat.le_trans (List.length_filter_le ..) (by rw [List.length_range]; exact Nat.le_refl _)
theorem sort_one {ls : List Int} {i : Nat} : decide (V.str (sortV ls [(i : Int)]) = V.str "long") = isLong ls i := by
  have e : lsum ls [(i : Int)] = ls.getD i 0 := by
    unfold lsum
    rw [List.map_singleton, List.sum_singleton, Int.toNat_natCast]
  unfold isLong
  rcases sort_cases ls [(i : Int)] with ⟨a, h⟩ | ⟨a, h⟩ | ⟨a, h⟩ <;> rw [h] <;> rw [e] at a
  · rw [decide_eq_false fun z => ne_lv (V.str.inj z).symm, decide_eq_false (by omega)]
  · rw [decide_eq_false fun z => ne_sl (V.str.inj z), decide_eq_false (by omega)]
  · rw [decide_eq_true rfl, decide_eq_true (by omega)]
theorem sum_pos : ∀ {l : List Int}, (∀ z ∈ l, 0 ≤ z) → 0 ≤ l.sum
  | [], _ => by simp
  | a :: l, q => by
    rw [List.sum_cons]
    have := sum_pos (l := l) fun z hz => q z (List.mem_cons_of_mem _ hz)
    have := q a (List.mem_cons_self ..)
    omega
theorem get_sum : ∀ {l : List Int} {k : Nat}, (∀ z ∈ l, 0 ≤ z) → k < l.length → l.getD k 0 ≤ l.sum
  | a :: l, 0, q, _ => by
    have := sum_pos (l := l) fun z hz => q z (List.mem_cons_of_mem _ hz)
    rw [List.sum_cons, List.getD_cons_zero]
    omega
  | a :: l, k + 1, q, h => by
    have := get_sum (l := l) (k := k) (fun z hz => q z (List.mem_cons_of_mem _ hz)) (by simpa using h)
    have := q a (List.mem_cons_self ..)
    rw [List.sum_cons, List.getD_cons_succ]
    omega
theorem sum_two : ∀ {l : List Int} {i j : Nat}, (∀ z ∈ l, 0 ≤ z) → i < j → j < l.length → l.getD i 0 + l.getD j 0 ≤ l.sum
  | a :: l, 0, j + 1, q, _, h => by
    have := get_sum (l := l) (k := j) (fun z hz => q z (List.mem_cons_of_mem _ hz)) (by simpa using h)
    rw [List.sum_cons, List.getD_cons_zero, List.getD_cons_succ]
    omega
  | a :: l, i + 1, j + 1, q, hij, h => by
    have := sum_two (l := l) (i := i) (j := j) (fun z hz => q z (List.mem_cons_of_mem _ hz)) (by omega) (by simpa using h)
    have := q a (List.mem_cons_self ..)
    rw [List.sum_cons, List.getD_cons_succ, List.getD_cons_succ]
    omega
theorem long_uniq {ls : List Int} (h0 : ∀ x ∈ ls, 0 ≤ x) {i j : Nat} (hi : i < ls.length) (hj : j < ls.length) (a : isLong ls i = true) (b : isLong ls j = true) : i = j := by
  have a' := of_decide_eq_true a
  have b' := of_decide_eq_true b
  rcases Nat.lt_trichotomy i j with h | h | h
  · have := sum_two h0 h hj
    omega
  · exact h
  · have := sum_two h0 h hi
    omega
theorem filter_uniq {p : Nat → Bool} {j : Nat} : ∀ n, j < n → p j = true → (∀ i, i < n → p i = true → i = j) → (List.range n).filter p = [j]
  | 0, h, _, _ => by omega
  | n + 1, h, hp, u => by
    rw [List.range_succ, List.filter_append]
    by_cases e : n = j
    · have h1 : (List.range n).filter p = [] := List.filter_eq_nil_iff.mpr fun i hi q => by
        have := u i (by have := List.mem_range.mp hi; omega) q
        have := List.mem_range.mp hi
        omega
      rw [h1, e]
      simp [hp]
    · have h1 := filter_uniq n (by omega) hp fun i hi q => u i (by omega) q
      have h2 : p n = false := by
        cases q : p n with
        | false => rfl
        | true => exact absurd (u n (by omega) q) e
      rw [h1]
      simp [h2]
/-- what is due of closes, of too_long and of the bars that are long alone -/
theorem alone_two {ls : List Int} (h0 : ∀ x ∈ ls, 0 ≤ x) : (closesB ls = true ∧ alone ls ls.length = []) ∨ (closesB ls = false ∧ ∃ j : Nat, j < ls.length ∧ isLong ls j = true ∧ alone ls ls.length = [(j : Int)]) := by
  cases e : closesB ls with
  | true =>
    refine .inl ⟨rfl, ?_⟩
    unfold alone
    rw [show (List.range ls.length).filter (isLong ls) = [] from List.filter_eq_nil_iff.mpr fun i hi q => ?_]
    · rfl
    · have hi' := List.mem_range.mp hi
      have c := List.all_eq_true.mp e ls[i] (List.getElem_mem hi')
      have q' := of_decide_eq_true q
      rw [List.getD_eq_getElem?_getD, List.getElem?_eq_getElem hi'] at q'
      have c' := of_decide_eq_true c
      simp only [Option.getD_some] at q'
      omega
  | false =>
    unfold closesB at e
    rw [List.all_eq_false] at e
    obtain ⟨x, hx, nx⟩ := e
    obtain ⟨j, hjl, rfl⟩ := List.mem_iff_getElem.mp hx
    have hxs : ¬ 2 * ls[j] ≤ ls.sum := fun z => nx (decide_eq_true z)
    have lj : isLong ls j = true := by
      refine decide_eq_true ?_
      rw [List.getD_eq_getElem?_getD, List.getElem?_eq_getElem hjl]
      simp only [Option.getD_some]
      omega
    refine .inr ⟨rfl, j, hjl, lj, ?_⟩
    unfold alone
    rw [filter_uniq ls.length hjl lj fun i hi q => long_uniq h0 hi hjl q lj]
    rfl
theorem alone_c {ls : List Int} (h0 : ∀ x ∈ ls, 0 ≤ x) : closesB ls = (alone ls ls.length).isEmpty ∧ (alone ls ls.length).length ≤ 1 := by
  rcases alone_two h0 with ⟨e, a⟩ | ⟨e, j, _, _, a⟩
  · rw [e, a]
    exact ⟨rfl, by decide⟩
  · rw [e, a]
    exact ⟨rfl, Nat.le_refl _⟩
theorem lotsN_lot {n : Nat} {l : List Int} (h : l ∈ lotsN n) : Lot n l := ⟨lotsN_nodup n l h, lotsN_in n l h⟩
theorem level_any {ls : List Int} {xs : List V} {kf : V → List Int} (p : (xs.map kf).Perm (lotsN ls.length)) : inV (.str "level") (xs.map fun x => V.str (sortV ls (kf x))) = levelB ls := by
  rw [level_lots]
  have e1 : (lotsN ls.length).any (fun l => decide (2 * lsum ls l = ls.sum)) = (xs.map kf).any fun l => decide (2 * lsum ls l = ls.sum) := by
    rw [Bool.eq_iff_iff, List.any_eq_true, List.any_eq_true]
    exact ⟨fun ⟨x, hx, q⟩ => ⟨x, p.mem_iff.mpr hx, q⟩, fun ⟨x, hx, q⟩ => ⟨x, p.mem_iff.mp hx, q⟩⟩
  rw [e1, List.any_map]
  unfold inV
  rw [List.any_map]
  congr 1
  funext x
  show decide (sortV ls (kf x) = "level") = decide (2 * lsum ls (kf x) = ls.sum)
  rcases sort_cases ls (kf x) with ⟨a, e⟩ | ⟨a, e⟩ | ⟨a, e⟩ <;> rw [e]
  · rw [decide_eq_true rfl, decide_eq_true a]
  · rw [decide_eq_false ne_sv, decide_eq_false (by omega)]
  · rw [decide_eq_false ne_lv, decide_eq_false (by omega)]
theorem even_of {ls : List Int} (h : levelB ls = true) : ls.sum % 2 = 0 := by
  rw [level_lots, List.any_eq_true] at h
  obtain ⟨l, _, q⟩ := h
  have := of_decide_eq_true q
  omega
end K
namespace K
open PySem L2 Rg LamX
open Evl (pss_cut)
/-! ### tables -/
abbrev qLaw : Str := "law.<locals>.<lambda>"
abbrev qMo : Str := "most_on_one.<locals>.<lambda>"
abbrev qIO : Str := "in_order.<locals>.<lambda>"
abbrev T2 (P0 P1 P2 : Addr) : List (Addr × Str) := [(P0, qMo), (P1, qLaw), (P2, qIO)]
/-- a def whose code object stands at c -/
structure FunC (K : PySem.W.Frag) (x qual : Str) (st : Stmt) (f : Addr) (fd : FuncData) (c : Addr) : Prop where
  ex : ∃ (oc : Value) (od : Option Addr) (kV doc pm : Value) (an : Option Addr) (ct : Value) (osl : Array (Option Value)),
    fd = PySem.W.fnOf x qual (defArgs st) (defBody st) (defScope st) .none kV doc pm an (.ref c) ct ∧ K.lookup f = some ⟨oc, od, .func fd, osl⟩ ∧ PySem.W.codeIn K (.ref c) qual = true
theorem FunC.ok {P : Program} {w : World} {K : PySem.W.Frag} {mg : Str → Option Value} {base : Heap} {x qual : Str} {st : Stmt} {f c : Addr} {fd : FuncData} {N ps : List Str} {k : Nat} {sp : Sp} (F : FunC K x qual st f fd c) (S : FnScope N ps (defScope st)) (len : ∀ vs H Q E, sp vs H Q E → vs.length = ps.length)
    (hbody : ∀ (A : Around) (outer : List Env) (s : Shared) (H : Hp) (vs : List V) (Q : VK) (E : XK), Room k (A.deeper (PyProof.Rows.envOfC qual (defScope st) s.heap.objs.size f (.ref c))) → sp vs H Q E →
      ∃ t, PSs (cxOf CX0 P w K mg base N qual (defScope st) f (.ref c) A outer s H E).nox (defBody st) t ∧ t { nx := fun _ H' => Q .non H', rt := Q } (L2.start N vs) H) : FnOk P w K mg base CX0 (k + 1) f fd ps sp := by
  obtain ⟨oc, od, kV, doc, pm, an, ct, osl, rfl, lk, hcd⟩ := F.ex
  exact fn_of lk hcd S len fun A outer s H vs Q E hr hsp => by
    obtain ⟨t, h, q⟩ := hbody A outer s H vs Q E hr hsp
    exact ⟨t, h.nox, q⟩
/-- a promise that no error is told in -/
theorem fn_calm {P : Program} {w : World} {K : PySem.W.Frag} {mg : Str → Option Value} {base : Heap} {k : Nat} {f : Addr} {fd : FuncData} {ps : List Str} {sp : Sp} (F : FnOk P w K mg base (L2.CX P w) k f fd ps sp) : FnOk P w K mg base CX0 k f fd ps (fun vs H Q _ => sp vs H Q fun _ _ _ => False) :=
  ⟨fun vs H Q E h => F.len _ _ _ _ h, fun A outer s H args us vs Q E hr e0 hb hv h => codeAny_mono (F.run A outer s H args us vs Q (fun _ _ _ => False) hr e0 hb hv h) fun r s' hq => by
    cases r with
    | ok fl => cases fl <;> exact hq
    | error e =>
      obtain ⟨_, _, _, _, _, _, _, _, _, _, _, _, z⟩ := hq
      exact z⟩
section
variable {P : Program} {w : World} {K : PySem.W.Frag} {mg : Str → Option Value} {base : Heap}
/-! ### in_order -/
def spInOrd (K : PySem.W.Frag) (T : List (Addr × Str)) : Sp := fun vs H Q _ => ∃ (a : Addr) (xs : List V) (k : V → List Int), vs = [.ref a] ∧ SqL K H a xs ∧ (∀ x ∈ xs, ∃ t, x = V.ref t ∧ H t = some (.tup ((k x).map V.int))) ∧ Tabs T H ∧
  ∀ H' p ys, ExtN H H' → Tabs T H' → ys.Perm xs → (ys.Pairwise fun u v => lotLe (k u) (k v) = true) → H' p = some (.tup ys) → Q (.ref p) H'
theorem scInOrd : FnScope ["lots"] ["lots"] (defScope sInOrder) := ⟨rfl, rfl, rfl, by decide +kernel, rfl, by decide +kernel, by decide +kernel⟩
theorem ok_inOrd {cd P0 P1 P2 f : Addr} {fd : FuncData} (F : FunC K "in_order" "in_order" sInOrder f fd cd) (T : Bi mg) (TB : TabB base mg cd P2) (hmT : (P2, qIO) ∈ T2 P0 P1 P2) (hu : ∀ p ∈ T2 P0 P1 P2, p.1 = P2 → p.2 = qIO) : FnOk P w K mg base CX0 2 f fd ["lots"] (spInOrd K (T2 P0 P1 P2)) := by
  refine F.ok scInOrd (fun vs H Q E h => ?_) (fun A outer s H vs Q E hr h => ?_)
  · obtain ⟨a, xs, k, rfl, _⟩ := h
    rfl
  · refine ⟨_, pss_one (ps_ret (pe_callTy call_tuple_of (by rfl) T.tuple (by decide +kernel) (pa_cons (pe_sortLots hr.depth hr.units (by rfl) T.sorted T.len (pv 0) TB rfl hmT hu rfl rfl rfl rfl (by decide +kernel) rfl rfl rfl (fun _ _ _ _ _ => rfl)) pa_nil))), ?_⟩
    obtain ⟨a, xs, k, rfl, hs, hx, hT, q⟩ := h
    refine ⟨_, rfl, a, xs, k, rfl, hs, hx, hT, fun H2 p ys eN tb pm pw np => ⟨p, ys, rfl, .inl ⟨SqL.of upd_same, fun t ht => ?_⟩⟩⟩
    have s1 : Same H2 (upd (upd H2 p (.lst ys)) t (.tup ys)) := ((Same.refl H2).new np).new ht
    exact q _ t ys (eN.trans (ExtN.of s1)) (tb.ext s1) pm pw upd_same
/-! ### lots_of -/
def spLotsOf (K : PySem.W.Frag) (T : List (Addr × Str)) : Sp := fun vs H Q _ => ∃ n : Nat, vs = [.int n] ∧ 1 ≤ n ∧ n ≤ 8 ∧ Tabs T H ∧
  ∀ (p : Addr) (xs : List V) (kf : V → List Int) (H' : Hp), ExtN H H' → Tabs T H' → H' p = some (.tup xs) → LotsAt H' xs kf → (xs.map kf).Perm (lotsN n) → (xs.Pairwise fun u v => lotLe (kf u) (kf v) = true) → Q (.ref p) H'
abbrev nLotsOf : List Str := ["many", "lots", "bar", "lot"]
theorem scLotsOf : FnScope nLotsOf ["many"] (defScope sLotsOf) := ⟨rfl, rfl, rfl, by decide +kernel, rfl, by decide +kernel, by decide +kernel⟩
theorem ok_lotsOf {P0 P1 P2 f fN fI : Addr} {fd fdN fdI : FuncData} (F : Fun K "lots_of" "lots_of" sLotsOf f fd) (T : Bi mg) (N : Nm mg) (NV : DefAt P w K mg base CX0 3 "want_number" ["value", "least", "most", "part"] spNumV fN fdN) (IO : DefAt P w K mg base CX0 2 "in_order" ["lots"] (spInOrd K (T2 P0 P1 P2)) fI fdI) : FnOk P w K mg base CX0 4 f fd ["many"] (spLotsOf K (T2 P0 P1 P2)) := by
  refine F.ok scLotsOf (fun vs H Q E h => ?_) (fun cdv A outer s H vs Q E hr h => ?_)
  · obtain ⟨n, rfl, _⟩ := h
    rfl
  · have nd := scLotsOf.nd
    obtain ⟨t8, h8⟩ := N.mostB
    refine ⟨_, pss_cons (ps_expr (pe_call NV.ok hr rfl NV.g NV.kp NV.b .nil pass0 (pa_cons (pv 0) (pa_cons pe_int (pa_cons (pe_glob (v := .int 8) rfl h8 ⟨_, rfl⟩) (pa_cons pe_str pa_nil))))))
      (pss_cons (ps_set (i := 1) nd rfl (Or.inl rfl) (pe_lst (pa_cons (pe_tup pa_nil) pa_nil)))
      (pss_cons (ps_for PassesOwn.never rfl (pi_range1 (by rfl) T.range (pa_cons (pv 0) pa_nil)) (pg_name (i := 2) nd rfl (Or.inr rfl)) (pss_one (ps_set (i := 1) nd rfl (Or.inl rfl) (pe_op op_cat (pv 1) (pe_lc (own := [("lot", 3)]) (g := gName 3) (tt := tYes) (te := tOp (rCatA K) (tVar 3) (tTup (tCons (tVar 2) tNil))) rfl nd (pi_list (pv 1))
        (blkOk_by (N := nLotsOf) (sc := defScope sLotsOf) (by decide +kernel)) (fun _ _ _ _ _ => pg_name (i := 3) nd rfl (Or.inl rfl)) (fun _ _ _ _ _ => pts_nil) (fun _ _ _ _ _ => pe_op op_catA (pv 3) (pe_tup (pa_cons (pv 2) pa_nil))))))))
      (pss_one (ps_ret (pe_call IO.ok (hr.mono (by decide)) rfl IO.g IO.kp IO.b .nil pass0 (pa_cons (pv 1) pa_nil)))))), ?_⟩
    obtain ⟨n, rfl, n1, n8, tab, q⟩ := h
    refine ⟨_, rfl, n, 1, 8, "many", rfl, by omega, by omega, ?_⟩
    refine ⟨(by show 0 ≤ sizeLine; decide), fun e0 he0 => ⟨(by show 1 ≤ sizeLine; decide), fun l0 hl0 => ?_⟩⟩
    have s0 : Same H (upd (upd H e0 (.tup [])) l0 (.lst [.ref e0])) := ((Same.refl H).new he0).new hl0
    have he1 : upd (upd H e0 (.tup [])) l0 (.lst [.ref e0]) e0 = some (.tup []) := by rw [upd_ne (ne_of_none upd_same hl0), upd_same]
    refine ⟨_, rfl, _, rfl, by omega, by omega, ?_⟩
    refine for_range (lo := 0) (n := ((n : Nat) : Int).toNat) (fun i σ H' => ∃ (l : Addr) (t : Option V) (xs : List V), σ = [some (.int n), some (.ref l), t, none] ∧ Same H H' ∧ H' l = some (.lst xs) ∧ TL H' xs (lotsN i))
      ⟨l0, none, [.ref e0], rfl, s0, upd_same, .cons ⟨e0, rfl, he1⟩ .nil⟩ ?_ ?_
    · rintro i σ H' hi ⟨l, t, xs, rfl, s1, h1, tl⟩
      have hi8 : i < 8 := by omega
      have hxl : xs.length = 2 ^ i := by rw [par_len tl, lotsN_length]
      have h256 : 2 ^ i ≤ 128 := Nat.pow_le_pow_right (by decide) (show i ≤ 7 by omega)
      rw [Int.zero_add]
      refine ⟨_, rfl, _, rfl, l, rfl, ⟨_, SqL.of h1⟩, fun D hD => ?_⟩
      refine lc_list (K := K) (a := l) (xs := xs) (fun j H2 => Same H' H2 ∧ ∃ ys, H2 D = some (.lst ys) ∧ TL H2 ys (((lotsN i).take j).map (· ++ [(i : Int)]))) ⟨(Same.refl H').new hD, [], upd_same, .nil⟩ (fun j H2 _ p => p.1.seq (SqL.of h1)) ?_ ?_
      · rintro j y H2 hj ⟨s2, ys, h2, yl⟩
        obtain ⟨ns, hns, a, rfl, ha⟩ := par_get tl hj
        have ha2 := s2 _ _ ha
        have hjl : j < (lotsN i).length := (List.getElem?_eq_some_iff.mp hns).1
        have hyl : ys.length < sizeLine := by
          have := lotsN_length i
          rw [par_len yl, List.length_map, List.length_take]
          exact sm (by omega)
        have fin : ∀ (c : Addr) (H3 : Hp), Same H2 H3 → H3 c = some (.tup ((ns ++ [(i : Int)]).map V.int)) → ∃ acc, H3 D = some (.lst acc) ∧ acc.length < sizeLine ∧ (Same H' (upd H3 D (.lst (acc ++ [.ref c]))) ∧ ∃ zs, upd H3 D (.lst (acc ++ [.ref c])) D = some (.lst zs) ∧ TL (upd H3 D (.lst (acc ++ [.ref c]))) zs (((lotsN i).take (j + 1)).map (· ++ [(i : Int)]))) := by
          intro c H3 s3 hc
          have s4 : ∀ (q : Addr) (us : List V), H3 q = some (.tup us) → upd H3 D (.lst (ys ++ [.ref c])) q = some (.tup us) := fun q us hq => by
            rw [upd_ne fun e => ?_]
            · exact hq
            · rw [e, s3 _ _ h2] at hq
              cases hq
          refine ⟨ys, s3 _ _ h2, hyl, (s2.trans s3).mut hD, _, upd_same, ?_⟩
          rw [← take_snoc hns, List.map_append]
          exact par_app (par_imp (fun _ _ ⟨q, e, hq⟩ => ⟨q, e, s4 _ _ hq⟩) (yl.same s3)) (.cons ⟨c, rfl, s4 _ _ hc⟩ .nil)
        refine ⟨rfl, _, rfl, _, rfl, (by show 1 ≤ sizeLine; decide), fun b hb => ⟨a, b, ns.map V.int, [.int i], rfl, rfl, .inl (.inl (by rw [upd_ne (ne_of_none ha2 hb)]; exact ha2)), .inl (.inl upd_same), ?_, fun e => ?_, (fun _ z => by cases z), fun _ _ p hp => ?_⟩⟩
        · have := lotsN_len i ns (List.mem_of_getElem? hns)
          rw [List.length_map, List.length_singleton]
          exact Nat.le_of_lt (sm (by omega))
        · have e' : ns = [] := by cases ns with
            | nil => rfl
            | cons _ _ => cases e
          subst e'
          exact fin b _ ((Same.refl H2).new hb) upd_same
        · refine fin p _ (((Same.refl H2).new hb).new hp) ?_
          rw [upd_same, List.map_append]
          rfl
      · rintro H2 ⟨s2, ys, h2, yl⟩
        have eh : xs.length = (lotsN i).length := par_len tl
        rw [eh, List.take_length] at yl
        refine ⟨l, D, _, _, rfl, rfl, s2 _ _ h1, h2, ?_, fun p hp => ⟨p, _, _, rfl, (s1.trans s2).new hp, upd_same, ?_⟩⟩
        · rw [par_len yl, List.length_map, ← eh]
          exact Nat.le_of_lt (sm (by omega))
        · have s3 : Same H2 (upd H2 p (.lst (xs ++ ys))) := (Same.refl H2).new hp
          rw [lotsN_succ]
          exact par_app (tl.same (s2.trans s3)) (yl.same s3)
    · rintro σ H' ⟨l, t, xs, rfl, s1, h1, tl⟩
      rw [Int.toNat_natCast] at tl
      refine ⟨_, rfl, l, xs, cont H', rfl, SqL.of h1, fun x hx => ?_, tab.ext s1, fun H2 p ys eN tb pm pw hp => ?_⟩
      · obtain ⟨ns, _, a, rfl, ha⟩ := par_mem tl hx
        exact ⟨a, rfl, by rw [cont_at ha]; exact ha⟩
      · have e2 : xs.map (cont H') = lotsN n := par_map (fun a b ⟨t, e, h⟩ => by rw [e, cont_at h]) tl
        refine q p ys (cont H') H2 ((ExtN.of s1).trans eN) tb hp (fun x hx => ?_) (by rw [← e2]; exact pm.map _) pw
        obtain ⟨ns, _, a, rfl, ha⟩ := par_mem tl (pm.mem_iff.mp hx)
        exact ⟨a, rfl, by rw [cont_at ha]; exact eN _ _ ha (fun _ z => nomatch z)⟩
/-! ### lots_less -/
def lessN (ns : List Int) (i : Nat) : List (List Int) := (List.range i).map fun j => ns.take j ++ ns.drop (j + 1)
theorem lessN_succ (ns : List Int) (i : Nat) : lessN ns (i + 1) = lessN ns i ++ [ns.take i ++ ns.drop (i + 1)] := by
  unfold lessN
  rw [List.range_succ, List.map_append]
  rfl
theorem lessN_len (ns : List Int) (i : Nat) : (lessN ns i).length = i := by unfold lessN; rw [List.length_map, List.length_range]
end
end K
namespace K
open PySem L2 Rg LamX
/-! ### one order of all lots -/
theorem dec_str (a b : Str) : decide (V.str a = V.str b) = decide (a = b) := by
  by_cases e : a = b
  · rw [e]; simp
  · rw [decide_eq_false e, decide_eq_false fun z => e (V.str.inj z)]
def lotK (l : List Int) : List Int := (l.length : Int) :: l
def LLe (u v : List Int) : Prop := HT.lexLt (lotK v) (lotK u) = false
theorem lex_nil2 : HT.lexLt [] [] = false := rfl
theorem lex_nc (y : Int) (ys : List Int) : HT.lexLt [] (y :: ys) = true := rfl
theorem lexLt_anti : ∀ a b : List Int, HT.lexLt a b = false → HT.lexLt b a = false → a = b
  | [], [], _, _ => rfl
  | [], _ :: _, h, _ => by rw [lex_nc] at h; cases h
  | _ :: _, [], _, h => by rw [lex_nc] at h; cases h
  | x :: a, y :: b, h, g => by
    rw [HT.lexLt_cons] at h g
    by_cases e : x = y
    · subst e
      rw [if_pos rfl] at h g
      rw [lexLt_anti a b h g]
    · rw [if_neg e] at h
      rw [if_neg fun z => e z.symm] at g
      have := of_decide_eq_false h
      have := of_decide_eq_false g
      omega
theorem LLe.anti {u v : List Int} (h : LLe u v) (g : LLe v u) : u = v := by
  have := lexLt_anti _ _ g h
  unfold lotK at this
  exact (List.cons.inj this).2
theorem ints_lt : ∀ a b : List Int, PyProof.Rows.lexLt PyProof.Rows.itemOrd (PySem.W.keyToksAll (a.map PyData.int)) (PySem.W.keyToksAll (b.map PyData.int)) = HT.lexLt a b
  | [], [] => by rw [lex_nil2]; exact PyProof.Rows.lex_irrefl _
  | [], y :: b => by
    rw [lex_nc, List.map_nil, List.map_cons, PySem.W.keyToksAll, PySem.W.keyToksAll, PyProof.Rows.lex_diff (by simp)]
    decide +kernel
  | x :: a, [] => by
    rw [HT.lexLt_cons_nil, List.map_nil, List.map_cons, PySem.W.keyToksAll, PySem.W.keyToksAll, PyProof.Rows.lex_diff (by simp)]
    decide +kernel
  | x :: a, y :: b => by
    rw [List.map_cons, List.map_cons, PySem.W.dataLt_cons (by simp [PySem.W.alike]), HT.lexLt_cons, PySem.W.dataLt_int, ints_lt a b]
    by_cases e : x = y
    · rw [if_pos e, if_pos (by simp [PyData.eqv, e])]
    · rw [if_neg e, if_neg (by simp [PyData.eqv, e])]
theorem lot_lt (a b : List Int) : PySem.W.dataLt (lotKey a) (lotKey b) = HT.lexLt (lotK a) (lotK b) := by
  unfold lotKey lotK
  rw [PySem.W.dataLt_pair (by simp [PySem.W.alike]) (by simp [PySem.W.alike, PySem.W.alike_ints]), HT.lexLt_cons, PySem.W.dataLt_int, PySem.W.dataLt_tuple, ints_lt]
  by_cases e : (a.length : Int) = (b.length : Int)
  · rw [if_pos (by simp only [PyData.eqv]; exact beq_iff_eq.mpr e), if_pos e]
    by_cases c : a = b
    · subst c
      rw [if_pos (by simp [PyData.eqv, Rg.eqvA_ints8])]
      rw [← ints_lt]
      exact (PyProof.Rows.lex_irrefl _).symm
    · rw [if_neg (by simp [PyData.eqv, Rg.eqvA_ints8, c])]
  · rw [if_neg (by simp only [PyData.eqv]; exact fun z => e (eq_of_beq z)), if_neg e]
theorem lotLe_iff {u v : List Int} : lotLe u v = true ↔ LLe u v := by
  unfold lotLe LLe
  rw [lot_lt]
  cases HT.lexLt (lotK v) (lotK u) <;> simp
theorem uniq_of {α : Type} {R : α → α → Prop} (anti : ∀ a b, R a b → R b a → a = b) : ∀ {xs ys : List α}, xs.Perm ys → xs.Pairwise R → ys.Pairwise R → xs = ys
  | [], ys, p, _, _ => (List.nil_perm.mp p).symm
  | x :: xs, [], p, _, _ => by cases p.length_eq
  | x :: xs, y :: ys, p, hx, hy => by
    rw [List.pairwise_cons] at hx hy
    have e : x = y := by
      have m1 : y ∈ x :: xs := p.mem_iff.mpr (List.mem_cons_self ..)
      have m2 : x ∈ y :: ys := p.mem_iff.mp (List.mem_cons_self ..)
      rcases List.mem_cons.mp m1 with z | z
      · exact z.symm
      · rcases List.mem_cons.mp m2 with z' | z'
        · exact z'
        · exact anti _ _ (hx.1 _ z) (hy.1 _ z')
    subst e
    rw [uniq_of anti p.cons_inv hx.2 hy.2]
/-- all lots, in order -/
structure AllL (n : Nat) (L : List (List Int)) : Prop where
  pm : L.Perm (lotsN n)
  od : L.Pairwise LLe
theorem AllL.eq {n : Nat} {L M : List (List Int)} (a : AllL n L) (b : AllL n M) : L = M := uniq_of (fun _ _ => LLe.anti) (a.pm.trans b.pm.symm) a.od b.od
theorem AllL.filter {n : Nat} {L M : List (List Int)} (a : AllL n L) {p : List Int → Bool} (pm : M.Perm ((lotsN n).filter p)) (od : M.Pairwise LLe) : M = L.filter p := uniq_of (fun _ _ => LLe.anti) (pm.trans (a.pm.filter _).symm) od (a.od.filter _)
theorem AllL.len {n : Nat} {L : List (List Int)} (a : AllL n L) : L.length = 2 ^ n := by rw [a.pm.length_eq, lotsN_length]
/-! ### unlike lots -/
def unl (ls ms l : List Int) : Bool := !decide (sortV ls l = sortV ms l)
def shortB (ls l : List Int) : Bool := decide (sortV ls l = "short")
theorem unl_sym (ls ms l : List Int) : unl ls ms l = unl ms ls l := by
  unfold unl
  congr 1
  by_cases e : sortV ls l = sortV ms l
  · rw [decide_eq_true e, decide_eq_true e.symm]
  · rw [decide_eq_false e, decide_eq_false fun z => e z.symm]
theorem rest_short {ls l : List Int} (h : Lot ls.length l) : (sortV ls (restN ls.length l ls.length) = "short" ↔ sortV ls l = "long") := by
  rw [sort_rest (rest_sum h)]
  unfold opp
  rcases sort_cases ls l with ⟨_, e⟩ | ⟨_, e⟩ | ⟨_, e⟩ <;> rw [e]
  · simp only [if_neg (show ¬ (("level" : Str) = "short") from fun z => ne_sv z.symm), if_neg (show ¬ (("level" : Str) = "long") from fun z => ne_lv z.symm)]
    exact ⟨fun z => absurd z.symm ne_sv, fun z => absurd z.symm ne_lv⟩
  · simp only [if_pos]
    exact ⟨fun z => absurd z.symm ne_sl, fun z => absurd z ne_sl⟩
  · simp only [if_neg (show ¬ (("long" : Str) = "short") from fun z => ne_sl z.symm), if_pos]
theorem same_sorts {ls ms : List Int} (e : ls.length = ms.length) (h : ∀ l ∈ lotsN ls.length, shortB ls l = shortB ms l) : ∀ l ∈ lotsN ls.length, sortV ls l = sortV ms l := fun l hl => by
  have lot := lotsN_lot hl
  have lot2 : Lot ms.length l := by rw [← e]; exact lot
  have s1 : sortV ls l = "short" ↔ sortV ms l = "short" := by
    have := h l hl
    unfold shortB at this
    rw [decide_eq_decide] at this
    exact this
  have s2 : sortV ls l = "long" ↔ sortV ms l = "long" := by
    rw [← rest_short lot, ← rest_short lot2]
    have := h _ (nat_lots (fun j => !hasB l j) ls.length)
    unfold shortB at this
    rw [decide_eq_decide] at this
    rw [← e]
    exact this
  rcases sort_cases ls l with ⟨_, a⟩ | ⟨_, a⟩ | ⟨_, a⟩
  · rcases sort_cases ms l with ⟨_, b⟩ | ⟨_, b⟩ | ⟨_, b⟩
    · rw [a, b]
    · exact absurd (a.symm.trans (s1.mpr b)).symm ne_sv
    · exact absurd (a.symm.trans (s2.mpr b)).symm ne_lv
  · rw [a, s1.mp a]
  · rw [a, s2.mp a]
theorem filter_same {p q : List Int → Bool} {L : List (List Int)} (h : L.filter p = L.filter q) : ∀ l ∈ L, p l = q l := fun l hl => by
  cases c : p l with
  | true =>
    have m : l ∈ L.filter p := List.mem_filter.mpr ⟨hl, c⟩
    rw [h] at m
    exact (List.mem_filter.mp m).2.symm
  | false =>
    cases d : q l with
    | false => rfl
    | true =>
      have m : l ∈ L.filter q := List.mem_filter.mpr ⟨hl, d⟩
      rw [← h] at m
      rw [(List.mem_filter.mp m).2] at c
      cases c
/-- the books are the same just if no lot is unlike -/
theorem books {ls ms : List Int} {L : List (List Int)} (e : ls.length = ms.length) (a : AllL ls.length L) : decide (L.filter (shortB ls) = L.filter (shortB ms)) = (L.filter (unl ls ms)).isEmpty := by
  by_cases c : L.filter (shortB ls) = L.filter (shortB ms)
  · rw [decide_eq_true c]
    have h := same_sorts e fun l hl => filter_same c l (a.pm.mem_iff.mpr hl)
    have z : L.filter (unl ls ms) = [] := List.filter_eq_nil_iff.mpr fun l hl => by
      unfold unl
      rw [decide_eq_true (h l (a.pm.mem_iff.mp hl))]
      decide
    rw [z]
    rfl
  · rw [decide_eq_false c]
    cases d : L.filter (unl ls ms) with
    | cons _ _ => rfl
    | nil =>
      exfalso
      refine c (List.filter_congr fun l hl => ?_)
      have := List.filter_eq_nil_iff.mp d l hl
      unfold unl at this
      have e2 : sortV ls l = sortV ms l := by
        by_cases z : sortV ls l = sortV ms l
        · exact z
        · rw [decide_eq_false z] at this
          exact absurd rfl this
      unfold shortB
      rw [e2]
end K
namespace K
open PySem L2 Rg LamX
open Evl (pss_cut)
/-! ### lists of tuples of numbers, as data -/
theorem tl_dp {K : PySem.W.Frag} {H : Hp} : ∀ {xs : List V} {nss : List (List Int)}, TL H xs nss → DpAll K H xs (nss.map fun ns => PyData.tuple (ns.map PyData.int))
  | _, _, .nil => .nil
  | _, _, .cons ⟨a, e, h⟩ t => by
    subst e
    exact .cons (.tup (.inl (.inl h)) (dp_ints _)) (tl_dp t)
theorem tl_lay : ∀ nss : List (List Int), PyData.canLayAll0 (nss.map fun ns => PyData.tuple (ns.map PyData.int)) = true
  | [] => by simp [PyData.canLayAll0]
  | ns :: nss => by simp [PyData.canLayAll0, PyData.canLay0, lay_ints ns, tl_lay nss]
theorem tl_deep : ∀ nss : List (List Int), PyData.depthAll (nss.map fun ns => PyData.tuple (ns.map PyData.int)) ≤ 1
  | [] => by simp [PyData.depthAll]
  | ns :: nss => by
    have := tl_deep nss
    simp [PyData.depthAll, PyData.depth, deep_ints ns]
    omega
theorem tl_shaped (nss : List (List Int)) : SeqAt.shaped (.list (nss.map fun ns => PyData.tuple (ns.map PyData.int))) = true := by
  have := tl_deep nss
  simp [SeqAt.shaped, PyData.canLay0, PyData.depth, tl_lay nss]
  omega
theorem eqv_tup (a b : List Int) : PyData.eqv (.tuple (a.map PyData.int)) (.tuple (b.map PyData.int)) = decide (a = b) := by
  simp [PyData.eqv, Rg.eqvA_ints8]
theorem sh_tup (l : List Int) : SeqAt.shaped (.tuple (l.map PyData.int)) = true := by
  simp [SeqAt.shaped, PyData.canLay0, PyData.depth, lay_ints l, deep_ints l]
theorem TL.ext {H H' : Hp} {xs : List V} {nss : List (List Int)} (h : TL H xs nss) (e : ExtN H H') : TL H' xs nss := par_imp (fun _ _ ⟨a, q, z⟩ => ⟨a, q, e _ _ z (fun _ z => nomatch z)⟩) h
theorem TL.mut {H : Hp} {D : Addr} {us ws : List V} {xs : List V} {nss : List (List Int)} (h : TL H xs nss) (hD : H D = some (.lst us)) : TL (upd H D (.lst ws)) xs nss := par_imp (fun _ _ ⟨a, q, z⟩ => ⟨a, q, by
  rw [upd_ne fun e => ?_]
  · exact z
  · rw [e, hD] at z
    cases z⟩) h
theorem tl_at {H : Hp} {xs : List V} {nss : List (List Int)} (h : TL H xs nss) {i : Nat} {ns : List Int} (e : nss[i]? = some ns) : ∃ a, xs[i]? = some (.ref a) ∧ H a = some (.tup (ns.map V.int)) := by
  have hi : i < xs.length := by rw [par_len h]; exact (List.getElem?_eq_some_iff.mp e).1
  obtain ⟨y, h1, a, h2, h3⟩ := par_get h (List.getElem?_eq_getElem hi)
  rw [e] at h1
  cases h1
  exact ⟨a, by rw [List.getElem?_eq_getElem hi, h2], h3⟩

theorem tl_nil (nss : List (List Int)) : PyData.eqv (.list (nss.map fun ns => PyData.tuple (ns.map PyData.int))) (.list []) = nss.isEmpty := by
  cases nss <;> simp [PyData.eqv, PyData.eqvAll] <;> rfl
theorem tl_eqA : ∀ nss mss : List (List Int), PyData.eqvAll (nss.map fun ns => PyData.tuple (ns.map PyData.int)) (mss.map fun ns => PyData.tuple (ns.map PyData.int)) = decide (nss = mss)
  | [], [] => by simp [PyData.eqvAll]
  | [], _ :: _ => by simp [PyData.eqvAll]
  | _ :: _, [] => by simp [PyData.eqvAll]
  | ns :: nss, ms :: mss => by
    have e := eqv_tup ns ms
    rw [List.map_cons, List.map_cons, PyData.eqvAll, e, tl_eqA nss mss]
    by_cases c : ns = ms <;> by_cases d : nss = mss <;> simp [c, d]
theorem tl_eqT (nss mss : List (List Int)) : PyData.eqv (.tuple (nss.map fun ns => PyData.tuple (ns.map PyData.int))) (.tuple (mss.map fun ns => PyData.tuple (ns.map PyData.int))) = decide (nss = mss) := by
  rw [← tl_eqA]
  simp [PyData.eqv]
theorem tl_shapedT (nss : List (List Int)) : SeqAt.shaped (.tuple (nss.map fun ns => PyData.tuple (ns.map PyData.int))) = true := by
  have := tl_deep nss
  simp [SeqAt.shaped, PyData.canLay0, PyData.depth, tl_lay nss]
  omega

theorem tl_any (L : List (List Int)) (m : List Int) : ((L.map fun ns => PyData.tuple (ns.map PyData.int)).any fun z => PyData.eqv z (.tuple (m.map PyData.int))) = decide (m ∈ L) := by
  rw [List.any_map]
  by_cases h : m ∈ L
  · rw [decide_eq_true h, List.any_eq_true]
    exact ⟨m, h, by rw [Function.comp_apply, eqv_tup]; exact decide_eq_true rfl⟩
  · rw [decide_eq_false h, List.any_eq_false]
    intro x hx
    rw [Function.comp_apply, eqv_tup]
    intro z
    rw [of_decide_eq_true z] at hx
    exact h hx
theorem less_lot {n : Nat} {ns : List Int} (h : Lot n ns) {i : Nat} {m : List Int} (hm : m ∈ lessN ns i) : Lot n m ∧ m.length ≤ ns.length := by
  obtain ⟨j, _, rfl⟩ := List.mem_map.mp hm
  have sub : (ns.take j ++ ns.drop (j + 1)).Sublist ns := by
    have e : ns.take j ++ ns.drop j = ns := List.take_append_drop j ns
    have d : (ns.drop (j + 1)).Sublist (ns.drop j) := by
      rw [← List.drop_drop]
      exact List.drop_sublist ..
    have z := List.Sublist.append (List.Sublist.refl (ns.take j)) d
    rw [e] at z
    exact z
  exact ⟨⟨h.1.sublist sub, fun b hb => h.2 b (sub.subset hb)⟩, sub.length_le⟩
def longB (ls l : List Int) : Bool := decide (sortV ls l = "long")
def levB (ls l : List Int) : Bool := decide (sortV ls l = "level")
/-- those within which no other one lies, by one bar less -/
def leastF (G : List (List Int)) : List (List Int) := G.filter fun l => !((lessN l l.length).any fun m => decide (m ∈ G))
/-- those that are not another one less a bar -/
def greatF (G : List (List Int)) : List (List Int) := G.filter fun l => !decide (l ∈ G.flatMap fun s => lessN s s.length)
theorem lots_tl {H : Hp} {kf : V → List Int} : ∀ {xs : List V}, LotsAt H xs kf → TL H xs (xs.map kf)
  | [], _ => .nil
  | x :: xs, h => .cons (h x (List.mem_cons_self ..)) (lots_tl fun y hy => h y (List.mem_cons_of_mem _ hy))
theorem AllL.of_lots {n : Nat} {xs : List V} {kf : V → List Int} (pm : (xs.map kf).Perm (lotsN n)) (pw : xs.Pairwise fun u v => lotLe (kf u) (kf v) = true) : AllL n (xs.map kf) := ⟨pm, List.pairwise_map.mpr (pw.imp fun h => lotLe_iff.mp h)⟩
section
variable {P : Program} {w : World} {K : PySem.W.Frag} {mg : Str → Option Value} {base : Heap}
theorem RingW.ext {C : Addr} {H H' : Hp} {r : Addr} {ls : List Int} (h : RingW K C H r ls) (s : ExtN H H') : RingW K C H' r ls := by
  obtain ⟨dx, t, h1, h2⟩ := h
  refine ⟨dx, t, s _ _ h1 (fun _ z => nomatch z), ?_⟩
  rcases h2 with (h2 | ⟨o, h2⟩) | h2
  · exact .inl (.inl (s _ _ h2 (fun _ z => nomatch z)))
  · exact .inl (.inr ⟨o, s _ _ h2 (fun _ z => nomatch z)⟩)
  · exact .inr h2
structure MethV (P : Program) (w : World) (K : PySem.W.Frag) (mg : Str → Option Value) (base : Heap) (C : Addr) (x : Str) (ps : List Str) (sp : Sp) (f : Addr) (fd : FuncData) : Prop where
  m : Meth K C x f
  ok : FnOk P w K mg base CX0 6 f fd ps sp
  b : Binds K fd ps []
def spSortV (K : PySem.W.Frag) (C : Addr) : Sp := fun vs H Q _ => ∃ (r a : Addr) (ls ns : List Int), vs = [.ref r, .ref a] ∧ RingW K C H r ls ∧ ls.length ≤ 8 ∧ H a = some (.tup (ns.map V.int)) ∧ Lot ls.length ns ∧ ns.length ≤ 8 ∧ ∀ H', Same H H' → Q (.str (sortV ls ns)) H'
theorem ok_sortVal {C f : Addr} {c : Cs} {fd : FuncData} (F : FnOk P w K mg base (L2.CX P w) 6 f fd ["self", "lot"] (spSortOf K C c)) : FnOk P w K mg base CX0 6 f fd ["self", "lot"] (spSortV K C) :=
  (fn_calm F).imp fun vs H Q E ⟨r, a, ls, ns, hv, ring, l8, ha, lot, n8, q⟩ => ⟨r, .ref a, ls, hv, ring, l8, LotV.tpl ha lot n8 q⟩
/-! ### lots_by_sort -/
def spBy (K : PySem.W.Frag) (C : Addr) (T : List (Addr × Str)) : Sp := fun vs H Q _ => ∃ (r : Addr) (ls : List Int) (z : Str), vs = [.ref r, .str z] ∧ RingW K C H r ls ∧ 3 ≤ ls.length ∧ ls.length ≤ 8 ∧ Tabs T H ∧
  ∀ (p : Addr) (xs : List V) (kf : V → List Int) (H' : Hp), ExtN H H' → Tabs T H' → H' p = some (.tup xs) → LotsAt H' xs kf → (xs.map kf).Perm ((lotsN ls.length).filter fun l => decide (sortV ls l = z)) → (xs.Pairwise fun u v => lotLe (kf u) (kf v) = true) → Q (.ref p) H'
abbrev nBy : List Str := ["ring", "sort", "lot"]
theorem scBy : FnScope nBy ["ring", "sort"] (defScope sLotsBySort) := ⟨rfl, rfl, rfl, by decide +kernel, rfl, by decide +kernel, by decide +kernel⟩
theorem ok_by {C f fA fS fN : Addr} {fd fdA fdS fdN : FuncData} {P0 P1 P2 : Addr} (F : Fun K "lots_by_sort" "lots_by_sort" sLotsBySort f fd) (T : Bi mg) (R : RingC K mg C) (LO : DefAt P w K mg base CX0 4 "lots_of" ["many"] (spLotsOf K (T2 P0 P1 P2)) fA fdA)
    (M : MethV P w K mg base C "sort_of" ["self", "lot"] (spSortV K C) fS fdS) (NM : Meth K C "__len__" fN) (NL : FnOk P w K mg base CX0 1 fN fdN ["self"] (spRLen K C)) (NB : Binds K fdN ["self"] []) : FnOk P w K mg base CX0 7 f fd ["ring", "sort"] (spBy K C (T2 P0 P1 P2)) := by
  refine F.ok scBy (fun vs H Q E h => ?_) (fun cdv A outer s H vs Q E hr h => ?_)
  · obtain ⟨r, ls, z, rfl, _⟩ := h
    rfl
  · have nd := scBy.nd
    refine ⟨_, pss_one (ps_ret (pe_callTy call_tuple_of (by rfl) T.tuple (by decide +kernel) (pa_cons (pe_lc (own := [("lot", 2)]) (g := gName 2) (te := tVar 2) rfl nd (pi_tup (pe_call LO.ok (hr.mono (by decide)) rfl LO.g LO.kp LO.b .nil pass0 (pa_cons (pe_callB (call_lenO NL (hr.mono (by decide)) NB) (by rfl) T.len PySem.boot_len (pa_cons (pv 0) pa_nil)) pa_nil)))
        (blkOk_by (N := nBy) (sc := defScope sLotsBySort) (by decide +kernel)) (fun _ _ _ _ _ => pg_name (i := 2) nd rfl (Or.inl rfl)) (fun _ _ _ _ _ => pts_one (pt_cmpR op_eq (pe_meth (pv 0) R.cl M.m M.ok hr M.b .nil pass0 (pa_cons (pv 2) pa_nil)) (pv 1) (nomark _))) (fun _ _ _ _ _ => pv 2)) pa_nil))), ?_⟩
    obtain ⟨r, ls, z, rfl, ring, l3, l8, tab, q⟩ := h
    obtain ⟨dx, t, hr0, ht⟩ := id ring
    have noS : (rf t ls).lookup ("sort_of" : Str) = none := rf_no _ _ (by decide +kernel) (by decide +kernel) (by decide +kernel) (by decide +kernel)
    refine ⟨_, rfl, r, C, dx, _, rfl, hr0, NM.at_, NM.fn, r, ls, rfl, ring, _, rfl, by omega, by omega, ?_⟩
    refine ⟨ls.length, rfl, by omega, l8, tab, fun p xs kf H1 e1 tab1 hp la pm pw => ⟨p, rfl, ⟨_, .inl (.inl hp)⟩, fun D hD => ?_⟩⟩
    have ring1 := ring.ext e1
    have hr1 := e1 _ _ hr0 (fun _ z => nomatch z)
    have xl : xs.length ≤ 256 := by
      have e := pm.length_eq
      rw [List.length_map, lotsN_length] at e
      rw [e]
      exact Nat.pow_le_pow_right (by decide) (show ls.length ≤ 8 from l8)
    refine lc_tup (K := K) (a := p) (xs := xs) (fun i H' => Same H1 H' ∧ H' D = some (.lst ((xs.take i).filter fun x => decide (sortV ls (kf x) = z)))) ⟨(Same.refl H1).new hD, upd_same⟩ (fun i H' _ q => .inl (.inl (q.1 _ _ hp))) ?_ ?_
    · rintro i x H' hi ⟨s2, h2⟩
      have hx := List.mem_of_getElem? hi
      have hil : i < xs.length := (List.getElem?_eq_some_iff.mp hi).1
      obtain ⟨a, rfl, ha⟩ := la x hx
      have lot := lotsN_lot (pm.mem_iff.mp (List.mem_map.mpr ⟨_, hx, rfl⟩))
      refine ⟨rfl, _, rfl, r, dx, _, rfl, s2 _ _ hr1, noS, _, rfl, r, a, ls, kf (.ref a), rfl, ring1.same s2, l8, s2 _ _ ha, lot, Nat.le_trans (lot_len lot) l8, fun H6 s6 => ⟨_, rfl, rfl, _, rfl, ?_⟩⟩
      rw [dec_str, ← take_snoc hi, List.filter_append]
      have h6 := s6 _ _ h2
      cases e : decide (sortV ls (kf (.ref a)) = z) with
      | true =>
        refine iteT ⟨_, rfl, _, h6, ?_, (s2.trans s6).mut hD, ?_⟩
        · have := List.length_filter_le (fun x => decide (sortV ls (kf x) = z)) (xs.take i)
          rw [List.length_take] at this
          exact sm (by omega)
        · rw [upd_same]
          simp [List.filter, e]
      | false =>
        refine iteF ⟨s2.trans s6, ?_⟩
        rw [h6]
        simp [List.filter, e]
    · rintro H2 ⟨s2, h2⟩
      rw [List.take_length] at h2
      refine ⟨D, _, rfl, .inl ⟨SqL.of h2, fun t2 ht2 => ?_⟩⟩
      have s3 : Same H1 (upd H2 t2 (.tup (xs.filter fun x => decide (sortV ls (kf x) = z)))) := s2.trans ((Same.refl H2).new ht2)
      refine q t2 _ kf _ (e1.trans (ExtN.of s3)) (tab1.ext s3) upd_same (fun x hx => ?_) ?_ (List.Pairwise.filter _ pw)
      · obtain ⟨a, e, ha⟩ := la x (List.mem_filter.mp hx).1
        exact ⟨a, e, s3 _ _ ha⟩
      · rw [show (fun x => decide (sortV ls (kf x) = z)) = (fun l => decide (sortV ls l = z)) ∘ kf from rfl, ← List.filter_map]
        exact pm.filter _
/-! ### the lots that are told of a ring -/
def spTold (K : PySem.W.Frag) (C cR : Addr) (T : List (Addr × Str)) (f : List Int → List (List Int) → List (List Int)) : Sp := fun vs H Q E => ∃ v : V, vs = [v] ∧ ((∃ (r : Addr) (ls : List Int), v = .ref r ∧ RingW K C H r ls ∧ 3 ≤ ls.length ∧ ls.length ≤ 8 ∧ Tabs T H ∧
  ∀ (p : Addr) (xs : List V) (nss : List (List Int)) (H' : Hp), ExtN H H' → Tabs T H' → H' p = some (.tup xs) → TL H' xs nss → (∀ L, AllL ls.length L → nss = f ls L) → Q (.ref p) H') ∨ (NoR K C H v ∧ Errs E cR "part" (.str "ring") H))
theorem scLevel : FnScope ["ring"] ["ring"] (defScope sLevelLots) := ⟨rfl, rfl, rfl, by decide +kernel, rfl, by decide +kernel, by decide +kernel⟩
theorem ok_level {C cR f fW fB : Addr} {fd fdW fdB : FuncData} {P0 P1 P2 : Addr} (F : Fun K "level_lots" "level_lots" sLevelLots f fd) (W : DefAt P w K mg base (L2.CX P w) 3 "want_ring" ["value", "part"] (spWantR K C cR) fW fdW) (BY : DefAt P w K mg base CX0 7 "lots_by_sort" ["ring", "sort"] (spBy K C (T2 P0 P1 P2)) fB fdB) : FnOk P w K mg base (L2.CX P w) 8 f fd ["ring"] (spTold K C cR (T2 P0 P1 P2) fun ls L => L.filter (levB ls)) := by
  refine F.okX scLevel (fun vs H Q E h => ?_) (fun cdv A outer s H vs Q E hr h => ?_)
  · obtain ⟨v, rfl, _⟩ := h
    rfl
  · refine ⟨_, pss_cons (ps_expr (pe_call W.ok (hr.mono (by decide)) rfl W.g W.kp W.b .nil (passes_call (takes_of rfl rfl rfl rfl) (fun _ _ _ _ h => h)) (pa_cons (pv 0) (pa_cons pe_str pa_nil))))
      (pss_one (ps_ret (pe_call BY.ok hr rfl BY.g BY.kp BY.b .nil pass0 (pa_cons (pv 0) (pa_cons pe_str pa_nil))))), ?_⟩
    obtain ⟨v, rfl, ⟨r, ls, rfl, ring, l3, l8, tab, q⟩ | ⟨no, er⟩⟩ := h
    · refine ⟨_, rfl, _, "ring", rfl, .inl ⟨r, ls, rfl, ring, _, rfl, r, ls, "level", rfl, ring, l3, l8, tab, fun p xs kf H' e t hp la pm pw => ?_⟩⟩
      exact q p xs (xs.map kf) H' e t hp (lots_tl la) fun L aL => aL.filter pm (List.pairwise_map.mpr (pw.imp fun h => lotLe_iff.mp h))
    · exact ⟨_, rfl, _, "ring", rfl, .inr ⟨no, er⟩⟩
theorem walk_any {J : It} {n : Nat} {G : Hp → Prop} {Y : Nat → Hp → V → Hp → Prop} (w : Walk J n G Y) {T : V → Hp → (Hp → Prop) → Prop} {H0 : Hp} {Qd : Hp → Prop} (Pv : Nat → Hp → Prop) (h0 : Pv 0 H0) (hG : ∀ i H, i ≤ n → Pv i H → G H)
    (hs : ∀ i x H H', i < n → Pv i H → Y i H x H' → T x H' (Pv (i + 1))) (hd : ∀ H, Pv n H → Qd H) :
    ∃ W : Nat → Nat → Hp → Prop, (∃ m, W 0 m H0) ∧ ∀ i m H, W i m H →
      (J.stop i H ∧ Qd H) ∨ (J.go i H ∧ ∃ Nx : Hp → Prop, (∀ H', Nx H' → ∃ m', m' < m ∧ W (i + 1) m' H') ∧ ∀ x H', J.yld i H x H' → T x H' Nx) := by
  refine ⟨fun i m H => m = n - i ∧ i ≤ n ∧ Pv i H, ⟨n, by simp, Nat.zero_le _, h0⟩, ?_⟩
  rintro i m H ⟨rfl, hi, p⟩
  have q := hG i H hi p
  by_cases hlt : i < n
  · exact .inr ⟨w.goes i H hlt q, Pv (i + 1), fun H' p' => ⟨n - (i + 1), by omega, rfl, hlt, p'⟩, fun x H' y => hs i x H H' hlt p (w.yields i H x H' hlt q y)⟩
  · have e : i = n := by omega
    subst e
    exact .inl ⟨w.stops H q, hd H p⟩
end
end K
namespace K
open PySem L2 Rg LamX
open Evl (pss_cut)
theorem first_atU {m : Int} : ∀ {ns : List Int}, m ∈ ns → ∃ j : Nat, ns[j]? = some m ∧ ∀ i : Nat, i < j → ns[i]? ≠ some m
  | x :: ns, h => by
    by_cases c : x = m
    · exact ⟨0, by rw [c]; rfl, fun i hi => absurd hi (Nat.not_lt_zero _)⟩
    · rcases List.mem_cons.mp h with e | e
      · exact absurd e.symm c
      · obtain ⟨j, h1, h2⟩ := first_atU e
        refine ⟨j + 1, h1, fun i hi => ?_⟩
        cases i with
        | zero => exact fun z => c (Option.some.inj z)
        | succ i => exact h2 i (by omega)
section
variable {P : Program} {w : World} {K : PySem.W.Frag} {mg : Str → Option Value} {base : Heap}
def tooV (ls : List Int) (v : V) : Prop := (closesB ls = true → v = .non) ∧ (closesB ls = false → ∃ (j : Nat) (m : Int), v = .int (j : Nat) ∧ ls[j]? = some m ∧ (∀ y ∈ ls, y ≤ m) ∧ ∀ i, i < j → ls[i]? ≠ some m)
def spTooL (K : PySem.W.Frag) (C cR : Addr) : Sp := fun vs H Q E => ∃ v : V, vs = [v] ∧ ((∃ (r : Addr) (ls : List Int), v = .ref r ∧ RingAt K C H r ls ∧ 0 < ls.length ∧ ∀ v, tooV ls v → Q v H) ∨ (NoR K C H v ∧ Errs E cR "part" (.str "ring") H))
theorem scTooL : FnScope ["ring"] ["ring"] (defScope sTooLong) := ⟨rfl, rfl, rfl, by decide +kernel, rfl, by decide +kernel, by decide +kernel⟩
theorem ok_tooL {C cR f fW : Addr} {fd fdW : FuncData} (F : Fun K "too_long" "too_long" sTooLong f fd) (T : Bi mg) (R : RingC K mg C) (W : DefAt P w K mg base (L2.CX P w) 3 "want_ring" ["value", "part"] (spWantR K C cR) fW fdW) : FnOk P w K mg base (L2.CX P w) 4 f fd ["ring"] (spTooL K C cR) := by
  refine F.okX scTooL (fun vs H Q E h => ?_) (fun cdv A outer s H vs Q E hr h => ?_)
  · obtain ⟨v, rfl, _⟩ := h
    rfl
  · refine ⟨_, pss_cons (ps_expr (pe_call W.ok hr rfl W.g W.kp W.b .nil (passes_call (takes_of rfl rfl rfl rfl) (fun _ _ _ _ h => h)) (pa_cons (pv 0) (pa_cons pe_str pa_nil))))
      (pss_cons (ps_if (pt_val (pe_fld (pv 0) rfl)) (pss_one (ps_ret pe_non)) pss_nil)
      (pss_one (ps_ret (pe_mG ty_tf PySem.F.plainAttrs_tuple PySem.F.slot_tuple_index PySem.F.type_tuple_index mt_tupIdx (pe_fld (pv 0) rfl) (pa_cons (pe_callB (cr_maxT rfl) (by rfl) T.max (by decide +kernel) (pa_cons (pe_fld (pv 0) rfl) pa_nil)) pa_nil))))), ?_⟩
    obtain ⟨v, rfl, ⟨r, ls, rfl, W1, l0, q⟩ | ⟨no, er⟩⟩ := h
    · obtain ⟨dx, t, hr0, ht, hf⟩ := id W1
      refine ⟨_, rfl, _, "ring", rfl, .inl ⟨r, ls, rfl, W1.weak, _, rfl, r, C, dx, _, _, rfl, hr0, R.cl, R.nC, rf_closes _ _, _, rfl, ?_⟩⟩
      cases e : closesB ls with
      | true => exact ite2 (fun _ => q _ ⟨fun _ => rfl, fun z => by rw [e] at z; cases z⟩) (fun z => absurd rfl z)
      | false =>
        refine ite2 (fun z => by cases z) (fun _ => ?_)
        refine ⟨_, rfl, r, C, dx, _, _, rfl, hr0, R.cl, R.nL, rf_lengths _ _, ⟨t, hf.choose, _, rfl, hf.choose_spec.1, hf.choose_spec.2⟩, _, rfl, r, C, dx, _, _, rfl, hr0, R.cl, R.nL, rf_lengths _ _, t, ls, rfl, ht, l0, fun m hm hx => ?_⟩
        obtain ⟨j, h1, h2⟩ := first_atU hm
        exact ⟨t, ls, m, j, rfl, rfl, ht, h1, h2, q _ ⟨fun z => (by rw [e] at z; cases z), fun _ => ⟨j, m, rfl, h1, hx, h2⟩⟩⟩
    · exact ⟨_, rfl, _, "ring", rfl, .inr ⟨no, er⟩⟩
theorem scTooLongI : FnScope ["self", "bar"] ["self", "bar"] (defScope sTooLongInit) := ⟨rfl, rfl, rfl, by decide +kernel, rfl, by decide +kernel, by decide +kernel⟩
theorem ok_tooLongI {f : Addr} {fd : FuncData} (F : Fun K "__init__" "TooLong.__init__" sTooLongInit f fd) : FnOk P w K mg base CX0 1 f fd ["self", "bar"] (spIni K "bar") := by
  refine F.ok scTooLongI (fun vs H Q E h => ?_) (fun cdv A outer s H vs Q E hr h => ?_)
  · obtain ⟨a, C, v, rfl, _⟩ := h
    rfl
  · refine ⟨_, pss_one (ps_ost (pv 0) (pv 1)), ?_⟩
    obtain ⟨a, C, v, rfl, o, n, ha, k⟩ := h
    exact ⟨_, rfl, _, rfl, a, C, rfl, o, n, .inl ⟨ha, fun d h1 h2 => k d h1 h2⟩⟩
/-- the first bar that is longest -/
def FirstL (ls : List Int) (j : Nat) : Prop := ∃ m : Int, ls[j]? = some m ∧ (∀ y ∈ ls, y ≤ m) ∧ ∀ i, i < j → ls[i]? ≠ some m
/-! ### want_closed, want_no_level, want_clear -/
def spWC (K : PySem.W.Frag) (C cR cT : Addr) : Sp := fun vs H Q E => ∃ v : V, vs = [v] ∧ ((∃ (r : Addr) (ls : List Int), v = .ref r ∧ RingAt K C H r ls ∧ 0 < ls.length ∧ ((closesB ls = true ∧ Q .non H) ∨ (closesB ls = false ∧ ∀ j : Nat, FirstL ls j → Errs E cT "bar" (.int (j : Nat)) H))) ∨ (NoR K C H v ∧ Errs E cR "part" (.str "ring") H))
theorem scWC : FnScope ["ring", "bar"] ["ring"] (defScope sWantClosed) := ⟨rfl, rfl, rfl, by decide +kernel, rfl, by decide +kernel, by decide +kernel⟩
theorem ok_wc {C cR cT f fT fI : Addr} {fd fdT fdI : FuncData} (F : Fun K "want_closed" "want_closed" sWantClosed f fd) (TL : DefAt P w K mg base (L2.CX P w) 4 "too_long" ["ring"] (spTooL K C cR) fT fdT) (B : ErrAt P w K mg base "TooLong" "bar" cT fI fdI) : FnOk P w K mg base (L2.CX P w) 5 f fd ["ring"] (spWC K C cR cT) := by
  refine F.okX scWC (fun vs H Q E h => ?_) (fun cdv A outer s H vs Q E hr h => ?_)
  · obtain ⟨v, rfl, _⟩ := h
    rfl
  · have nd := scWC.nd
    refine ⟨_, (pss_cons (ps_set (i := 1) nd rfl (Or.inl rfl) (pe_call TL.ok (hr.mono (by decide)) rfl TL.g TL.kp TL.b .nil (passes_call (takes_of rfl rfl rfl rfl) (fun _ _ _ _ h => h)) (pa_cons (pv 0) pa_nil)))
      (pss_one (ps_if (pt_cmpR op_notN (pv 1) pe_non (nomark _)) (pss_one (ps_raise rfl (takes_of rfl rfl rfl rfl) (pmk_oex B.oex B.ic B.ti B.ok (hr.mono (by decide)) B.b .nil pass0 rfl B.g (pa_cons (pv 1) pa_nil)))) pss_nil))), ?_⟩
    obtain ⟨v, rfl, ⟨r, ls, rfl, ra, l0, q⟩ | ⟨no, er⟩⟩ := h
    · refine ⟨_, rfl, _, rfl, .inl ⟨r, ls, rfl, ra, l0, fun v tv => ?_⟩⟩
      rcases q with ⟨c, q⟩ | ⟨c, q⟩
      · have e := tv.1 c
        subst e
        exact ⟨_, rfl, rfl, _, rfl, iteF q⟩
      · obtain ⟨j, m, rfl, h1, h2, h3⟩ := tv.2 c
        exact ⟨_, rfl, rfl, _, rfl, iteT ⟨_, rfl, err_made B.oex B.nf (q j ⟨m, h1, h2, h3⟩)⟩⟩
    · exact ⟨_, rfl, _, rfl, .inr ⟨no, er⟩⟩
end
end K
namespace K
open PySem L2 Rg
open Evl (pss_cut)
/-! ### strands of bars, each with a sign -/
abbrev Strd := List (Int × Int)
def net (ls : List Int) (st : Strd) : Int := (st.map fun q => ls.getD q.1.toNat 0 * q.2).sum
theorem par_take {α β : Type} {R : α → β → Prop} : ∀ (n : Nat) {xs : List α} {ys : List β}, Paired R xs ys → Paired R (xs.take n) (ys.take n)
  | 0, _, _, _ => by rw [List.take_zero, List.take_zero]; exact .nil
  | n + 1, _, _, .nil => .nil
  | n + 1, _, _, .cons h t => .cons h (par_take n t)
theorem par_drop {α β : Type} {R : α → β → Prop} : ∀ (n : Nat) {xs : List α} {ys : List β}, Paired R xs ys → Paired R (xs.drop n) (ys.drop n)
  | 0, _, _, h => h
  | n + 1, _, _, .nil => .nil
  | n + 1, _, _, .cons h t => par_drop n t
/-! ### pairs, strands, ways in the heap -/
def SPat (H : Hp) (v : V) (q : Int × Int) : Prop := ∃ a, v = .ref a ∧ H a = some (.tup [.int q.1, .int q.2])
def SSat (H : Hp) (v : V) (s : Strd) : Prop := ∃ a xs, v = .ref a ∧ H a = some (.tup xs) ∧ Paired (SPat H) xs s
def SWat (H : Hp) (v : V) (w : List Strd) : Prop := ∃ a xs, v = .ref a ∧ H a = some (.tup xs) ∧ Paired (SSat H) xs w
theorem SPat.same {H H' : Hp} {v : V} {q : Int × Int} (h : SPat H v q) (s : Same H H') : SPat H' v q := let ⟨a, e, z⟩ := h; ⟨a, e, s _ _ z⟩
theorem SSat.same {H H' : Hp} {v : V} {q : Strd} (h : SSat H v q) (s : Same H H') : SSat H' v q := let ⟨a, xs, e, z, p⟩ := h; ⟨a, xs, e, s _ _ z, par_imp (fun _ _ k => k.same s) p⟩
theorem SWat.same {H H' : Hp} {v : V} {q : List Strd} (h : SWat H v q) (s : Same H H') : SWat H' v q := let ⟨a, xs, e, z, p⟩ := h; ⟨a, xs, e, s _ _ z, par_imp (fun _ _ k => k.same s) p⟩
/-- a list grows: what was tracked but the list stands -/
theorem SPat.mut {H : Hp} {D : Addr} {us ws : List V} {v : V} {q : Int × Int} (h : SPat H v q) (hD : H D = some (.lst us)) : SPat (upd H D (.lst ws)) v q := by
  obtain ⟨a, e, z⟩ := h
  exact ⟨a, e, by rw [upd_ne fun k => by rw [k, hD] at z; cases z]; exact z⟩
theorem SSat.mut {H : Hp} {D : Addr} {us ws : List V} {v : V} {q : Strd} (h : SSat H v q) (hD : H D = some (.lst us)) : SSat (upd H D (.lst ws)) v q := by
  obtain ⟨a, xs, e, z, p⟩ := h
  exact ⟨a, xs, e, by rw [upd_ne fun k => by rw [k, hD] at z; cases z]; exact z, par_imp (fun _ _ k => k.mut hD) p⟩
theorem SWat.mut {H : Hp} {D : Addr} {us ws : List V} {v : V} {q : List Strd} (h : SWat H v q) (hD : H D = some (.lst us)) : SWat (upd H D (.lst ws)) v q := by
  obtain ⟨a, xs, e, z, p⟩ := h
  exact ⟨a, xs, e, by rw [upd_ne fun k => by rw [k, hD] at z; cases z]; exact z, par_imp (fun _ _ k => k.mut hD) p⟩
section
variable {P : Program} {w : World} {K : PySem.W.Frag} {mg : Str → Option Value} {base : Heap}
theorem catV {a b : Addr} {xs ys : List V} {H : Hp} {Q : VK} (ha : H a = some (.tup xs)) (hb : H b = some (.tup ys)) (hl : xs.length + ys.length ≤ 1000) (k : ∀ t H', H' t = some (.tup (xs ++ ys)) → Same H H' → Q (.ref t) H') : rCatA K (.ref a) (.ref b) H Q := by
  refine ⟨a, b, _, _, rfl, rfl, .inl (.inl ha), .inl (.inl hb), Nat.le_of_lt (sm (by omega)), fun e => k b H ?_ (Same.refl H), fun _ e => k a H ?_ (Same.refl H), fun _ _ p hp => k p _ upd_same ((Same.refl H).new hp)⟩
  · rw [e]; exact hb
  · rw [e, List.append_nil]; exact ha
theorem sIx_le (n : Nat) (z : Int) (h : n ≤ z.toNat) (h0 : 0 ≤ z) (d : Nat) : HT.sIx n d (some z) = n := by
  obtain ⟨k, rfl⟩ := Int.eq_ofNat_of_zero_le h0
  rw [HT.sIx_nat]
  simp at h
  omega
theorem slTo {a : Addr} {xs : List V} {i : Nat} {H : Hp} {Q : VK} (ha : H a = some (.tup xs)) (k : ∀ t H', H' t = some (.tup (xs.take i)) → Same H H' → Q (.ref t) H') : rSlA K (.ref a) none (some (i : Int)) H Q := by
  refine ⟨a, xs, rfl, .inl (.inl ha), fun ⟨_, e⟩ => k a H ?_ (Same.refl H), fun _ p hp => k p _ ?_ ((Same.refl H).new hp)⟩
  · rw [HT.sIx_nat] at e
    rw [List.take_of_length_le (by omega)]
    exact ha
  · rw [upd_same, cutV_to]
theorem slFrom {a : Addr} {xs : List V} {i : Nat} {H : Hp} {Q : VK} (ha : H a = some (.tup xs)) (k : ∀ t H', H' t = some (.tup (xs.drop i)) → Same H H' → Q (.ref t) H') : rSlA K (.ref a) (some (i : Int)) none H Q := by
  refine ⟨a, xs, rfl, .inl (.inl ha), fun ⟨e, _⟩ => k a H ?_ (Same.refl H), fun _ p hp => k p _ ?_ ((Same.refl H).new hp)⟩
  · rw [HT.sIx_nat] at e
    rcases Nat.eq_zero_or_pos i with z | z
    · rw [z]; exact ha
    · have : xs.length = 0 := by omega
      rw [List.eq_nil_of_length_eq_zero this, List.drop_nil]
      rw [List.eq_nil_of_length_eq_zero this] at ha
      exact ha
  · rw [upd_same, cut_from xs rfl]
end
/-- what a pair holds -/
def pk (H : Hp) (x : V) : Int × Int := match x with
  | .ref a => (match H a with
    | some (.tup [.int i, .int j]) => (i, j)
    | _ => (0, 0))
  | _ => (0, 0)
theorem pk_at {H : Hp} {v : V} {q : Int × Int} (h : SPat H v q) : pk H v = q := by
  obtain ⟨a, rfl, h⟩ := h
  show (match H a with
    | some (.tup [.int i, .int j]) => (i, j)
    | _ => ((0 : Int), (0 : Int))) = q
  rw [h]
theorem pk_map {H : Hp} : ∀ {xs : List V} {st : Strd}, Paired (SPat H) xs st → xs.map (pk H) = st
  | _, _, .nil => rfl
  | _, _, .cons h t => by rw [List.map_cons, pk_at h, pk_map t]
theorem sorted_eqI {a b : List Int} (p : a.Perm b) (ha : a.Pairwise (· ≤ ·)) (hb : b.Pairwise (· ≤ ·)) : a = b := List.Perm.eq_of_pairwise (fun x y _ _ h1 h2 => Int.le_antisymm h1 h2) ha hb p
def rngI (n : Nat) : List Int := (List.range n).map fun j : Nat => (j : Int)
theorem rngI_sorted (n : Nat) : (rngI n).Pairwise (· ≤ ·) := by
  refine List.pairwise_map.mpr (List.Pairwise.imp (fun {a b} h => ?_) List.pairwise_lt_range)
  omega
theorem rngI_len (n : Nat) : (rngI n).length = n := by unfold rngI; rw [List.length_map, List.length_range]
theorem rgV_rngI (n : Nat) : rgV 0 (n : Int) = (rngI n).map V.int := by
  unfold rgV rngI
  rw [List.map_map, Int.sub_zero, Int.toNat_natCast]
  refine List.map_congr_left fun j _ => ?_
  show V.int (0 + (j : Int)) = V.int (j : Int)
  rw [Int.zero_add]
def flatB (way : List Strd) : List Int := way.flatMap fun st => st.map (·.1)
def goodS (st : Strd) : Prop := st ≠ [] ∧ st.length ≤ 8 ∧ ∀ q ∈ st, q.2 = 1 ∨ q.2 = -1
structure goodV (n : Nat) (way : List Strd) : Prop where
  st : ∀ s ∈ way, goodS s
  ln : way.length ≤ 8
  pm : (flatB way).Perm (rngI n)
/-- strands told as lists of pairs, in a list -/
def LSt (H : Hp) (v : V) (s : Strd) : Prop := ∃ a xs, v = V.ref a ∧ H a = some (.lst xs) ∧ Paired (SPat H) xs s
def LWy (H : Hp) (v : V) (w : List Strd) : Prop := ∃ a xs, v = V.ref a ∧ H a = some (.lst xs) ∧ Paired (LSt H) xs w
theorem LSt.same {H H' : Hp} {v : V} {q : Strd} (h : LSt H v q) (s : Same H H') : LSt H' v q := let ⟨a, xs, e, z, p⟩ := h; ⟨a, xs, e, s _ _ z, par_imp (fun _ _ k => k.same s) p⟩
theorem LWy.same {H H' : Hp} {v : V} {q : List Strd} (h : LWy H v q) (s : Same H H') : LWy H' v q := let ⟨a, xs, e, z, p⟩ := h; ⟨a, xs, e, s _ _ z, par_imp (fun _ _ k => k.same s) p⟩
section
variable {P : Program} {w : World} {K : PySem.W.Frag} {mg : Str → Option Value} {base : Heap}
def spIS (K : PySem.W.Frag) : Sp := fun vs H Q _ => ∃ (v : V) (st : Strd), vs = [v] ∧ LSt H v st ∧ goodS st ∧ ∀ H', Same H H' → Q (.bl true) H'
abbrev nIS : List Str := ["value", "pair"]
theorem scIS : FnScope nIS ["value"] (defScope sIsStrand) := ⟨rfl, rfl, rfl, by decide +kernel, rfl, by decide +kernel, by decide +kernel⟩
theorem ok_is {f fL fN : Addr} {fd fdL fdN : FuncData} (F : Fun K "is_strand" "is_strand" sIsStrand f fd) (T : Bi mg) (L : DefAt P w K mg base CX0 1 "is_list" ["value"] (spIsList K) fL fdL) (NT : DefAt P w K mg base CX0 2 "is_numbers" ["value"] (spNumsT K) fN fdN) : FnOk P w K mg base CX0 3 f fd ["value"] (spIS K) := by
  refine F.ok scIS (fun vs H Q E h => ?_) (fun cdv A outer s H vs Q E hr h => ?_)
  · obtain ⟨v, q, rfl, _⟩ := h
    rfl
  · have nd := scIS.nd
    refine ⟨_, pss_cons (ps_if (PW.pt (pw_or (pt_not (pt_val (pe_call L.ok (hr.mono (by decide)) rfl L.g L.kp L.b .nil pass0 (pa_cons (pv 0) pa_nil)))) (pw_or1 (pt_cmpR op_eq (pe_callB call_len_seq (by rfl) T.len PySem.boot_len (pa_cons (pv 0) pa_nil)) pe_int (nomark _))))) (pss_one ps_never) pss_nil)
      (pss_one (ps_ret (pe_callB (cr_all rfl) (by rfl) T.all (by decide +kernel) (pa_cons (pe_lc (own := [("pair", 1)]) (g := gName 1) (tt := tYes) (te := tAndV (tCall (spNumsT K) [] E0 (tCons (tVar 1) tNil)) (tAndV (tOp rEq (tCB (rLenS K) (tCons (tVar 1) tNil)) (tC (.int 2))) (tOp (rIn K false) (tOp (rIxT K) (tVar 1) (tC (.int 1))) (tTup (tCons (tC (.int 1)) (tCons (tUn (rU fun i => .int (-i)) (tC (.int 1))) tNil)))))) rfl nd (pi_list (pv 0))
        (blkOk_by (N := nIS) (sc := defScope sIsStrand) (by decide +kernel)) (fun _ _ _ _ _ => pg_name (i := 1) nd rfl (Or.inl rfl)) (fun _ _ _ _ _ => pts_nil)
        (fun _ _ _ _ _ => pe_and (pe_call NT.ok hr rfl NT.g NT.kp NT.b .nil pass0 (pa_cons (pv 1) pa_nil)) (pe_and (pe_cmpR op_eq (pe_callB (r := rLenS K) call_len_seq (by rfl) T.len PySem.boot_len (pa_cons (pv 1) pa_nil)) pe_int (nomark _)) (pe_one (pe_cmpR op_in_seq (pe_ix (r := rIxT K) ix_tup (pv 1) pe_int (fun _ _ => rfl)) (pe_tup (pa_cons pe_int (pa_cons (pe_un un_neg pe_int) pa_nil))) (by rfl)))))) pa_nil)))), ?_⟩
    obtain ⟨v, st, rfl, ⟨a, xs, rfl, ha, px⟩, ⟨ne, l8, sg⟩, k⟩ := h
    refine ⟨_, rfl, _, "list", rfl, ⟨.base (.lst ha), by decide⟩, fun H1 s1 => ⟨_, rfl, iteF ?_⟩⟩
    have ha1 := s1 _ _ ha
    have xl : xs.length = st.length := par_len px
    have x0 : xs.length ≠ 0 := fun z => ne (List.eq_nil_of_length_eq_zero (by omega))
    refine ⟨_, rfl, a, _, rfl, .inl (SqL.of ha1), rfl, _, rfl, ?_⟩
    rw [dec_int, decide_eq_false (show ¬ ((xs.length : Int) = 0) by omega)]
    refine iteF ?_
    refine ⟨_, rfl, a, rfl, ⟨_, SqL.of ha1⟩, fun D hD => ?_⟩
    refine lc_list (K := K) (a := a) (xs := xs) (fun j H' => Same H1 H' ∧ ∃ bs : List Bool, (∀ b ∈ bs, b = true) ∧ bs.length ≤ j ∧ H' D = some (.lst (bs.map V.bl))) ⟨(Same.refl H1).new hD, [], (fun b hb => nomatch hb), Nat.le_refl _, upd_same⟩ (fun j H' _ r => SqL.of (r.1 _ _ ha1)) ?_ ?_
    · rintro j y H' hj ⟨s2, bs, b1, b2, h2⟩
      have hjl : j < xs.length := (List.getElem?_eq_some_iff.mp hj).1
      obtain ⟨q, hq, b, rfl, hb⟩ := par_get px hj
      have hb2 := s2 _ _ (s1 _ _ hb)
      refine ⟨rfl, _, rfl, b, [.int q.1, .int q.2], fun _ => "int", rfl, ⟨.base (.tup hb2), by decide⟩, .inl (.inl hb2), (by show 2 ≤ 1000; decide), fun x hx => ?_, fun H3 s3 => ⟨_, rfl, ?_⟩⟩
      · rcases List.mem_cons.mp hx with rfl | hx
        · exact Knd.int
        · rw [List.mem_singleton.mp hx]
          exact Knd.int
      have hb3 := s3 _ _ hb2
      have h3 := s3 _ _ h2
      refine iteBT (by simp) ⟨_, rfl, b, _, rfl, .inr (.inl (.inl hb3)), rfl, _, rfl, ?_⟩
      refine iteBT (by simp) ⟨_, rfl, b, _, _, _, rfl, rfl, .inl (.inl hb3), (rfl : atI [V.int q.1, V.int q.2] 1 = some (.int q.2)), 1, rfl, (by show 2 ≤ sizeLine; decide), fun c nc => ?_⟩
      have s4 : Same H3 (upd H3 c (.tup [.int 1, .int (-1)])) := (Same.refl H3).new nc
      refine ⟨c, ([1, -1] : List Int).map V.int, rfl, .inr (.inl (.inl upd_same)), rfl, flat_ints [1, -1], _, s4 _ _ h3, ?_, ((s2.trans s3).trans s4).mut hD, bs ++ [true], fun z hz => ?_, by rw [List.length_append]; exact Nat.succ_le_succ b2, ?_⟩
      · rw [List.length_map]
        exact sm (by omega)
      · rcases List.mem_append.mp hz with m | m
        · exact b1 z m
        · exact List.mem_singleton.mp m
      · have iv : inV (.int q.2) (([1, -1] : List Int).map V.int) = true := by
          rcases sg q (List.mem_of_getElem? hq) with e | e <;> rw [e] <;> decide
        rw [upd_same, List.map_append]
        show some (HO.lst (bs.map V.bl ++ [V.bl (inV (.int q.2) (([1, -1] : List Int).map V.int))])) = _
        rw [iv]
        rfl
    rintro H2 ⟨s2, bs, b1, b2, h2⟩
    refine ⟨D, bs, rfl, SqL.of h2, ?_⟩
    rw [all_true b1]
    exact k H2 (s1.trans s2)
def spAre (K : PySem.W.Frag) : Sp := fun vs H Q _ => ∃ (v : V) (way : List Strd) (n : Nat), vs = [v] ∧ LWy H v way ∧ goodV n way ∧ 3 ≤ n ∧ n ≤ 8 ∧ ∀ H', Same H H' → Q (.bl true) H'
abbrev nAre : List Str := ["value", "bars", "strand", "pair"]
theorem scAre : FnScope nAre ["value"] (defScope sAreStrands) := ⟨rfl, rfl, rfl, by decide +kernel, rfl, by decide +kernel, by decide +kernel⟩
theorem ok_are {f fL fS : Addr} {fd fdL fdS : FuncData} (F : Fun K "are_strands" "are_strands" sAreStrands f fd) (T : Bi mg) (N : Nm mg) (L : DefAt P w K mg base CX0 1 "is_list" ["value"] (spIsList K) fL fdL) (IS : DefAt P w K mg base CX0 3 "is_strand" ["value"] (spIS K) fS fdS) : FnOk P w K mg base CX0 4 f fd ["value"] (spAre K) := by
  refine F.ok scAre (fun vs H Q E h => ?_) (fun cdv A outer s H vs Q E hr h => ?_)
  · obtain ⟨v, way, n, rfl, _⟩ := h
    rfl
  · have nd := scAre.nd
    obtain ⟨t3, h3⟩ := N.leastB
    obtain ⟨t8, h8⟩ := N.mostB
    refine ⟨_, pss_cons (ps_if (PW.pt (pw_or (pt_not (pt_val (pe_call L.ok (hr.mono (by decide)) rfl L.g L.kp L.b .nil pass0 (pa_cons (pv 0) pa_nil)))) (pw_or1 (pt_not (pt_val (pe_callB (cr_all rfl) (by rfl) T.all (by decide +kernel) (pa_cons (pe_lc (own := [("strand", 2)]) (g := gName 2) (tt := tYes) rfl nd (pi_list (pv 0))
          (blkOk_by (N := nAre) (sc := defScope sAreStrands) (by decide +kernel)) (fun _ _ _ _ _ => pg_name (i := 2) nd rfl (Or.inl rfl)) (fun _ _ _ _ _ => pts_nil) (fun _ _ _ _ _ => pe_call IS.ok hr rfl IS.g IS.kp IS.b .nil pass0 (pa_cons (pv 2) pa_nil))) pa_nil))))))) (pss_one ps_never) pss_nil)
      (pss_cons (ps_set (i := 1) nd rfl (Or.inl rfl) (pe_callB cr_sortedI (by rfl) T.sorted (by decide +kernel) (pa_cons (pe_lc2 (own := [("strand", 2), ("pair", 3)]) (vs1 := [3]) (g := gName 2) (g1 := gName 3) (tt := tYes) (tt1 := tYes) (wi1 := iList K (tVar 2)) (te := tOp (rIxT K) (tVar 3) (tC (.int 0))) rfl nd (pi_list (pv 0)) (blkOk_by (N := nAre) (sc := defScope sAreStrands) (by decide +kernel)) (by decide)
          (fun _ _ _ _ _ => pg_name (i := 2) nd rfl (Or.inl rfl)) (fun _ _ _ _ _ => pts_nil) (fun _ _ _ _ _ => pi_list (pv 2)) (fun _ _ _ _ _ => pg_name (i := 3) nd rfl (Or.inl rfl)) (fun _ _ _ _ _ => pts_nil) (fun _ _ _ _ _ => pe_ix (r := rIxT K) ix_tup (pv 3) pe_int (fun _ _ => rfl))) pa_nil)))
      (pss_one (ps_ret (pe_and (pe_chain op_le op_le (pe_glob (v := .int 3) rfl h3 ⟨_, rfl⟩) (pe_callB call_len_seq (by rfl) T.len PySem.boot_len (pa_cons (pv 1) pa_nil)) (pe_glob (v := .int 8) rfl h8 ⟨_, rfl⟩)) (pe_one (pe_cmpR (op_eqD hr.units) (pv 1) (pe_listRg rfl (by rfl) T.list (prg_1 (by rfl) T.range (pe_callB call_len_seq (by rfl) T.len PySem.boot_len (pa_cons (pv 1) pa_nil)))) (nomark _))))))), ?_⟩
    obtain ⟨v, way, n, rfl, ⟨a, xs, rfl, ha, px⟩, gw, n3, n8, k⟩ := h
    refine ⟨_, rfl, _, "list", rfl, ⟨.base (.lst ha), by decide⟩, fun H1 s1 => ⟨_, rfl, iteF ?_⟩⟩
    have ha1 := s1 _ _ ha
    have xl : xs.length = way.length := par_len px
    have x8 := gw.ln
    refine ⟨_, rfl, a, rfl, ⟨_, SqL.of ha1⟩, fun D hD => ?_⟩
    refine lc_list (K := K) (a := a) (xs := xs) (fun j H' => Same H1 H' ∧ ∃ bs : List Bool, (∀ b ∈ bs, b = true) ∧ bs.length ≤ j ∧ H' D = some (.lst (bs.map V.bl))) ⟨(Same.refl H1).new hD, [], (fun b hb => nomatch hb), Nat.le_refl _, upd_same⟩ (fun j H' _ r => SqL.of (r.1 _ _ ha1)) ?_ ?_
    · rintro j y H' hj ⟨s2, bs, b1, b2, h2⟩
      have hjl : j < xs.length := (List.getElem?_eq_some_iff.mp hj).1
      obtain ⟨st, hst, rs⟩ := par_get px hj
      refine ⟨rfl, _, rfl, y, st, rfl, rs.same (s1.trans s2), gw.st st (List.mem_of_getElem? hst), fun H3 s3 => ⟨_, s3 _ _ h2, ?_, (s2.trans s3).mut hD, bs ++ [true], fun z hz => ?_, by rw [List.length_append]; exact Nat.succ_le_succ b2, ?_⟩⟩
      · rw [List.length_map]
        exact sm (by omega)
      · rcases List.mem_append.mp hz with m | m
        · exact b1 z m
        · exact List.mem_singleton.mp m
      · rw [upd_same, List.map_append]
        rfl
    rintro H2 ⟨s2, bs, b1, b2, h2⟩
    refine ⟨D, bs, rfl, SqL.of h2, ?_⟩
    rw [all_true b1]
    refine ⟨_, rfl, iteF ?_⟩
    have s02 := s1.trans s2
    have ha2 := s02 _ _ ha
    -- the bars
    have fl : ∀ j, (flatB (way.take j)).length ≤ 64 := fun j => by
      have e : flatB way = flatB (way.take j) ++ flatB (way.drop j) := by
        unfold flatB
        rw [← List.flatMap_append, List.take_append_drop]
      have l := gw.pm.length_eq
      rw [e, List.length_append, rngI_len] at l
      omega
    refine ⟨_, rfl, a, rfl, ⟨_, SqL.of ha2⟩, fun D3 hD3 => ?_⟩
    refine walk_any walk_list (fun j H' => Same H2 H' ∧ H' D3 = some (.lst ((flatB (way.take j)).map V.int))) ⟨(Same.refl H2).new hD3, upd_same⟩ (fun j H' _ q => SqL.of (q.1 _ _ ha2)) ?_ ?_
    · rintro j x H' H'' hj ⟨s3, h3'⟩ ⟨rfl, hx⟩
      obtain ⟨st, hst, sa, ys, rfl, hsa, py⟩ := par_get px hx
      have hsa3 := s3 _ _ (s02 _ _ hsa)
      have st8 := (gw.st st (List.mem_of_getElem? hst)).2.1
      have fj := fl j
      refine ⟨rfl, _, rfl, sa, rfl, ⟨_, SqL.of hsa3⟩, ?_⟩
      refine walk_any walk_list (fun i H4 => Same H2 H4 ∧ H4 D3 = some (.lst ((flatB (way.take j) ++ (st.take i).map (·.1)).map V.int))) ⟨s3, by rw [List.take_zero, List.map_nil, List.append_nil]; exact h3'⟩ (fun i H4 _ q => SqL.of (q.1 _ _ (s02 _ _ hsa))) ?_ ?_
      · rintro i y H4 H5 hi ⟨s4, h4⟩ ⟨rfl, hy⟩
        obtain ⟨q, hq, b, rfl, hb⟩ := par_get py hy
        have hil : i < st.length := (List.getElem?_eq_some_iff.mp hq).1
        refine ⟨rfl, _, rfl, b, _, _, _, rfl, rfl, .inl (.inl (s4 _ _ (s02 _ _ hb))), (rfl : atI [V.int q.1, V.int q.2] 0 = some (.int q.1)), _, h4, ?_, s4.mut hD3, ?_⟩
        · rw [List.length_map, List.length_append, List.length_map, List.length_take]
          exact sm (by omega)
        · rw [upd_same, ← take_snoc hq, List.map_append, List.map_append, List.map_append, List.map_append]
          simp
      · rintro H4 ⟨s4, h4⟩
        refine ⟨s4, ?_⟩
        rw [par_len py, List.take_length] at h4
        rw [h4, ← take_snoc hst]
        unfold flatB
        rw [List.flatMap_append]
        simp
    rintro H3 ⟨s3, h3'⟩
    rw [xl, List.take_length] at h3'
    refine ⟨D3, _, rfl, SqL.of h3', fun ns p pmN odN np => ?_⟩
    have e : ns = rngI n := sorted_eqI (pmN.trans gw.pm) odN (rngI_sorted n)
    subst e
    have s4 : Same H3 (upd H3 p (.lst ((rngI n).map V.int))) := (Same.refl H3).new np
    have hp : upd H3 p (.lst ((rngI n).map V.int)) p = some (.lst ((rngI n).map V.int)) := upd_same
    generalize upd H3 p (.lst ((rngI n).map V.int)) = H4 at s4 hp ⊢
    refine ⟨_, rfl, p, _, rfl, .inl (SqL.of hp), _, _, rfl, rfl, _, rfl, ?_⟩
    rw [List.length_map, rngI_len]
    refine iteDT (by omega) ⟨_, _, rfl, rfl, _, rfl, ?_⟩
    refine iteDT (by omega) ?_
    refine ⟨_, rfl, _, rfl, p, _, rfl, .inl (SqL.of hp), ?_⟩
    rw [List.length_map, rngI_len]
    refine ⟨_, rfl, RgOk.of_le (by omega) (by omega) (by omega) (by omega), fun r nr => ?_⟩
    rw [rgV_rngI]
    have s5 : Same H4 (upd H4 r (.lst ((rngI n).map V.int))) := (Same.refl H4).new nr
    refine ⟨_, _, .lst (SqL.of (s5 _ _ hp)) (dp_ints _), .lst (SqL.of upd_same) (dp_ints _), shaped_ints _, shaped_ints _, ?_⟩
    rw [eqvA_pd, decide_eq_true rfl]
    exact k _ (((s02.trans s3).trans s4).trans s5)
end
end K
/-! x.__class__.__name__, x an instance of an own class -/
namespace Rg
open PySem PySem.Spec PyProof.Rows L2 Builtin Builtin.ObjectAttr Builtin.Getset_descriptor
/-- the class at C is called nm, and its name was read before the call -/
structure NamC (K : PySem.W.Frag) (C : Addr) (nm : Str) : Prop where
  rd : PySem.W.readsIn K C (.type "type") = true
  at_ : PySem.W.findCls K (.ref C) (.type "type") "__name__" = some (.get (.builtin "getset_descriptor.__get__") (.builtin "type.__name__") (.ref C) (.type "type"))
  ty : PySem.W.typeIn K (.ref C) = some (.type "type")
  sl : ∃ o t, K.lookup C = some o ∧ o.slots[2]? = some (some (.str nm t))
section
open PySem.W
variable {prog : Program} {w : World} {A : Around} {E : Value → Shared → Prop} {s : Shared} {K : Frag} {R : Result → Shared → Prop} {C : Addr} {o : Obj} {v : Value}
theorem name_get {tp : Value} (X : K.In s.heap) (ht : typeIn K (.ref C) = some (.type "type")) (lk : K.lookup C = some o) (hv : o.slots[2]? = some (some v)) (h : R (.ok (.ret v)) s) :
    codeAny (model prog w) A (.call (.builtin "getset_descriptor.__get__") ⟨[.builtin "type.__name__", .ref C, tp], []⟩) R s := by
  obtain ⟨hh, g, dr, t, os⟩ := s
  have L0 : Looks (model prog w) hh (typeOf (.ref C)) (.type "type") := looks_typeIn X ht
  have L1 : Looks (model prog w) hh (isSubtype (.type "type") (.type "type")) true := Looks.of_pure (by rw [isSubtype_type]; kernel_rfl)
  refine codeAny_call_builtin KF.slot_gs.plain KF.entry_gs (KF.slot_gs.check _ _ _ _ _ _ _ _ ktyn_type (KF.args_gs _ _ _) ?_)
  unfold Builtin.«getset_descriptor.__get__» descrGet
  rw [dga_obj]
  refine wpAny_bind (wpAny_pure ?_)
  unfold descrGetter descrCheckInstance descrNameAndClass isInstance
  simp only [ktyn_owner]
  repeat lk
  refine ⟨Code.quiet_builtin _ (by decide +kernel), codeAny_builtin ktyn_entry ?_⟩
  unfold Builtin.«type.__name__» keptObject PySem.slotAt
  dsimp only
  refine wpAny_bind (wpAny_bind (wpAny_loadPart (X _ _ lk) (wpAny_pure ?_)))
  rw [hv]
  exact wpAny_pure h
end
section
variable {X : Cx} {e : Expr} {ta : TE} {p1 p2 : Pos}
theorem name_ok {pins : List (Addr × Obj)} {σ : L2.St} {H : Hp} {s : Shared} {b : Bool} {A : Around} {E : Value → Shared → Prop} {Q : Value → Shared → Prop} {C : Addr} {nm : Str} (I : Inv X pins σ H s) (c : NamC X.K C nm)
    (h : ∀ u s', Inv X pins σ H s' → RelV (.str nm) u → Q u s') : wpAny (model X.prog X.w) A (getAttr (.ref C) "__name__" b) Q E s := by
  obtain ⟨o, t, lk, hs⟩ := c.sl
  refine PySem.W.cls_bind I.kIn c.rd c.at_ ?_
  refine wpAny_call (name_get (s := { s with toks := s.toks + 1 }) I.kIn c.ty lk hs (PySem.W.handed_on rfl ?_))
  exact h _ _ (I.tok _) ⟨_, rfl⟩
/-- e.__class__.__name__, e an instance of a class of the program -/
def tCName (K : PySem.W.Frag) (ta : TE) : TE := fun σ H Q => ta σ H fun x H1 => ∃ a C dx fs nm, x = .ref a ∧ H1 a = some (.ins C dx fs) ∧ C8.InsC K C ∧ NamC K C nm ∧ Q (.str nm) H1
theorem pe_cname (he : PE X e ta) (hb : attributeBase e "__class__" X.env (eval e X.env) = eval e X.env := by rfl)
    (hb2 : attributeBase (.Attribute e "__class__" p1) "__name__" X.env (eval (.Attribute e "__class__" p1) X.env) = eval (.Attribute e "__class__" p1) X.env := by rfl) :
    PE X (.Attribute (.Attribute e "__class__" p1) "__name__" p2) (tCName X.K ta) := by
  refine ⟨fun pins s σ H Q I h => ?_⟩
  refine attr_of hb2 (attr_of hb (thn (he.run pins s σ H _ I h) fun u s1 ⟨x, H1, I1, rx, a, C, dx, fs, nm, ex, ea, ic, nc, q⟩ => ?_))
  subst ex
  obtain rfl : u = Value.ref a := rx
  obtain ⟨mA, O, _⟩ := ins_get I1.hok ea
  obtain ⟨od, J, _⟩ := O.look
  obtain ⟨m, hF⟩ := I1.fr
  refine PySem.W.get_class hF I1.ok.mod.kin J (ic.cl.get _) ic.cl.hd ic.ha ic.hn ic.htk ic.hm ?_
  exact name_ok (I1.tok _) nc fun u' s2 I2 ru => ⟨.str nm, H1, I2, ru, q⟩
end
end Rg
/-! def __init__(self, ..): super().__init__(e, ..); .. , a def that closes over __class__ alone -/
namespace Rg
open PySem PySem.Spec PyProof.Rows L2 NdefX ClX
/-- what of the text such a def must have: f its object, D the class that it stands in, cc the cell of __class__ -/
structure SupAt (P : Program) (K : PySem.W.Frag) (mg : Str → Option Value) (F : NF) (f D cc : Addr) : Prop where
  cl : F.cl = [(("__class__" : Str), cc)]
  self : ∃ ar, (F.params.posonlyargs ++ F.params.args).head? = some ar ∧ ar.arg = "self"
  cod : ∃ ccl cdd vs ccs file tf, K.lookup F.c = some ⟨ccl, cdd, .fields vs, ccs⟩ ∧ vs[2]? = some (.str file tf) ∧ ((P.main.file : Str) == file) = true
  cell : ∃ kcl kcd kcs, K.lookup cc = some ⟨kcl, kcd, .cell (some (.ref D)), kcs⟩
  clD : ∃ cd, PySem.W.clsIn K D = some cd
  sup : mg "super" = none
  top : (P.main.scope.names.lookup ("super" : Str)).isSome = false
  ks : F.scope.names.lookup ("super" : Str) = some .globalImplicit
/-- the instance's class C, D above it or C itself, and the __init__ that stands behind D in its row -/
structure SupTo (K : PySem.W.Frag) (C D f2 : Addr) : Prop where
  sub : PySem.W.mroIn K C (.ref D) = some true
  th : PySem.W.nsIn K cStatics "thirdparty.any" = some none
  to : PySem.W.ks_superIn K C D "__init__" = some (some (.ref f2))
  ty : PySem.W.typeIn K (.ref f2) = some (.type "function")
  fn : PySem.W.fnIn K f2 = true
section
variable {X : Cx} {pins : List (Addr × Obj)} {σ : L2.St} {H : Hp} {s : Shared} {a D C g : Addr} {A : Around} {E : Value → Shared → Prop}
theorem run_im {CX : CXT} {k : Nat} {q : Addr} {sp : Sp} {Ee : XK} {Q : VK} {us : List Value} {vs : List V} (F : FnR X.prog X.w X.K X.mg X.base CX k g sp) (hr : Room k X.A) (hx : Passes CX X Ee) (I : Inv X ((q, PySem.W.methodObj (.ref g) (.ref a)) :: pins) σ H s)
    (r : Vals vs us) (h : sp (.ref a :: vs) H Q Ee) : wpAny (model X.prog X.w) X.A (call (.ref q) us) (EP X pins σ Q) X.xe s := by
  have z : wpAny (model X.prog X.w) X.A (call (.ref q) us) (EP X ((q, PySem.W.methodObj (.ref g) (.ref a)) :: pins) σ Q) X.xe s :=
    wpAny_call (PySem.W.method_call (pin_at I) (run_fnR (us := .ref a :: us) (vs := .ref a :: vs) F hr hx I (.cons rfl r) h))
  exact thn z fun _ _ y => unpinE y
theorem callwith_im {pos : Pos} {e : Expr} {es : List Expr} {q : Addr} {Q : Value → Shared → Prop} {E : Value → Shared → Prop} {A : Around} (I : Inv X ((q, PySem.W.methodObj (.ref g) (.ref a)) :: pins) σ H s) (hb : X.base.get? q = none) (hf : PySem.W.fnIn X.K g = true)
    (h : wpAny (model X.prog X.w) A (spliced (backTo pos (starEach (e :: es) X.env))) (fun vs s₁ => PySem.W.MethP X.K q g (.ref a) s₁.heap ∧ wpAny (model X.prog X.w) A (call (.ref q) vs) Q E s₁) E s)
    (he : starEach (e :: es) X.env = (false, eval e X.env) :: starEach es X.env) (hpl : (backTo pos (starEach es X.env)).any (·.1) = false) :
    wpAny (model X.prog X.w) A (callWith pos (.ref q) [] (backTo pos (starEach (e :: es) X.env)) []) Q E s := by
  have hq := pin_at I
  have hL : q ≠ X.env.locals := (I.pin (q, PySem.W.methodObj (.ref g) (.ref a)) (List.mem_append_right _ List.mem_cons_self)).2.2.1
  exact PySem.W.callWith_M (K := X.K) (h₀ := X.base) (first := []) I.ok.mod.kin (news_at hL hb hq) List.mem_cons_self hf h he hpl
/-- getMethod of super's object -/
theorem getmethsup_ok {pl : Sem Bool} {Q : Value × List Value → Shared → Prop} {so : Addr} {C dx : Addr} {fs : List (Str × V)} (I : Inv X ((so, PySem.W.ks_superObj D a C) :: pins) σ H s) (ea : H a = some (.ins C dx fs)) (cl : Cls X.K C) (t : SupTo X.K C D g)
    (h : ∀ s', Inv X ((s.heap.objs.size, PySem.W.methodObj (.ref g) (.ref a)) :: pins) σ H s' → Q (.ref s.heap.objs.size, []) s') : wpAny (model X.prog X.w) A (getMethod (.ref so) "__init__" pl) Q E s := by
  have hso := pin_at I
  have KX := I.kIn
  obtain ⟨mA, O, _⟩ := ins_get I.hok ea
  obtain ⟨od, J, _⟩ := O.look
  have I0 := unpin I
  obtain ⟨cd, hc⟩ : ∃ cd, PySem.W.clsIn X.K C = some cd := by
    obtain ⟨cd, hc, _⟩ := PySem.W.any_some cl.hd
    exact ⟨cd, hc⟩
  have hm := t.to
  unfold PySem.W.ks_superIn at hm
  rw [hc] at hm
  obtain ⟨of, hof, hofc⟩ : ∃ of, s.heap.get? g = some of ∧ of.cls = .type "function" := by
    have ht' : (X.K.lookup g).map (·.cls) = some (.type "function") := t.ty
    cases z : X.K.lookup g with
    | none => rw [z] at ht'; cases ht'
    | some of => rw [z] at ht'; exact ⟨of, KX _ _ z, Option.some.inj ht'⟩
  have met : Inv X ((s.heap.objs.size, PySem.W.methodObj (.ref g) (.ref a)) :: pins) σ H { s with heap := s.heap.push (PySem.W.methodObj (.ref g) (.ref a)), toks := s.toks + 1 } :=
    pin_new I0 (fun _ _ z => Heap.get?_push_of_some _ z) (Nat.le_refl _) (Heap.get?_push_size s.heap rfl) (fun v z => nomatch z)
  obtain ⟨hh, gs, d, tt, os⟩ := s
  refine ks_wpAny_getMethod_super hso (PySem.W.looks_opaque KX t.th) (l₀ := cd.mro) ?_ rfl KX hm hof hofc (PySem.W.ks_ne KX J hc) (by decide) ?_
  · exact fun A Q E s k q => wpAny_bind ((PySem.W.looks_clsIn KX hc) A _ E s k (wpAny_pure q))
  · exact h _ met
end
section
variable {CX CX2 : CXT} {P : Program} {w : World} {K : PySem.W.Frag} {mg : Str → Option Value} {base : Heap} {N ps : List Str} {F : NF} {f D cc f2 : Addr} {k : Nat} {sp sp2 : Sp} {fd : FuncData}
  {dV kV doc pm ct oc : Value} {an od : Option Addr} {osl : Array (Option Value)} {p0 p1 p2 apos pos : Pos} {e : Expr} {es : List Expr} {rest : List Stmt}
theorem fn_super (lk : K.lookup f = some ⟨oc, od, .func (PySem.W.fnX F.name F.qual F.params F.body F.scope F.cl dV kV doc pm an (.ref F.c) ct), osl⟩) (hcd : PySem.W.codeIn K (.ref F.c) F.qual = true)
    (S : NScope N (("self" : Str) :: ps) ["__class__"] F.scope) (T : SupAt P K mg F f D cc)
    (hbody : F.body = .Expr (.Call (.Attribute (.Call (.Name "super" p0) [] [] p1) "__init__" apos) (e :: es) [] pos) p2 :: rest)
    (len : ∀ vs H Q E, sp vs H Q E → vs.length = (("self" : Str) :: ps).length)
    (hst : ∀ env, starEach (e :: es) env = (false, eval e env) :: starEach es env) (hpl : ∀ env, (backTo pos (starEach es env)).any (·.1) = false)
    (hev : ∀ (env : Env), ∃ pl, eval (.Call (.Attribute (.Call (.Name "super" p0) [] [] p1) "__init__" apos) (e :: es) [] pos) env = (do
      let ov ← attributeBase (.Call (.Name "super" p0) [] [] p1) "__init__" env (eval (.Call (.Name "super" p0) [] [] p1) env)
      standAt apos.atName
      let (f, first) ← holding [ov] (getMethod ov "__init__" pl)
      callWith pos f first (backTo pos (starEach (e :: es) env)) []))
    (hsw : ∀ f s, swapsWith (.Call (.Attribute (.Call (.Name "super" p0) [] [] p1) "__init__" apos) (e :: es) [] pos) none p2.line (envF F f s) = pure false) (hni : ∀ f s, interactive (envF F f s) = false)
    (hb : ∀ (A : Around) (outer : List Env) (s : Shared) (H : Hp) (vs : List V) (Q : VK) (Ee : XK), Room k (A.deeper (envF F f s.heap.objs.size)) → sp vs H Q Ee →
      ∃ (a C dx : Addr) (fs : List (Str × V)) (vs' : List V) (ta : TA) (t : TS) (E2 : XK), vs = .ref a :: vs' ∧ H a = some (.ins C dx fs) ∧ Cls K C ∧ SupTo K C D f2 ∧ FnR P w K mg base CX2 k f2 sp2 ∧ Passes CX2 (ncx CX P w K mg base N F f A outer s H Ee) E2 ∧
        PA (ncx CX P w K mg base N F f A outer s H Ee) (e :: es) ta ∧ PSs (ncx CX P w K mg base N F f A outer s H Ee) rest t ∧
        ta (startF N vs [some (.ref D)]) H fun us H1 => sp2 (.ref a :: us) H1 (fun _ H2 => t { nx := fun _ H' => Q .non H', rt := Q } (startF N vs [some (.ref D)]) H2) E2) :
    FnOk P w K mg base CX (k + 1) f (PySem.W.fnX F.name F.qual F.params F.body F.scope F.cl dV kV doc pm an (.ref F.c) ct) (("self" : Str) :: ps) sp := by
  refine ⟨len, fun A outer s H args us vs Q Ee hr e0 hbind r hsp => ?_⟩
  have hl := len _ _ _ _ hsp
  have KX : K.In s.heap := e0.mod.kin.keeps fun b o z => (e0.bs b o z).1
  have lim : s.heap.NoLimit := e0.mod.nolimit.keeps fun b o z => (e0.bs b o z).1
  refine codeAny_call_function hr.depth (KX _ _ lk) rfl S.co S.gen rfl (PySem.W.codeRec_of KX hcd) (hbind _ _ _ _ ?_)
  refine wpAny_newFunctionEnv S.nocell (fun ⟨n, _⟩ hy => S.par n (List.of_mem_zip hy).1) (fun h₁ hns hsb => ⟨lim.fresh _ hsb, ?_⟩) S.kind
  show codeAny _ _ (.func F.body (envF F f s.heap.objs.size)) _ _
  have kp : ∀ b o, s.heap.get? b = some o → h₁.get? b = some o := fun b o z => hsb.extBut b o (Nat.ne_of_lt (Heap.lt_size z)) (Heap.get?_push_of_some _ z)
  obtain ⟨a, C, dx, fs, vs', ta, t, E2, ev, ea, cls, to, F2, px, ha, ht, hq⟩ := hb A outer s H vs Q Ee (hr.deeper _) hsp
  obtain ⟨kcl, kcd, kcs, hcell⟩ := T.cell
  have hcellH : H cc = none := (e0.bs cc _ (e0.mod.kin _ _ hcell)).2
  have CA : CellsAt F.cl ["__class__"] [some (.ref D)] s.heap H := by
    rw [T.cl]
    refine ⟨rfl, fun y c z => ?_, fun x y c z1 z2 => ?_, fun i y z => ?_⟩
    · have : c = cc := by
        simp only [List.lookup] at z
        split at z <;> cases z
        rfl
      subst this
      exact ⟨hcellH, _, _, KX _ _ hcell, rfl⟩
    · simp only [List.lookup] at z1 z2
      split at z1
      · rename_i q1
        split at z2
        · rename_i q2
          rw [beq_iff_eq.mp q1, beq_iff_eq.mp q2]
        · cases z2
      · cases z1
    · match i, z with
      | 0, z =>
        have : y = "__class__" := (Option.some.inj z).symm
        subst this
        exact ⟨cc, by simp [List.lookup], fun v hv => ⟨.ref D, by cases hv; rfl, _, KX _ _ hcell, rfl⟩⟩
      | i + 1, z => simp at z
  have I : Inv (ncx CX P w K mg base N F f A outer s H Ee) [] (startF N vs [some (.ref D)]) H { s with heap := h₁, toks := s.toks + ((("self" : Str) :: ps).zip us).length } := inv_startN S hr.hd e0 hl r CA hns kp
  have fin : ∀ {σ' : L2.St} {H' : Hp} {v : V} {u : Value} {s' : Shared}, Inv (ncx CX P w K mg base N F f A outer s H Ee) [] σ' H' s' → L2.RelV v u → Q v H' → CE outer P w H s Q u s' :=
    fun {σ' H' v u s'} J rv q => ⟨v, H', J.os, J.bare, J.base, J.hok, rv, q⟩
  refine ks_codeAny_funcAt ?_
  rw [hbody]
  refine ks_wpAt_execs_cons (ks_wpAt_Expr_any ?_ (hni _ _) (hsw _ _))
  obtain ⟨pl, he⟩ := hev (envF F f s.heap.objs.size)
  refine ks_wpAt_MethodCall (pl := pl) ?_ he
  obtain ⟨ar, har, hself⟩ := T.self
  obtain ⟨ccl, cdd, cvs, ccs, file, tf, hcod, hcvs, hfile⟩ := T.cod
  obtain ⟨cdD, hcD⟩ := T.clD
  obtain ⟨oD, hD1, hD2⟩ : ∃ oD, h₁.get? D = some oD ∧ oD.data = .cls cdD := by
    unfold PySem.W.clsIn at hcD
    split at hcD
    · rename_i c d cd' sl ho
      cases hcD
      exact ⟨_, kp _ _ (KX _ _ ho), rfl⟩
    · cases hcD
  have hkc : F.scope.names.lookup ("__class__" : Str) = some .free := S.frk _ List.mem_cons_self
  have hcl : F.cl.lookup ("__class__" : Str) = some cc := by rw [T.cl]; simp [List.lookup]
  have hka : F.scope.names.lookup ar.arg = some .local := by rw [hself]; exact S.par _ List.mem_cons_self
  obtain ⟨mA, O, _⟩ := ins_get I.hok ea
  obtain ⟨od', J, _⟩ := O.look
  refine ks_wpAt_super_base (env := envF F f s.heap.objs.size) T.ks hkc (by decide) rfl (kp _ _ (KX _ _ lk)) rfl har rfl (kp _ _ (KX _ _ hcod)) rfl hcvs hfile T.top ?_
  obtain ⟨mb, hmb1, hmb2⟩ := e0.mod.blt
  have bk : ∀ b o, base.get? b = some o → h₁.get? b = some o := fun b o z => kp _ _ (e0.bs b o z).1
  refine PySem.W.ks_loadName_global S.kind T.ks (Calls.loadGlobal_builtin (env := envF F f s.heap.objs.size) (e0.mod.glob.keeps bk) T.sup (hmb1.keeps bk) ((hmb2 _ (by decide)).trans rfl) ⟨rfl, ?_⟩)
  refine wpAny_loadName_free S.kind hkc hcl ⟨_, kp _ _ (KX _ _ hcell), rfl⟩ ?_
  obtain ⟨u1, us', eu, ru⟩ : ∃ u1 us', us = u1 :: us' ∧ u1 = Value.ref a := by
    subst ev
    cases r with
    | cons h1 _ => exact ⟨_, _, rfl, h1⟩
  subst ru
  have hv : ((("self" : Str) :: ps).zip us).reverse.lookup ar.arg = some (Value.ref a) := by
    have ndP : ((("self" : Str) :: ps)).Nodup := by
      have q := S.nd.sublist (List.take_sublist ((("self" : Str) :: ps).length + [("__class__" : Str)].length) N)
      rw [S.pre] at q
      exact (List.nodup_append.mp q).1
    rw [hself, eu]
    exact zip_look (i := 0) ndP rfl rfl
  refine wpAny_loadName_local S.kind hka hns hv ?_
  refine ks_wpAny_isType_cls hD1 hD2 ⟨rfl, ?_⟩
  refine ks_wpAny_call_super hD1 hD2 J.at_ J.cls (fun c z => ?_) (PySem.W.looks_mroIn I.kIn to.sub) (fun h' z k => ?_)
  · have := J.no
    unfold PySem.W.notCls at this
    rw [z] at this
    exact Bool.noConfusion this
  have I1 := pin_new (t' := s.toks + (((("self" : Str) :: ps).zip us).length)) I k (Nat.le_refl _) z (fun v q => nomatch q)
  refine getmethsup_ok I1 ea cls to fun s2 I2 => ?_
  refine callwith_im I2 (base_none I1 (Nat.le_refl _)) to.fn (thn (ha.run pos _ s2 _ H _ I2 hq) fun us2 s3 ⟨vs2, H2, I3, rv, q2⟩ => ⟨⟨pin_at I3, I3.kIn⟩, ?_⟩) (hst _) (hpl _)
  refine thn (run_im F2 (hr.deeper _) px I3 rv q2) fun u4 s4 ⟨v4, H4, I4, r4, q4⟩ => ?_
  refine wpAt_of_wpAny (wpAny_mono (ht.run [] s4 _ _ _ I4 q4) (fun fl s' hs => ?_) fun e s' hs => hs)
  cases fl with
  | ret u =>
    obtain ⟨v, σ', H', J, rv, q⟩ := hs
    exact fin J rv q
  | next =>
    obtain ⟨σ', H', J, q⟩ := hs
    exact fin (v := V.non) (u := Value.none) J rfl q
  | brk =>
    obtain ⟨_, _, _, q⟩ := hs
    exact False.elim q
  | cont =>
    obtain ⟨_, _, _, q⟩ := hs
    exact False.elim q
end
end Rg
/-! the truth of an own instance with __bool__ -/
namespace Rg
open PySem PySem.Spec PyProof.Rows L2
section
variable {X : Cx} {k : Nat} {f : Addr} {fd : FuncData} {sp : Sp} {e : Expr} {ta : TE}
def rTruO (K : PySem.W.Frag) (f : Addr) (sp : Sp) : V → Hp → (Bool → Hp → Prop) → Prop := fun x H Q => ∃ a C dx fs, x = .ref a ∧ H a = some (.ins C dx fs) ∧ PySem.W.findIn K (.ref C) "__bool__" = some (some (.ref f)) ∧ PySem.W.isFn K (.ref f) = true ∧
  sp [.ref a] H (fun v H' => ∃ b, v = .bl b ∧ Q b H') E0
theorem tru_insO {pns : List (Addr × Obj)} {σs : L2.St} {Hh : Hp} {s : Shared} {x : V} {u : Value} {Q : Bool → Hp → Prop} (F : FnOk X.prog X.w X.K X.mg X.base CX0 k f fd ["self"] sp) (hr : Room k X.A) (hb : Binds X.K fd ["self"] [])
    (Iv : Inv X pns σs Hh s) (rx : RelV x u) (h : rTruO X.K f sp x Hh Q) : wpAny (model X.prog X.w) X.A (truthy u) (TP X pns σs Q) X.xe s := by
  obtain ⟨a, C, dx, fs, rfl, ha, hs, hf, qq⟩ := h
  obtain rfl : u = Value.ref a := rx
  obtain ⟨mA, O, _⟩ := ins_get Iv.hok ha
  obtain ⟨od, J, _⟩ := O.look
  obtain ⟨m, hF⟩ := Iv.fr
  refine PySem.W.truthy_K hF Iv.ok.mod.kin J hs hf ?_
  have hlst : ([Value.ref a] ++ []).length = (["self"] : List Str).length := rfl
  refine wpAny_call (codeAny_mono (F.run X.A X.stack s Hh ⟨[.ref a], []⟩ [.ref a] [.ref a] _ E0 hr Iv.env0 (hb s [.ref a] Iv.kIn hlst) (.cons rfl .nil) qq) fun r s' hsq => ?_)
  cases r with
  | error e => exact hsq.elim
  | ok fl =>
    cases fl with
    | ret w =>
      obtain ⟨v, H', I3, rlv, b, ev, q3⟩ := Iv.after hsq
      subst ev
      cases rlv
      exact ⟨H', I3, q3⟩
    | next => exact False.elim hsq
    | brk => exact False.elim hsq
    | cont => exact False.elim hsq
theorem pt_bool (F : FnOk X.prog X.w X.K X.mg X.base CX0 k f fd ["self"] sp) (hr : Room k X.A) (hb : Binds X.K fd ["self"] []) (ha : PE X e ta)
    (he : ∀ whole, isTrue e X.env whole = (do let v ← whole; standAt e.pos; holding [v] (truthy v)) := by intro _; rfl) : PT X e (fun σ H Q => ta σ H fun x H' => rTruO X.K f sp x H' Q) := by
  refine ⟨fun pins s σ H Q I h => ?_⟩
  exact isTrue_plain (thn (ha.run pins s σ H _ I h) fun v s1 ⟨x, H1, I1, r1, q1⟩ => tru_insO F hr hb I1 r1 q1) (he _)
end
end Rg
namespace K
open PySem L2 Rg LamX
open Evl (pss_cut)
theorem pi_or {X : Cx} {tg e : Expr} {w1 w2 : TI} (h1 : PI X tg e w1) (h2 : PI X tg e w2) : PI X tg e (fun σ H R => w1 σ H R ∨ w2 σ H R) := ⟨fun pins s σ H R I h => h.elim (h1.run pins s σ H R I) (h2.run pins s σ H R I)⟩
/-! ### nested tuples (and lists) of numbers, texts and None -/
def Atm (v : V) (d : PyData) : Prop := (∃ i : Int, v = .int i ∧ d = .int i) ∨ (v = .non ∧ d = .none) ∨ ∃ z : {z : Str // PyData.strOk z = true}, v = .str z.1 ∧ d = .str z.1
def FV (H : Hp) (b : Bool) : Nat → V → PyData → Prop
  | 0, v, d => Atm v d
  | n + 1, v, d => Atm v d ∨ ∃ (a : Addr) (xs : List V) (ds : List PyData), v = .ref a ∧ (H a = some (.tup xs) ∨ (b = true ∧ H a = some (.lst xs))) ∧ d = .tuple ds ∧ xs.length ≤ 1000 ∧ Paired (FV H b n) xs ds
theorem FV.atm {H : Hp} {b : Bool} {v : V} {d : PyData} (h : Atm v d) : ∀ n, FV H b n v d
  | 0 => h
  | _ + 1 => .inl h
theorem FV.int {H : Hp} {b : Bool} {n : Nat} (i : Int) : FV H b n (.int i) (.int i) := FV.atm (.inl ⟨i, rfl, rfl⟩) n
theorem FV.non {H : Hp} {b : Bool} {n : Nat} : FV H b n .non .none := FV.atm (.inr (.inl ⟨rfl, rfl⟩)) n
theorem FV.tup {H : Hp} {b : Bool} {n : Nat} {a : Addr} {xs : List V} {ds : List PyData} (h : H a = some (.tup xs)) (l : xs.length ≤ 1000) (p : Paired (FV H b n) xs ds) : FV H b (n + 1) (.ref a) (.tuple ds) := .inr ⟨a, xs, ds, rfl, .inl h, rfl, l, p⟩
theorem FV.up {H : Hp} {b : Bool} : ∀ {n : Nat} {v : V} {d : PyData}, FV H b n v d → FV H b (n + 1) v d
  | 0, v, d, h => .inl h
  | n + 1, v, d, h => by
    rcases h with h | ⟨a, xs, ds, e, ha, ed, l, p⟩
    · exact .inl h
    · exact .inr ⟨a, xs, ds, e, ha, ed, l, par_imp (fun _ _ k => k.up) p⟩
theorem FV.ext {H H' : Hp} {b : Bool} (s : ExtN H H') : ∀ {n : Nat} {v : V} {d : PyData}, FV H b n v d → FV H' b n v d
  | 0, v, d, h => h
  | n + 1, v, d, h => by
    rcases h with h | ⟨a, xs, ds, e, ha, ed, l, p⟩
    · exact .inl h
    · exact .inr ⟨a, xs, ds, e, ha.imp (fun z => s _ _ z (fun _ q => nomatch q)) (fun z => ⟨z.1, s _ _ z.2 (fun _ q => nomatch q)⟩), ed, l, par_imp (fun _ _ k => k.ext s) p⟩
theorem FV.same {H H' : Hp} {b : Bool} {n : Nat} {v : V} {d : PyData} (h : FV H b n v d) (s : Same H H') : FV H' b n v d := h.ext (ExtN.of s)
theorem FV.mut {H : Hp} {D : Addr} {us ws : List V} (hD : H D = some (.lst us)) : ∀ {n : Nat} {v : V} {d : PyData}, FV H false n v d → FV (upd H D (.lst ws)) false n v d
  | 0, v, d, h => h
  | n + 1, v, d, h => by
    rcases h with h | ⟨a, xs, ds, e, ha, ed, l, p⟩
    · exact .inl h
    · refine .inr ⟨a, xs, ds, e, ?_, ed, l, par_imp (fun _ _ k => k.mut hD) p⟩
      rcases ha with ha | ⟨z, _⟩
      · exact .inl (by rw [upd_ne fun k => by rw [k, hD] at ha; cases ha]; exact ha)
      · cases z
theorem FV.any {H : Hp} : ∀ {n : Nat} {v : V} {d : PyData}, FV H false n v d → FV H true n v d
  | 0, v, d, h => h
  | n + 1, v, d, h => by
    rcases h with h | ⟨a, xs, ds, e, ha, ed, l, p⟩
    · exact .inl h
    · refine .inr ⟨a, xs, ds, e, ?_, ed, l, par_imp (fun _ _ k => k.any) p⟩
      rcases ha with ha | ⟨z, _⟩
      · exact .inl ha
      · cases z
theorem fv_ints {H : Hp} {b : Bool} {n : Nat} : ∀ l : List Int, Paired (FV H b n) (l.map V.int) (l.map PyData.int)
  | [] => .nil
  | i :: l => .cons (FV.int i) (fv_ints l)
section
variable {P : Program} {w : World} {K : PySem.W.Frag} {mg : Str → Option Value} {base : Heap}
def spFz (n : Nat) : Sp := fun vs H Q _ => ∃ (v : V) (d : PyData), vs = [v] ∧ FV H true n v d ∧ ∀ v' H', Same H H' → FV H' false n v' d → Q v' H'
abbrev nFz : List Str := ["value", "one"]
theorem scFz : FnScope nFz ["value"] (defScope sFixed) := ⟨rfl, rfl, rfl, by decide +kernel, rfl, by decide +kernel, by decide +kernel⟩
theorem atm_ty {H : Hp} {v : V} {d : PyData} (h : Atm v d) : ∃ k : String, TyX K H v (.type k) ∧ kitB k "list" = some false ∧ kitB k "tuple" = some false := by
  rcases h with ⟨i, rfl, _⟩ | ⟨rfl, _⟩ | ⟨z, rfl, _⟩
  · exact ⟨"int", .base (.int i), by decide +kernel, by decide +kernel⟩
  · exact ⟨"NoneType", .base .non, by decide +kernel, by decide +kernel⟩
  · exact ⟨"str", .base (.str z.1), by decide +kernel, by decide +kernel⟩
theorem ok_fz0 {f : Addr} {fd : FuncData} (F : Fun K "fixed" "fixed" sFixed f fd) (T : Bi mg) : FnOk P w K mg base CX0 1 f fd ["value"] (spFz 0) := by
  refine F.ok scFz (fun vs H Q E h => ?_) (fun cdv A outer s H vs Q E hr h => ?_)
  · obtain ⟨v, d, rfl, _⟩ := h
    rfl
  · refine ⟨_, pss_cons (ps_if (pt_val (pe_callB call_isiT (by rfl) T.isinstance (by decide +kernel) (pa_cons (pv 0) (pa_cons (pe_tup (pa_cons (pe_bltn (v := .ty "list") (u := .type "list") (by rfl) T.list (by decide +kernel) rfl) (pa_cons (pe_bltn (v := .ty "tuple") (u := .type "tuple") (by rfl) T.tuple (by decide +kernel) rfl) pa_nil))) pa_nil)))) (pss_one ps_never) pss_nil)
      (pss_one (ps_ret (pv 0))), ?_⟩
    obtain ⟨v, d, rfl, h, q⟩ := h
    refine ⟨_, rfl, (by show 2 ≤ sizeLine; decide), fun p hp => ?_⟩
    have s1 : Same H (upd H p (.tup [.ty "list", .ty "tuple"])) := (Same.refl H).new hp
    obtain ⟨k, ty, k1, k2⟩ := atm_ty (K := K) (H := upd H p (.tup [.ty "list", .ty "tuple"])) h
    refine ⟨v, p, [.ty "list", .ty "tuple"], .type k, _, false, rfl, upd_same, .cons (.ty _) (.cons (.ty _) .nil), ty, kitAny_cons (kit_ty k1) (fun e => kitAny_cons (b := false) (r := false) (kit_ty k2) (fun _ => kitAny_nil) fun e' => nomatch e') (fun e => nomatch e), _, rfl, iteF ?_⟩
    exact ⟨_, rfl, q _ _ s1 h⟩
theorem ok_fz1 {n : Nat} {f : Addr} {fd : FuncData} (F : Fun K "fixed" "fixed" sFixed f fd) (T : Bi mg) (FX : DefAt P w K mg base CX0 (n + 1) "fixed" ["value"] (spFz n) f fd) : FnOk P w K mg base CX0 (n + 2) f fd ["value"] (spFz (n + 1)) := by
  refine F.ok scFz (fun vs H Q E h => ?_) (fun cdv A outer s H vs Q E hr h => ?_)
  · obtain ⟨v, d, rfl, _⟩ := h
    rfl
  · have nd := scFz.nd
    refine ⟨_, pss_cons (ps_if (pt_val (pe_callB call_isiT (by rfl) T.isinstance (by decide +kernel) (pa_cons (pv 0) (pa_cons (pe_tup (pa_cons (pe_bltn (v := .ty "list") (u := .type "list") (by rfl) T.list (by decide +kernel) rfl) (pa_cons (pe_bltn (v := .ty "tuple") (u := .type "tuple") (by rfl) T.tuple (by decide +kernel) rfl) pa_nil))) pa_nil))))
        (pss_one (ps_ret (pe_callTy call_tuple_of (by rfl) T.tuple (by decide +kernel) (pa_cons (pe_lc (own := [("one", 1)]) (g := gName 1) (tt := tYes) rfl nd (pi_or (pi_list (pv 0)) (pi_tup (pv 0))) (blkOk_by (N := nFz) (sc := defScope sFixed) (by decide +kernel)) (fun _ _ _ _ _ => pg_name (i := 1) nd rfl (Or.inl rfl)) (fun _ _ _ _ _ => pts_nil) (fun _ _ _ _ _ => pe_call FX.ok hr rfl FX.g FX.kp FX.b .nil pass0 (pa_cons (pv 1) pa_nil))) pa_nil)))) pss_nil)
      (pss_one (ps_ret (pv 0))), ?_⟩
    obtain ⟨v, d, rfl, h, q⟩ := h
    refine ⟨_, rfl, (by show 2 ≤ sizeLine; decide), fun p hp => ?_⟩
    have s1 : Same H (upd H p (.tup [.ty "list", .ty "tuple"])) := (Same.refl H).new hp
    have hpp : upd H p (.tup [.ty "list", .ty "tuple"]) p = some (.tup [.ty "list", .ty "tuple"]) := upd_same
    generalize upd H p (.tup [.ty "list", .ty "tuple"]) = H1 at s1 hpp ⊢
    rcases h with h | ⟨a, xs, ds, rfl, ha, rfl, l, px⟩
    · obtain ⟨k, ty, k1, k2⟩ := atm_ty (K := K) (H := H1) h
      refine ⟨v, p, [.ty "list", .ty "tuple"], .type k, _, false, rfl, hpp, .cons (.ty _) (.cons (.ty _) .nil), ty, kitAny_cons (kit_ty k1) (fun e => kitAny_cons (b := false) (r := false) (kit_ty k2) (fun _ => kitAny_nil) fun e' => nomatch e') (fun e => nomatch e), _, rfl, iteF ?_⟩
      exact ⟨_, rfl, q _ _ s1 (.inl h)⟩
    have px1 := par_imp (fun _ _ k => FV.same k s1) px
    have body : ∀ (wi : It) (Gd : Hp → Prop), Walk wi xs.length Gd (YAt xs) → (∀ H', Same H1 H' → Gd H') → ∀ D, H1 D = none → ∀ (tt : TT) (R : VK), (∀ D' us H', Same H1 H' → H' D' = some (.lst us) → us.length = xs.length → Paired (FV H' false n) us ds → R (.ref D') H') → True := fun _ _ _ _ _ _ _ _ _ => trivial
    have fin : ∀ (D : Addr) (us : List V) (H' : Hp), Same H1 H' → H' D = some (.lst us) → us.length = xs.length → Paired (FV H' false n) us ds → ∀ t, H' t = none → Q (.ref t) (upd H' t (.tup us)) := fun D us H' s2 h2 ul pu t nt => by
      have s3 : Same H' (upd H' t (.tup us)) := (Same.refl H').new nt
      exact q _ _ ((s1.trans s2).trans s3) (.inr ⟨t, us, ds, rfl, .inl upd_same, rfl, by omega, par_imp (fun _ _ k => k.same s3) pu⟩)
    have step : ∀ (D : Addr) (j : Nat) (y : V) (H' : Hp) (us : List V), xs[j]? = some y → Same H1 H' → H1 D = none → H' D = some (.lst us) → us.length = j → Paired (FV H' false n) us (ds.take j) →
        spFz n [y] H' (fun v H2 => ∃ acc, H2 D = some (.lst acc) ∧ acc.length < sizeLine ∧ (Same H1 (upd H2 D (.lst (acc ++ [v]))) ∧ ∃ us, upd H2 D (.lst (acc ++ [v])) D = some (.lst us) ∧ us.length = j + 1 ∧ Paired (FV (upd H2 D (.lst (acc ++ [v]))) false n) us (ds.take (j + 1)))) E0 := fun D j y H' us hj s2 nD h2 ul pu => by
      obtain ⟨e, he, fv⟩ := par_get px1 hj
      have jl : j < xs.length := (List.getElem?_eq_some_iff.mp hj).1
      refine ⟨y, e, rfl, fv.same s2, fun v' H3 s3 fv' => ?_⟩
      have h3 := s3 _ _ h2
      refine ⟨us, h3, by rw [ul]; exact sm (by omega), (s2.trans s3).mut nD, us ++ [v'], upd_same, by rw [List.length_append, ul]; rfl, ?_⟩
      rw [← take_snoc he]
      exact par_app (par_imp (fun _ _ k => (k.same s3).mut h3) pu) (.cons (fv'.mut h3) .nil)
    rcases ha with ha | ⟨_, ha⟩
    · have ha1 := s1 _ _ ha
      refine ⟨.ref a, p, [.ty "list", .ty "tuple"], .type "tuple", _, true, rfl, hpp, .cons (.ty _) (.cons (.ty _) .nil), .base (.tup ha1), kitAny_cons (b := false) (kit_ty (by decide +kernel)) (fun _ => kitAny_cons (b := true) (r := true) (kit_ty (by decide +kernel)) (fun e => nomatch e) fun _ => rfl) (fun e => nomatch e), _, rfl, iteT ?_⟩
      refine .inr ⟨_, rfl, a, rfl, ⟨_, .inl (.inl ha1)⟩, fun D hD => ?_⟩
      refine lc_it (walk_tup (K := K) (a := a) (xs := xs)) (fun j H' => Same H1 H' ∧ ∃ us, H' D = some (.lst us) ∧ us.length = j ∧ Paired (FV H' false n) us (ds.take j)) ⟨(Same.refl H1).new hD, [], upd_same, rfl, .nil⟩ (fun j H' _ r => .inl (.inl (r.1 _ _ ha1))) ?_ ?_
      · rintro j y H2 H3 hj ⟨s2, us, h2, ul, pu⟩ ⟨rfl, hy⟩
        exact ⟨rfl, _, rfl, step D j y _ us hy s2 hD h2 ul pu⟩
      · rintro H2 ⟨s2, us, h2, ul, pu⟩
        rw [par_len px, List.take_length] at pu
        exact ⟨D, _, rfl, .inl ⟨SqL.of h2, fin D us H2 s2 h2 ul pu⟩⟩
    · have ha1 := s1 _ _ ha
      refine ⟨.ref a, p, [.ty "list", .ty "tuple"], .type "list", _, true, rfl, hpp, .cons (.ty _) (.cons (.ty _) .nil), .base (.lst ha1), kitAny_cons (b := true) (r := true) (kit_ty (kit_list "list" (by decide))) (fun e => nomatch e) (fun _ => rfl), _, rfl, iteT ?_⟩
      refine .inl ⟨_, rfl, a, rfl, ⟨_, SqL.of ha1⟩, fun D hD => ?_⟩
      refine lc_it (walk_list (K := K) (a := a) (xs := xs)) (fun j H' => Same H1 H' ∧ ∃ us, H' D = some (.lst us) ∧ us.length = j ∧ Paired (FV H' false n) us (ds.take j)) ⟨(Same.refl H1).new hD, [], upd_same, rfl, .nil⟩ (fun j H' _ r => SqL.of (r.1 _ _ ha1)) ?_ ?_
      · rintro j y H2 H3 hj ⟨s2, us, h2, ul, pu⟩ ⟨rfl, hy⟩
        exact ⟨rfl, _, rfl, step D j y _ us hy s2 hD h2 ul pu⟩
      · rintro H2 ⟨s2, us, h2, ul, pu⟩
        rw [par_len px, List.take_length] at pu
        exact ⟨D, _, rfl, .inl ⟨SqL.of h2, fin D us H2 s2 h2 ul pu⟩⟩
/-- fixed, to any depth -/
theorem at_fz {f : Addr} {fd : FuncData} (F : Fun K "fixed" "fixed" sFixed f fd) (T : Bi mg) (g : mg "fixed" = some (.ref f)) (kp : PySem.W.keepIn K (.ref f) = true) (b : Binds K fd ["value"] []) : ∀ n, DefAt P w K mg base CX0 (n + 1) "fixed" ["value"] (spFz n) f fd
  | 0 => ⟨ok_fz0 F T, g, kp, b⟩
  | n + 1 => ⟨ok_fz1 F T (at_fz F T g kp b n), g, kp, b⟩
end
end K
namespace K
open PySem L2 Rg LamX NdefX
open Evl (pss_cut)
/-! ### papers -/
/-- a class of papers: no own word, no own parts -/
structure PapC (K : PySem.W.Frag) (C : Addr) : Prop where
  cl : Cls K C
  nw : NoAttr K C "word"
  np : NoAttr K C "parts"
/-- a def that closes over __class__ -/
structure FunS (K : PySem.W.Frag) (x qual : Str) (st : Stmt) (f c cc : Addr) (fd : FuncData) : Prop where
  ex : ∃ (oc : Value) (od : Option Addr) (kV doc pm : Value) (an : Option Addr) (ct : Value) (osl : Array (Option Value)),
    fd = PySem.W.fnX x qual (defArgs st) (defBody st) (defScope st) [(("__class__" : Str), cc)] .none kV doc pm an (.ref c) ct ∧ K.lookup f = some ⟨oc, od, .func fd, osl⟩ ∧ PySem.W.codeIn K (.ref c) qual = true
  kp : PySem.W.keepIn K (.ref f) = true
theorem FunS.binds {K : PySem.W.Frag} {x qual : Str} {st : Stmt} {f c cc : Addr} {fd : FuncData} {ps : List Str} (F : FunS K x qual st f c cc fd)
    (h : ∀ (kV doc pm : Value) (an : Option Addr) (ct : Value) (us : List Value), us.length = ps.length → bindArgs (PySem.W.fnX x qual (defArgs st) (defBody st) (defScope st) [(("__class__" : Str), cc)] .none kV doc pm an (.ref c) ct) ⟨us, []⟩ = pure (ps.zip us)) : Binds K fd ps [] := by
  obtain ⟨oc, od, kV, doc, pm, an, ct, osl, rfl, lk, hcd⟩ := F.ex
  refine fun s us KX hl => ?_
  rw [List.append_nil] at hl ⊢
  intro A R E Q q
  rw [h kV doc pm an ct us hl]
  exact wpAny_pure q
section
variable {P : Program} {w : World} {K : PySem.W.Frag} {mg : Str → Option Value} {base : Heap}
def spPI (n : Nat) : Sp := fun vs H Q _ => ∃ (r C dx p : Addr) (word : Str) (xs : List V) (ds : List PyData), vs = [.ref r, .str word, .ref p] ∧ H r = some (.ins C dx []) ∧ PapC K C ∧ H p = some (.tup xs) ∧ Paired (FV H true n) xs ds ∧ xs.length ≤ 1000 ∧
  ∀ t H', But r H H' → FV H' false (n + 1) (.ref t) (.tuple ds) → H' r = some (.ins C dx [("word", .str word), ("parts", .ref t)]) → Q .non H'
def spPIR (K : PySem.W.Frag) (n : Nat) : Sp := fun vs H Q _ => ∃ (r C dx : Addr) (word : Str) (xs : List V) (ds : List PyData), vs = .ref r :: .str word :: xs ∧ H r = some (.ins C dx []) ∧ PapC K C ∧ Paired (FV H true n) xs ds ∧ xs.length ≤ 1000 ∧
  ∀ t H', But r H H' → FV H' false (n + 1) (.ref t) (.tuple ds) → H' r = some (.ins C dx [("word", .str word), ("parts", .ref t)]) → Q .non H'
abbrev nPI : List Str := ["self", "word", "parts"]
theorem scPI : FnScope nPI ((["self", "word"] : List Str) ++ (["parts"] : List Str)) (defScope sPaperInit) := ⟨rfl, rfl, rfl, by decide +kernel, rfl, by decide +kernel, by decide +kernel⟩
theorem FV.but {H H' : Hp} {r C dx : Addr} {fs : List (Str × V)} {b : Bool} (hr : H r = some (.ins C dx fs)) (s : But r H H') : ∀ {n : Nat} {v : V} {d : PyData}, FV H b n v d → FV H' b n v d
  | 0, v, d, h => h
  | n + 1, v, d, h => by
    rcases h with h | ⟨a, xs, ds, e, ha, ed, l, p⟩
    · exact .inl h
    · refine .inr ⟨a, xs, ds, e, ?_, ed, l, par_imp (fun _ _ k => k.but hr s) p⟩
      exact ha.imp (fun z => s _ _ (fun q => by rw [q, hr] at z; cases z) z) (fun z => ⟨z.1, s _ _ (fun q => by rw [q, hr] at z; cases z.2) z.2⟩)
/-- a def with a star parameter, by its body -/
theorem fn_starF {x qual : Str} {st : Stmt} {f : Addr} {fd : FuncData} {N ps : List Str} {pv : Str} {k : Nat} {sp : Sp} (F : Fun K x qual st f fd) (S : FnScope N (ps ++ [pv]) (defScope st))
    (hb : ∀ (kV doc pm : Value) (an : Option Addr) (cdv ct : Value) (us rest : List Value), us.length = ps.length → bindArgs (PySem.W.fnOf x qual (defArgs st) (defBody st) (defScope st) .none kV doc pm an cdv ct) ⟨us ++ rest, []⟩ = (newTuple rest >>= fun t => pure (ps.zip us ++ [(pv, t)])))
    (hbody : ∀ (cdv : Value) (A : Around) (outer : List Env) (s : Shared) (H : Hp) (vs : List V) (Q : VK) (E : XK), Room k (A.deeper (PyProof.Rows.envOfC qual (defScope st) s.heap.objs.size f cdv)) → sp vs H Q E →
      ∃ t, PSs (cxOf CX0 P w K mg base N qual (defScope st) f cdv A outer s H E).nox (defBody st) t ∧ t { nx := fun _ H' => Q .non H', rt := Q } (start N vs) H) :
    FnR P w K mg base CX0 (k + 1) f (fun vs H Q E => ∃ ws rest, vs = ws ++ rest ∧ ws.length = ps.length ∧ rest.length ≤ sizeLine ∧ ∀ p, H p = none → sp (ws ++ [V.ref p]) (upd H p (.tup rest)) Q E) := by
  obtain ⟨oc, od, kV, doc, pm, an, cdv, ct, osl, rfl, lk, hcd⟩ := F.ex
  refine StX.fn_star lk hcd S StX.cxUp_none (hb kV doc pm an cdv ct) fun A outer s H vs Q E hr hsp => ?_
  obtain ⟨t, h, q⟩ := hbody cdv A outer s H vs Q E hr hsp
  exact ⟨t, h.nox, q⟩
theorem ok_pi {n : Nat} {f fX : Addr} {fd fdX : FuncData} (F : Fun K "__init__" "Paper.__init__" sPaperInit f fd) (FX : DefAt P w K mg base CX0 (n + 2) "fixed" ["value"] (spFz (n + 1)) fX fdX) : FnR P w K mg base CX0 (n + 3) f (spPIR K n) := by
  have z := fn_starF (P := P) (w := w) (mg := mg) (base := base) (ps := ["self", "word"]) (pv := "parts") (N := nPI) (k := n + 2) (sp := spPI (K := K) n) F scPI (fun kV doc pm an cdv ct => StX.bind_star2 (B := fun l => bindArgs (PySem.W.fnOf "__init__" "Paper.__init__" (defArgs sPaperInit) (defBody sPaperInit) (defScope sPaperInit) .none kV doc pm an cdv ct) ⟨l, []⟩) (fun _ _ => rfl) (fun _ _ _ _ => rfl)) fun cdv A outer s H vs Q E hr h => by
    refine ⟨_, (pss_cons (ps_fld (pv 0) (pv 1) rfl) (pss_one (ps_fld (pv 0) (pe_call FX.ok hr rfl FX.g FX.kp FX.b .nil pass0 (pa_cons (pv 2) pa_nil)) rfl))), ?_⟩
    obtain ⟨r, C, dx, p, word, xs, ds, rfl, hr0, pc, hp, px, l, q⟩ := h
    refine ⟨_, rfl, _, rfl, r, C, dx, [], rfl, hr0, pc.cl, pc.nw, (by show 0 < 1000; decide), ?_⟩
    have hr1 : upd H r (.ins C dx (putF "word" (.str word) [])) r = some (.ins C dx [("word", .str word)]) := upd_same
    have s1 : But r H (upd H r (.ins C dx (putF "word" (.str word) []))) := fun b o ne e => by rw [upd_ne ne]; exact e
    generalize upd H r (.ins C dx (putF "word" (.str word) [])) = H1 at hr1 s1 ⊢
    have pr : p ≠ r := fun z => by rw [z, hr0] at hp; cases hp
    refine ⟨_, rfl, .ref p, .tuple ds, rfl, FV.tup (s1 _ _ pr hp) l (par_imp (fun _ _ k => k.but hr0 s1) px), fun v' H2 s2 fv => ?_⟩
    rcases fv with (⟨_, _, z⟩ | ⟨_, z⟩ | ⟨_, _, z⟩) | ⟨t, ys, es, rfl, ht, e2, l2, p2⟩
    · cases z
    · cases z
    · cases z
    have hr2 := s2 _ _ hr1
    refine ⟨_, rfl, r, C, dx, _, rfl, hr2, pc.cl, pc.np, (by show 1 < 1000; decide), ?_⟩
    have s3 : But r H2 (upd H2 r (.ins C dx (putF "parts" (.ref t) [("word", .str word)]))) := fun b o ne e => by rw [upd_ne ne]; exact e
    have fv2 : FV H2 false (n + 1) (.ref t) (.tuple ds) := .inr ⟨t, ys, es, rfl, ht, e2, l2, p2⟩
    exact q t _ ((s1.trans fun b o _ e => s2 _ _ e).trans s3) (fv2.but hr2 s3) upd_same
  exact z.imp fun vs H Q E ⟨r, C, dx, word, xs, ds, e, hr0, pc, px, l, q⟩ => ⟨[.ref r, .str word], xs, e, rfl, Nat.le_trans l (by decide), fun p np => by
    have s0 : Same H (upd H p (.tup xs)) := (Same.refl H).new np
    exact ⟨r, C, dx, p, word, xs, ds, rfl, s0 _ _ hr0, pc, upd_same, par_imp (fun _ _ k => k.same s0) px, l, fun t H' b fv hr' => q t H' (fun a o ne e => b a o ne (s0 _ _ e)) fv hr'⟩⟩
end
end K
namespace K
open PySem L2 Rg LamX NdefX
open Evl (pss_cut)
def nfS (st : Stmt) (x qual : Str) (cc c : Addr) : NF := ⟨x, qual, defArgs st, defBody st, defScope st, [(("__class__" : Str), cc)], c⟩
/-- what a tuple holds -/
theorem fv_list {H : Hp} {n : Nat} {t : Addr} {ds : List PyData} (h : FV H false (n + 1) (.ref t) (.tuple ds)) : ∃ xs, H t = some (.tup xs) ∧ Paired (FV H false n) xs ds := by
  rcases h with (⟨_, z, _⟩ | ⟨z, _⟩ | ⟨_, z, _⟩) | ⟨t', xs, es, e1, ht, e2, l2, p2⟩
  · cases z
  · cases z
  · cases z
  · cases e1
    cases e2
    rcases ht with ht | ⟨z, _⟩
    · exact ⟨xs, ht, p2⟩
    · cases z
/-! ### papers -/
/-- a paper of the class C: its fields, what its parts hold -/
def PapG (C : Addr) (word : Str) (fs : List (Str × V)) (H : Hp) (r : Addr) : Prop := ∃ dx t, H r = some (.ins C dx (("word", .str word) :: ("parts", .ref t) :: fs)) ∧ H t = some (.tup (fs.map (·.2)))
theorem PapG.ext {C : Addr} {word : Str} {fs : List (Str × V)} {H H' : Hp} {r : Addr} (h : PapG C word fs H r) (s : ExtN H H') : PapG C word fs H' r := by
  obtain ⟨dx, t, h1, h2⟩ := h
  exact ⟨dx, t, s _ _ h1 (fun _ q => nomatch q), s _ _ h2 (fun _ q => nomatch q)⟩
section
variable {P : Program} {w : World} {K : PySem.W.Frag} {mg : Str → Option Value} {base : Heap}
abbrev fsNI (v1 : V) : List (Str × V) := [("nets", v1)]
structure NetsC (K : PySem.W.Frag) (mg : Str → Option Value) (C : Addr) : Prop where
  pc : PapC K C
  n1 : NoAttr K C "nets"
  g : mg "Nets" = some (.ref C)
def spNI (K : PySem.W.Frag) (C : Addr) (n : Nat) : Sp := fun vs H Q _ => ∃ (r dx : Addr) (v1 : V) (d1 : PyData), vs = [.ref r, v1] ∧ H r = some (.ins C dx []) ∧ FV H true n v1 d1 ∧
  ∀ w1 H', But r H H' → FV H' false n w1 d1 → PapG C "nets" (fsNI w1) H' r → Q .non H'
abbrev nNI : List Str := ["self", "nets", "__class__"]
theorem scNI : NScope nNI ((("self" : Str)) :: (["nets"] : List Str)) ["__class__"] (defScope sNetsInit) := nscope_by (by decide +kernel)
theorem ok_ni {n : Nat} {f c cc C f2 : Addr} {fd : FuncData} (F : FunS K "__init__" "Nets.__init__" sNetsInit f c cc fd) (T : SupAt P K mg (nfS sNetsInit "__init__" "Nets.__init__" cc c) f C cc) (R : NetsC K mg C) (TO : SupTo K C C f2) (PI : FnR P w K mg base CX0 (n + 3) f2 (spPIR K n)) :
    FnOk P w K mg base CX0 (n + 4) f fd ["self", "nets"] (spNI K C n) := by
  obtain ⟨oc, od, kV, doc, pm, an, ct, osl, rfl, lk, hcd⟩ := F.ex
  refine fn_super (CX2 := CX0) (f2 := f2) (sp2 := spPIR K n) (F := nfS sNetsInit "__init__" "Nets.__init__" cc c) (N := nNI) (ps := ["nets"]) (sp := spNI K C n) (k := n + 3) lk hcd scNI T rfl (fun vs H Q E h => ?_) (fun _ => rfl) (fun _ => rfl) (fun _ => ⟨_, rfl⟩) (fun _ _ => rfl) (fun _ _ => rfl) fun A outer s H vs Q E hr h => ?_
  · obtain ⟨r, dx, v1, d1, rfl, _⟩ := h
    rfl
  · obtain ⟨r, dx, v1, d1, rfl, hr0, f1, q⟩ := h
    refine ⟨r, C, dx, [], _, _, _, _, rfl, hr0, R.pc.cl, TO, PI, pass0, (pa_cons pe_str (pa_cons (pv 1) pa_nil)),
      (pss_one (ps_fld (pv 0) (pe_ix (r := rIxT K) ix_tup (pe_fld (pv 0) rfl) pe_int (fun _ _ => rfl)) rfl)), ?_⟩
    refine ⟨_, rfl,  r, C, dx, "nets", [v1], [d1], rfl, hr0, R.pc, (.cons f1 .nil), (by show 1 ≤ 1000; decide), fun t H1 s1 fv hr1 => ?_⟩
    obtain ⟨xs, ht, px⟩ := fv_list fv
    obtain ⟨w1, rfl, g1⟩ : ∃ w1, xs = [w1] ∧ FV H1 false n w1 d1 := by
      cases px with
      | cons a p => cases p; exact ⟨_, rfl, a⟩
    have tr : t ≠ r := fun z => by rw [z, hr1] at ht; cases ht
    refine ⟨_, rfl, r, C, dx, _, _, rfl, hr1, R.pc.cl, R.pc.np, rfl, t, _, 0, w1, rfl, rfl, .inl (.inl ht), rfl, _, rfl, r, C, dx, _, rfl, hr1, R.pc.cl, R.n1, (by show 2 < 1000; decide), ?_⟩
    have s2 : But r H1 (upd H1 r (.ins C dx (putF "nets" w1 [("word", .str "nets"), ("parts", .ref t)]))) := fun b o ne e => by rw [upd_ne ne]; exact e
    have al : ∀ {v : V} {d : PyData}, FV H1 false n v d → FV (upd H1 r (.ins C dx (putF "nets" w1 [("word", .str "nets"), ("parts", .ref t)]))) false n v d := fun g => (g.but hr1 s2)
    exact q w1 _ (s1.trans s2) (al g1) ⟨dx, t, upd_same, s2 _ _ tr ht⟩
abbrev fsGI (v1 v2 v3 : V) : List (Str × V) := [("lot", v1), ("net", v2), ("others", v3)]
structure TooGreatC (K : PySem.W.Frag) (mg : Str → Option Value) (C : Addr) : Prop where
  pc : PapC K C
  n1 : NoAttr K C "lot"
  n2 : NoAttr K C "net"
  n3 : NoAttr K C "others"
  g : mg "TooGreat" = some (.ref C)
def spGI (K : PySem.W.Frag) (C : Addr) (n : Nat) : Sp := fun vs H Q _ => ∃ (r dx : Addr) (v1 v2 v3 : V) (d1 d2 d3 : PyData), vs = [.ref r, v1, v2, v3] ∧ H r = some (.ins C dx []) ∧ FV H true n v1 d1 ∧ FV H true n v2 d2 ∧ FV H true n v3 d3 ∧
  ∀ w1 w2 w3 H', But r H H' → FV H' false n w1 d1 → FV H' false n w2 d2 → FV H' false n w3 d3 → PapG C "toogreat" (fsGI w1 w2 w3) H' r → Q .non H'
abbrev nGI : List Str := ["self", "lot", "net", "others", "__class__"]
theorem scGI : NScope nGI ((("self" : Str)) :: (["lot", "net", "others"] : List Str)) ["__class__"] (defScope sTooGreatInit) := nscope_by (by decide +kernel)
theorem ok_gi {n : Nat} {f c cc C f2 : Addr} {fd : FuncData} (F : FunS K "__init__" "TooGreat.__init__" sTooGreatInit f c cc fd) (T : SupAt P K mg (nfS sTooGreatInit "__init__" "TooGreat.__init__" cc c) f C cc) (R : TooGreatC K mg C) (TO : SupTo K C C f2) (PI : FnR P w K mg base CX0 (n + 3) f2 (spPIR K n)) :
    FnOk P w K mg base CX0 (n + 4) f fd ["self", "lot", "net", "others"] (spGI K C n) := by
  obtain ⟨oc, od, kV, doc, pm, an, ct, osl, rfl, lk, hcd⟩ := F.ex
  refine fn_super (CX2 := CX0) (f2 := f2) (sp2 := spPIR K n) (F := nfS sTooGreatInit "__init__" "TooGreat.__init__" cc c) (N := nGI) (ps := ["lot", "net", "others"]) (sp := spGI K C n) (k := n + 3) lk hcd scGI T rfl (fun vs H Q E h => ?_) (fun _ => rfl) (fun _ => rfl) (fun _ => ⟨_, rfl⟩) (fun _ _ => rfl) (fun _ _ => rfl) fun A outer s H vs Q E hr h => ?_
  · obtain ⟨r, dx, v1, v2, v3, d1, d2, d3, rfl, _⟩ := h
    rfl
  · obtain ⟨r, dx, v1, v2, v3, d1, d2, d3, rfl, hr0, f1, f2, f3, q⟩ := h
    refine ⟨r, C, dx, [], _, _, _, _, rfl, hr0, R.pc.cl, TO, PI, pass0, (pa_cons pe_str (pa_cons (pv 1) (pa_cons (pv 2) (pa_cons (pv 3) pa_nil)))),
      (pss_cons (ps_fld (pv 0) (pe_ix (r := rIxT K) ix_tup (pe_fld (pv 0) rfl) pe_int (fun _ _ => rfl)) rfl)
      (pss_cons (ps_fld (pv 0) (pe_ix (r := rIxT K) ix_tup (pe_fld (pv 0) rfl) pe_int (fun _ _ => rfl)) rfl)
      (pss_one (ps_fld (pv 0) (pe_ix (r := rIxT K) ix_tup (pe_fld (pv 0) rfl) pe_int (fun _ _ => rfl)) rfl)))), ?_⟩
    refine ⟨_, rfl, _, rfl, _, rfl,  r, C, dx, "toogreat", [v1, v2, v3], [d1, d2, d3], rfl, hr0, R.pc, (.cons f1 (.cons f2 (.cons f3 .nil))), (by show 3 ≤ 1000; decide), fun t H1 s1 fv hr1 => ?_⟩
    obtain ⟨xs, ht, px⟩ := fv_list fv
    obtain ⟨w1, w2, w3, rfl, g1, g2, g3⟩ : ∃ w1 w2 w3, xs = [w1, w2, w3] ∧ FV H1 false n w1 d1 ∧ FV H1 false n w2 d2 ∧ FV H1 false n w3 d3 := by
      cases px with
      | cons a p => cases p with
        | cons b p => cases p with
          | cons c p => cases p; exact ⟨_, _, _, rfl, a, b, c⟩
    have tr : t ≠ r := fun z => by rw [z, hr1] at ht; cases ht
    refine ⟨_, rfl, r, C, dx, _, _, rfl, hr1, R.pc.cl, R.pc.np, rfl, t, _, 0, w1, rfl, rfl, .inl (.inl ht), rfl, _, rfl, r, C, dx, _, rfl, hr1, R.pc.cl, R.n1, (by show 2 < 1000; decide), ?_⟩
    have s2 : But r H1 (upd H1 r (.ins C dx (putF "lot" w1 [("word", .str "toogreat"), ("parts", .ref t)]))) := fun b o ne e => by rw [upd_ne ne]; exact e
    have hr2 : upd H1 r (.ins C dx (putF "lot" w1 [("word", .str "toogreat"), ("parts", .ref t)])) r = some (.ins C dx [("word", .str "toogreat"), ("parts", .ref t), ("lot", w1)]) := upd_same
    generalize upd H1 r (.ins C dx (putF "lot" w1 [("word", .str "toogreat"), ("parts", .ref t)])) = H2 at hr2 s2 ⊢
    have ht2 := s2 _ _ tr ht
    refine ⟨_, rfl, r, C, dx, _, _, rfl, hr2, R.pc.cl, R.pc.np, rfl, t, _, 1, w2, rfl, rfl, .inl (.inl ht2), rfl, _, rfl, r, C, dx, _, rfl, hr2, R.pc.cl, R.n2, (by show 3 < 1000; decide), ?_⟩
    have s3 : But r H2 (upd H2 r (.ins C dx (putF "net" w2 [("word", .str "toogreat"), ("parts", .ref t), ("lot", w1)]))) := fun b o ne e => by rw [upd_ne ne]; exact e
    have hr3 : upd H2 r (.ins C dx (putF "net" w2 [("word", .str "toogreat"), ("parts", .ref t), ("lot", w1)])) r = some (.ins C dx [("word", .str "toogreat"), ("parts", .ref t), ("lot", w1), ("net", w2)]) := upd_same
    generalize upd H2 r (.ins C dx (putF "net" w2 [("word", .str "toogreat"), ("parts", .ref t), ("lot", w1)])) = H3 at hr3 s3 ⊢
    have ht3 := s3 _ _ tr ht2
    refine ⟨_, rfl, r, C, dx, _, _, rfl, hr3, R.pc.cl, R.pc.np, rfl, t, _, 2, w3, rfl, rfl, .inl (.inl ht3), rfl, _, rfl, r, C, dx, _, rfl, hr3, R.pc.cl, R.n3, (by show 4 < 1000; decide), ?_⟩
    have s4 : But r H3 (upd H3 r (.ins C dx (putF "others" w3 [("word", .str "toogreat"), ("parts", .ref t), ("lot", w1), ("net", w2)]))) := fun b o ne e => by rw [upd_ne ne]; exact e
    have al : ∀ {v : V} {d : PyData}, FV H1 false n v d → FV (upd H3 r (.ins C dx (putF "others" w3 [("word", .str "toogreat"), ("parts", .ref t), ("lot", w1), ("net", w2)]))) false n v d := fun g => (((g.but hr1 s2).but hr2 s3).but hr3 s4)
    exact q w1 w2 w3 _ (((s1.trans s2).trans s3).trans s4) (al g1) (al g2) (al g3) ⟨dx, t, upd_same, s4 _ _ tr ht3⟩
end
end K
namespace K
open PySem L2 Rg
open Evl (pss_cut)
/-! ### pairs in order -/
def lexLe (a b : Int × Int) : Bool := !SrtO.lexB b a
theorem lexLe_iff {a b : Int × Int} : lexLe a b = true ↔ (a.1 < b.1 ∨ (a.1 = b.1 ∧ a.2 ≤ b.2)) := by
  unfold lexLe
  rw [Bool.not_eq_true', SrtO.lexB_no]
  omega
def srtQ (st : Strd) : Strd := st.mergeSort lexLe
theorem srtQ_perm (st : Strd) : (srtQ st).Perm st := List.mergeSort_perm ..
theorem lexLe_trans (a b c : Int × Int) (h1 : lexLe a b = true) (h2 : lexLe b c = true) : lexLe a c = true := by
  rw [lexLe_iff] at h1 h2 ⊢
  omega
theorem lexLe_total (a b : Int × Int) : (lexLe a b || lexLe b a) = true := by
  rw [Bool.or_eq_true, lexLe_iff, lexLe_iff]
  omega
theorem lexLe_anti {a b : Int × Int} (h1 : lexLe a b = true) (h2 : lexLe b a = true) : a = b := by
  rw [lexLe_iff] at h1 h2
  exact Prod.ext (by omega) (by omega)
theorem srtQ_sorted (st : Strd) : (srtQ st).Pairwise fun a b => lexLe a b = true := List.pairwise_mergeSort lexLe_trans lexLe_total st
theorem srtQ_uniq {l st : Strd} (p : l.Perm st) (h : l.Pairwise fun a b => lexLe a b = true) : l = srtQ st :=
  List.Perm.eq_of_pairwise (fun x y _ _ h1 h2 => lexLe_anti h1 h2) h (srtQ_sorted st) (p.trans (srtQ_perm st).symm)
theorem srtQ_of_perm {l st : Strd} (p : l.Perm st) : srtQ l = srtQ st := srtQ_uniq ((srtQ_perm l).trans p) (srtQ_sorted l)
theorem spat_of {H : Hp} : ∀ zs : List V, (∀ z ∈ zs, ∃ q, SPat H z q) → Paired (SPat H) zs (zs.map (pk H)) := by
  intro zs
  induction zs with
  | nil => exact fun _ => .nil
  | cons z zs ih =>
    intro k
    obtain ⟨q, hs⟩ := k z (List.mem_cons_self ..)
    exact .cons (by rw [pk_at hs]; exact hs) (ih fun y hy => k y (List.mem_cons_of_mem _ hy))
theorem srt_pairs {H : Hp} {xs ys : List V} {st : Strd} (px : Paired (SPat H) xs st) (srt : SrtO.Srtd (ltP (pk H)) ys) (pm : ys.Perm xs) : Paired (SPat H) ys (srtQ st) := by
  have h1 : Paired (SPat H) ys (ys.map (pk H)) := spat_of ys fun z hz => let ⟨q, _, h⟩ := par_mem px (pm.mem_iff.mp hz); ⟨q, h⟩
  have e : ys.map (pk H) = srtQ st := by
    refine srtQ_uniq ?_ ?_
    · rw [← pk_map px]
      exact pm.map _
    · rw [List.pairwise_map]
      refine List.Pairwise.imp (fun {a b} h => ?_) srt
      have h' : SrtO.lexB (pk H b) (pk H a) = false := h
      unfold lexLe
      rw [h']
      rfl
  rw [← e]
  exact h1
theorem pairs_of {H : Hp} {xs : List V} {st : Strd} (px : Paired (SPat H) xs st) : ∀ y ∈ xs, ∃ t, y = V.ref t ∧ H t = some (.tup [.int (pk H y).1, .int (pk H y).2]) := fun y hy => by
  obtain ⟨q, _, h⟩ := par_mem px hy
  rw [pk_at h]
  exact h
/-- a strand as it is kept -/
def sg0 (st : Strd) : Int := ((srtQ st).headD (0, 1)).2
def asS (st : Strd) : Strd := (srtQ st).map fun q => (q.1, q.2 * sg0 st)
theorem asS_len (st : Strd) : (asS st).length = st.length := by
  unfold asS
  rw [List.length_map, (srtQ_perm st).length_eq]
theorem asS_bars (st : Strd) : ((asS st).map (·.1)).Perm (st.map (·.1)) := by
  unfold asS
  rw [List.map_map]
  exact (srtQ_perm st).map _
theorem sg0_one {st : Strd} (h : goodS st) : sg0 st = 1 ∨ sg0 st = -1 := by
  unfold sg0
  cases e : srtQ st with
  | nil =>
    have := (srtQ_perm st).length_eq
    rw [e] at this
    exact absurd (List.eq_nil_of_length_eq_zero this.symm) h.1
  | cons q r => exact h.2.2 q ((srtQ_perm st).mem_iff.mp (by rw [e]; exact List.mem_cons_self ..))
theorem asS_good {st : Strd} (h : goodS st) : goodS (asS st) := by
  refine ⟨fun e => ?_, ?_, fun q hq => ?_⟩
  · have := asS_len st
    rw [e] at this
    exact h.1 (List.eq_nil_of_length_eq_zero this.symm)
  · rw [asS_len]
    exact h.2.1
  · obtain ⟨p, hp, rfl⟩ := List.mem_map.mp hq
    have a := h.2.2 p ((srtQ_perm st).mem_iff.mp hp)
    have b := sg0_one h
    show p.2 * sg0 st = 1 ∨ p.2 * sg0 st = -1
    rcases a with a | a <;> rcases b with b | b <;> rw [a, b] <;> decide
theorem sum_perm {a b : List Int} (p : a.Perm b) : a.sum = b.sum := by
  induction p with
  | nil => rfl
  | cons x _ ih => rw [List.sum_cons, List.sum_cons, ih]
  | swap x y l => simp only [List.sum_cons]; omega
  | trans _ _ h1 h2 => rw [h1, h2]
theorem sum_mulR (c : Int) : ∀ l : List Int, (l.map (· * c)).sum = l.sum * c
  | [] => by simp
  | x :: l => by rw [List.map_cons, List.sum_cons, List.sum_cons, sum_mulR c l, Int.add_mul]
theorem net_perm {ls : List Int} {a b : Strd} (p : a.Perm b) : net ls a = net ls b := sum_perm (p.map _)
def absI (z : Int) : Int := if z < 0 then -z else z
theorem absI_nat (z : Int) : absI z = (z.natAbs : Int) := by
  unfold absI
  split <;> omega
theorem net_asS {ls : List Int} {st : Strd} (h : goodS st) : absI (net ls (asS st)) = absI (net ls st) := by
  have e : net ls (asS st) = net ls st * sg0 st := by
    rw [← net_perm (srtQ_perm st)]
    unfold net asS
    rw [List.map_map, ← sum_mulR, List.map_map]
    congr 1
    refine List.map_congr_left fun q _ => ?_
    show ls.getD q.1.toNat 0 * (q.2 * sg0 st) = ls.getD q.1.toNat 0 * q.2 * sg0 st
    rw [Int.mul_assoc]
  rw [e, absI_nat, absI_nat, Int.natAbs_mul]
  rcases sg0_one h with k | k <;> rw [k] <;> simp
/-! ### strands as data -/
def pairD (q : Int × Int) : PyData := .tuple [.int q.1, .int q.2]
def strdD (st : Strd) : PyData := .tuple (st.map pairD)
def wayD (w : List Strd) : PyData := .tuple (w.map strdD)
theorem alike_pairs : ∀ a b : Strd, PySem.W.alikeAll (a.map pairD) (b.map pairD) = true
  | [], _ => by simp [PySem.W.alikeAll]
  | _ :: _, [] => by simp [PySem.W.alikeAll]
  | x :: a, y :: b => by
    show PySem.W.alikeAll (pairD x :: a.map pairD) (pairD y :: b.map pairD) = true
    rw [PySem.W.alikeAll, alike_pairs a b]
    simp [PySem.W.alike, PySem.W.alikeAll, pairD]
theorem deep_pairs : ∀ a : Strd, PyData.depthAll (a.map pairD) ≤ 1
  | [] => by simp [PyData.depthAll]
  | x :: a => by
    have ih := deep_pairs a
    rw [List.map_cons]
    simp [PyData.depthAll, PyData.depth, pairD]
    omega
theorem strd_dp {K : PySem.W.Frag} {H : Hp} : ∀ {xs : List V} {st : Strd}, Paired (SPat H) xs st → DpAll K H xs (st.map pairD)
  | _, _, .nil => .nil
  | _, _, .cons ⟨a, e, h⟩ t => .cons (by rw [e]; exact .tup (.inl (.inl h)) (.cons (.int _) (.cons (.int _) .nil))) (strd_dp t)
def sk (H : Hp) (x : V) : Strd := match x with
  | .ref a => (match H a with
    | some (.tup xs) => xs.map (pk H)
    | _ => [])
  | _ => []
theorem sk_at {H : Hp} {v : V} {st : Strd} (h : SSat H v st) : sk H v = st := by
  obtain ⟨a, xs, rfl, h, p⟩ := h
  show (match H a with
    | some (.tup xs) => xs.map (pk H)
    | _ => []) = st
  rw [h]
  exact pk_map p
theorem sk_map {H : Hp} : ∀ {xs : List V} {way : List Strd}, Paired (SSat H) xs way → xs.map (sk H) = way
  | _, _, .nil => rfl
  | _, _, .cons h t => by rw [List.map_cons, sk_at h, sk_map t]
theorem ss_of {H : Hp} : ∀ zs : List V, (∀ z ∈ zs, ∃ st, SSat H z st) → Paired (SSat H) zs (zs.map (sk H)) := by
  intro zs
  induction zs with
  | nil => exact fun _ => .nil
  | cons z zs ih =>
    intro k
    obtain ⟨st, hs⟩ := k z (List.mem_cons_self ..)
    exact .cons (by rw [sk_at hs]; exact hs) (ih fun y hy => k y (List.mem_cons_of_mem _ hy))
theorem strd_data {K : PySem.W.Frag} {H : Hp} {v : V} {st : Strd} (h : SSat H v st) : Dp K H v (strdD st) := by
  obtain ⟨a, xs, rfl, ha, px⟩ := h
  exact .tup (.inl (.inl ha)) (strd_dp px)
/-! ### sorted(..) of a list of data that are tuples: the very order -/
theorem each_data {X : Cx} {pns : List (Addr × Obj)} {σs : St} {Hh : Hp} {s : Shared} (Iv : L2.Inv X pns σs Hh s) {k : V → PyData} : ∀ {ys : List V} {out : List Value}, Vals ys out → (∀ x ∈ ys, Dp X.K Hh x (k x)) →
    PySem.W.EachIs (fun v b => ∃ as, Reads s.heap v (k b) as) out ys
  | _, _, .nil, _ => .nil
  | y :: ys, u :: out, .cons r t, h => .cons (Dp.reads Iv (k y) y u (h y (List.mem_cons_self ..)) r) (each_data Iv t fun x hx => h x (List.mem_cons_of_mem _ hx))
def srtW (w : List Strd) : List Strd := w.mergeSort (PySem.W.dataLe false strdD)
def rSortW (K : PySem.W.Frag) : List V → Hp → VK → Prop := fun vxs Hh Qq => ∃ (a : Addr) (xs : List V) (way : List Strd), vxs = [.ref a] ∧ SqL K Hh a xs ∧ Paired (SSat Hh) xs way ∧ (∀ st ∈ way, st ≠ []) ∧
  ∀ p ys, ys.Perm xs → Hh p = none → Paired (SSat Hh) ys (srtW way) → Qq (.ref p) (upd Hh p (.lst ys))
/-- an order by data: total, and alike only what is one -/
theorem le_trans' {α : Type} (k : α → PyData) (a b c : α) (h1 : PySem.W.dataLe false k a b = true) (h2 : PySem.W.dataLe false k b c = true) : PySem.W.dataLe false k a c = true := (PySem.W.sortLe_total (PyProof.Rows.listOrd PyProof.Rows.itemOrd) false (fun x => PySem.W.keyToks (k x))).trans a b c h1 h2
theorem le_total' {α : Type} (k : α → PyData) (a b : α) : (PySem.W.dataLe false k a b || PySem.W.dataLe false k b a) = true := Bool.or_eq_true _ _ |>.mpr ((PySem.W.sortLe_total (PyProof.Rows.listOrd PyProof.Rows.itemOrd) false (fun x => PySem.W.keyToks (k x))).total a b)
theorem le_anti {α : Type} {k : α → PyData} (inj : ∀ a b, PySem.W.keyToks (k a) = PySem.W.keyToks (k b) → a = b) {a b : α} (h1 : PySem.W.dataLe false k a b = true) (h2 : PySem.W.dataLe false k b a = true) : a = b := by
  have h1' : (!(PyProof.Rows.listOrd PyProof.Rows.itemOrd).blt (PySem.W.keyToks (k b)) (PySem.W.keyToks (k a))) = true := h1
  have h2' : (!(PyProof.Rows.listOrd PyProof.Rows.itemOrd).blt (PySem.W.keyToks (k a)) (PySem.W.keyToks (k b))) = true := h2
  rw [Bool.not_eq_true'] at h1' h2'
  exact inj _ _ ((PyProof.Rows.listOrd PyProof.Rows.itemOrd).total _ _ h2' h1')
theorem sort_uniq {α : Type} {k : α → PyData} (inj : ∀ a b, PySem.W.keyToks (k a) = PySem.W.keyToks (k b) → a = b) {l m : List α} (p : l.Perm m) (hl : l.Pairwise fun a b => PySem.W.dataLe false k a b = true) : l = m.mergeSort (PySem.W.dataLe false k) :=
  List.Perm.eq_of_pairwise (fun x y _ _ h1 h2 => le_anti inj h1 h2) hl (List.pairwise_mergeSort (le_trans' k) (le_total' k) m) (p.trans (List.mergeSort_perm ..).symm)
theorem strdT_inj : ∀ {l m : Strd} {r t : List (Int ⊕ List Nat)}, PySem.W.keyToksAll (l.map pairD) ++ r = PySem.W.keyToksAll (m.map pairD) ++ t → l = m ∧ r = t
  | [], [], r, t, h => by
    simp only [List.map_nil, PySem.W.keyToksAll, List.singleton_append] at h
    exact ⟨rfl, (List.cons.inj h).2⟩
  | [], y :: m, r, t, h => by
    simp only [List.map_nil, List.map_cons, PySem.W.keyToksAll, List.singleton_append, List.cons_append] at h
    have := Sum.inl.inj (List.cons.inj h).1
    omega
  | x :: l, [], r, t, h => by
    simp only [List.map_nil, List.map_cons, PySem.W.keyToksAll, List.singleton_append, List.cons_append] at h
    have := Sum.inl.inj (List.cons.inj h).1
    omega
  | x :: l, y :: m, r, t, h => by
    simp only [List.map_cons, pairD, PySem.W.keyToksAll, PySem.W.keyToks, List.cons_append, List.append_assoc, List.nil_append] at h
    simp only [List.cons.injEq, Sum.inl.injEq, true_and] at h
    obtain ⟨h1, h2, h3⟩ := h
    obtain ⟨a, b⟩ := strdT_inj (l := l) (m := m) (r := r) (t := t) h3
    exact ⟨by rw [a, Prod.ext h1 h2], b⟩
theorem strd_toks {c e : Strd} (h : PySem.W.keyToks (strdD c) = PySem.W.keyToks (strdD e)) : c = e := by
  unfold strdD at h
  rw [PySem.W.keyToks, PySem.W.keyToks] at h
  have : PySem.W.keyToksAll (c.map pairD) ++ [] = PySem.W.keyToksAll (e.map pairD) ++ [] := by rw [List.append_nil, List.append_nil]; exact h
  exact (strdT_inj this).1
theorem srtW_perm (w : List Strd) : (srtW w).Perm w := List.mergeSort_perm ..
theorem srtW_of_perm {l m : List Strd} (p : l.Perm m) : srtW l = srtW m := sort_uniq (fun _ _ => strd_toks) ((srtW_perm l).trans p) (List.pairwise_mergeSort (le_trans' strdD) (le_total' strdD) l)
theorem map_sortW {k : V → PyData} {f : V → Strd} (h : ∀ x, k x = strdD (f x)) (xs : List V) : (xs.mergeSort (PySem.W.dataLe false k)).map f = srtW (xs.map f) := by
  refine sort_uniq (fun _ _ => strd_toks) ((List.mergeSort_perm ..).map f) ?_
  rw [List.pairwise_map]
  refine (List.pairwise_mergeSort (le_trans' k) (le_total' k) xs).imp fun {a b} z => ?_
  have e : PySem.W.dataLe false k a b = PySem.W.dataLe false strdD (f a) (f b) := by
    show (!(PyProof.Rows.listOrd PyProof.Rows.itemOrd).blt (PySem.W.keyToks (k b)) (PySem.W.keyToks (k a))) = (!(PyProof.Rows.listOrd PyProof.Rows.itemOrd).blt (PySem.W.keyToks (strdD (f b))) (PySem.W.keyToks (strdD (f a))))
    rw [h, h]
  rw [← e]
  exact z
theorem cr_sortW {X : Cx} (hu : X.A.units + 64 < cLine) : CallR X (.builtin "sorted") (rSortW X.K) := by
  rintro pns s σs Hh vxs uvs Qq Iv rr ⟨a, xs, way, rfl, hs, px, hne, qq⟩
  obtain ⟨its, rv, hl, hsz⟩ := Iv.list hs
  rw [Vals.ref1 rr]
  have each : ∀ x ∈ xs, ∃ st, st ≠ [] ∧ SSat Hh x st := fun x hx => by
    obtain ⟨st, m, h⟩ := par_mem px hx
    exact ⟨st, hne st m, h⟩
  refine PySem.W.sorted_data (β := V) (R := fun u x => RelV x u) (enc := fun x => strdD (sk Hh x)) hl.isList (vals_each rv) (each_data Iv rv fun x hx => let ⟨st, _, h⟩ := each x hx; by rw [sk_at h]; exact strd_data h) (PySem.W.AllAlike.of fun b b' => by
    show PySem.W.alike (strdD _) (strdD _) = true
    unfold strdD
    rw [PySem.W.alike]
    exact alike_pairs _ _) (.inl fun d hd => ?_) hsz (fun x _ => ?_) fun out ho heach => ?_
  · obtain ⟨x, hxm, rfl⟩ := List.mem_map.mp hd
    obtain ⟨st, ne, h⟩ := each x hxm
    rw [sk_at h]
    cases st with
    | nil => exact absurd rfl ne
    | cons z zs => exact ⟨pairD z, zs.map pairD, rfl⟩
  · have := deep_pairs (sk Hh x)
    simp only [strdD, PyData.depth]
    omega
  · have hpm : (xs.mergeSort (PySem.W.dataLe false fun x => strdD (sk Hh x))).Perm xs := List.mergeSort_perm ..
    obtain ⟨n, hnn⟩ := PyProof.Rows.sortedAll_at s.heap its out.toArray
    have nf := Iv.hok.fresh (Nat.le_succ s.heap.objs.size)
    refine ⟨.ref _, upd Hh (s.heap.objs.size + 1) (.lst (xs.mergeSort (PySem.W.dataLe false fun x => strdD (sk Hh x)))), Iv.laid (t' := s.toks) (fun _ _ => PyProof.Rows.sortedAll_old) (Nat.le_succ _) ⟨by rw [hpm.length_eq]; exact hsz, out, n, each_vals heach, hnn⟩, rfl, qq _ _ hpm nf ?_⟩
    have h1 := ss_of (xs.mergeSort (PySem.W.dataLe false fun x => strdD (sk Hh x))) fun z hz => let ⟨st, _, h⟩ := each z (hpm.mem_iff.mp hz); ⟨st, h⟩
    rw [map_sortW (f := sk Hh) (fun _ => rfl), sk_map px] at h1
    exact h1
end K
namespace Rg
open PySem PySem.Spec PyProof.Rows L2
/-! ### set(xs) of a list of ints; sorted and len of a set of ints, any number of them -/
/-- an empty set, as the call makes it -/
abbrev mtSet (w : World) : Obj := { cls := .type "set", dict := none, data := .set #[] 0 (.fresh 0 0 (!w.params.followText "set-order")) }
section
variable {P : Program} {w : World} {B : Around} {E : Value → Shared → Prop} {z : Shared}
/-- an empty set is filled from a list of ints -/
theorem fill_set {a l : Addr} {arr : Array Value} (zs : List Int) {R : PySem.Fin → Shared → Prop} (calm : B.handled = none) (ga : z.heap.get? a = some (mtSet w)) (gl : z.heap.IsList l arr) (al : a ≠ l) (iz : IntsAre arr.toList zs) (few : zs.length + 1 < scanBound)
    (fin : ∀ (g : Heap) (tk m : Nat), SetR w g a (fun j => decide (j ∈ zs)) m → m ≤ zs.length → (∀ b u, b ≠ a → z.heap.get? b = some u → g.get? b = some u) → R (.done (.ret .none)) { z with heap := g, toks := tk }) :
    wpAny (model P w) B (Builtin.«set.__init__» ⟨[.ref a, .ref l], []⟩) R E z := by
  have same : arr.size = zs.length := by have q := iz.length; rwa [Array.length_toList] at q
  have la := Heap.lt_size ga
  have kept : ∀ {b : Addr} {u v : Obj}, z.heap.get? b = some u → (z.heap.push v).get? b = some u := fun q => Heap.get?_push_of_some _ q
  obtain ⟨⟨oc, od, ob, os⟩, gob, ec, nl, eb⟩ := id gl
  cases ec
  cases eb
  have ll := Heap.lt_size gob
  have y1 := PySem.F.sub_list_set
  have y2 := PySem.F.sub_list_frozenset
  have y3 : (Value.type "list" == Value.type "dict") = false := by decide
  have y4 := sub_set_self
  have ty : z.TypeIs (.ref a) "set" := ⟨_, ga, rfl⟩
  unfold Builtin.«set.__init__»
  unfold noKeywords
  unfold Builtin.Frozenset.updateFrom
  generalize hold : pyIter = it
  wp_walk
  subst hold
  refine wpAny_pyIter_list gl (wpAny_bind (wpAny_runValue ?_))
  have W := (Walks.list (prog := P) (w := w) (A := B.in1) (by simp [calm]) z.heap.objs.size l (Nat.ne_of_lt ll) arr).toS
  refine set_update_ints W a (by simp only [List.mem_cons, List.not_mem_nil, or_false, not_or]; exact ⟨Nat.ne_of_lt la, al⟩) zs same few (fun i v hv => ?_) (arr.size - 0) 0 _ (by omega) (Nat.zero_le _) ?_ ⟨0, Nat.le_refl 0, ?_⟩ fun t m mv ml R1 => ?_
  · have lt : i < zs.length := same ▸ (Array.getElem?_eq_some_iff.mp hv).1
    obtain ⟨t, q⟩ := PyProof.Rows.IntsAre.int_at iz i v (by rw [Array.getElem?_toList]; exact hv)
    exact ⟨zs[i], t, List.getElem?_eq_getElem lt, by rw [q, List.getD_eq_getElem?_getD, List.getElem?_eq_getElem lt] <;> rfl⟩
  · exact ⟨⟨_, Heap.get?_push_size _ rfl, rfl, rfl⟩, gl.push _⟩
  · exact setR_new_at (Heap.get?_push_of_some _ ga)
  · have g1 : t.gens = z.gens := mv.gens
    have g2 : t.drawn = z.drawn := mv.drawn
    have g3 : t.os = z.os := mv.os
    have same3 : t = { z with heap := t.heap, toks := t.toks } := by
      obtain ⟨t1, t2, t3, t4, t5⟩ := t
      simp only at g1 g2 g3
      subst g1 g2 g3
      rfl
    rw [same3]
    exact wpAny_pure (wpAny_pure (fin _ _ m R1 (same ▸ ml) fun b u ba gb => mv.heap b u (by simp only [List.mem_cons, List.not_mem_nil, or_false, not_or]; exact ⟨ba, Nat.ne_of_lt (Heap.lt_size gb)⟩) (kept gb)))
theorem set_of_list {A : Around} {l : Addr} {arr : Array Value} (zs : List Int) {Q : Value → Shared → Prop} (calm : A.handled = none) (gl : z.heap.IsList l arr) (iz : IntsAre arr.toList zs) (few : zs.length + 1 < scanBound)
    (fin : ∀ (g : Heap) (tk m : Nat), SetR w g z.heap.objs.size (fun j => decide (j ∈ zs)) m → m ≤ zs.length → (∀ b u, z.heap.get? b = some u → g.get? b = some u) → Q (.ref z.heap.objs.size) { z with heap := g, toks := tk }) : wpAny (model P w) A (call (.type "set") [.ref l]) Q E z := by
  have CS := PySem.F.called_set
  obtain ⟨k0, ks, ms⟩ := CS.mro
  have m1 := CS.made
  have m2 := CS.sub
  have m3 := CS.notType
  have m4 := CS.canCreate
  have m5 := PySem.F.typeCall_set_1 (.ref l)
  have m6 := CS.init.lookup
  have m7 := CS.init.bind (.ref z.heap.objs.size)
  have ll : l < z.heap.objs.size := by
    obtain ⟨o, go, _⟩ := gl
    exact Heap.lt_size go
  have new : (z.heap.push (mtSet w)).get? z.heap.objs.size = some (mtSet w) := Heap.get?_push_size _ rfl
  refine wpAny_call (codeAny_of_tree (show wpAny _ _ (callAny (.type "set") _) _ _ _ from wpAny_pure ⟨Code.quiet_builtin _ (by decide +kernel), codeAny_builtin PySem.F.entry_type_call ?_⟩))
  rw [Around.under_plain (weight_type_call_type "set" [.ref l] []) rfl]
  (repeat any_goals first | assumption | wp_step)
  refine codeAny_mono (code_set_led1 (.ref l) (E := E) (Q₁ := fun y t => y = .ref z.heap.objs.size ∧ t = { z with heap := z.heap.push (mtSet w) }) ⟨rfl, rfl⟩) fun r t hr => ?_
  rcases r with e | f
  · exact hr
  rcases f with _ | _ | _ | y
  all_goals first | (exact hr.elim; done) | skip
  obtain ⟨rfl, rfl⟩ := hr
  (repeat any_goals first | assumption | wp_step)
  refine codeAny_mono (codeAny_call_builtin (R := wants (fun y t => y = .none ∧ ∃ g tk m, t = { z with heap := g, toks := tk } ∧ SetR w g z.heap.objs.size (fun j => decide (j ∈ zs)) m ∧ m ≤ zs.length ∧ ∀ b u, z.heap.get? b = some u → g.get? b = some u) E) CS.init.plain PySem.F.entry_set_init (check_set_init_1 ⟨_, new, rfl⟩ ?_)) fun r t hr => ?_
  · exact fill_set (z := { z with heap := z.heap.push (mtSet w) }) zs (by simp [calm]) new (gl.push _) (Nat.ne_of_gt ll) iz few fun g tk m R1 ml k => ⟨rfl, g, tk, m, rfl, R1, ml, fun b u gb => k b u (Nat.ne_of_lt (Heap.lt_size gb)) (Heap.get?_push_of_some _ gb)⟩
  rcases r with e | f
  · exact hr
  rcases f with _ | _ | _ | y
  all_goals first | (exact hr.elim; done) | skip
  obtain ⟨rfl, g, tk, m, rfl, R1, ml, k⟩ := hr
  (repeat any_goals first | assumption | wp_step)
  exact fin g tk m R1 ml k
end

section
variable {P : Program} {w : World} {B : Around} {E : Value → Shared → Prop} {z : Shared}
theorem sort_ofSet {a : Addr} {S : Int → Bool} {n : Nat} {Q : Value → Shared → Prop} (R : SetR w z.heap a S n) (calm : B.handled = none) (few : n ≤ 4000)
    (fin : ∀ t p (out : List Value) (c : Nat) (zs : List Int), (∀ b u, z.heap.get? b = some u → t.heap.get? b = some u) → t.gens = z.gens → t.os = z.os → z.heap.objs.size ≤ p → t.heap.get? p = some (seqObj "list" out.toArray c) →
      IntsAre out zs → zs.Pairwise (· < ·) → (∀ k, k ∈ zs ↔ S k = true) → zs.length = n → Q (.ref p) t) : wpAny (model P w) B (call (.builtin "sorted") [.ref a]) Q E z := by
  rcases R with ⟨ob, es, ep, tb, gob, ex, eb, good, once, mem, small, fits, size, ris, led⟩
  refine Calls.call_function_entry kind_sorted plain_sorted entry_sorted (args_sorted1 (.ref a)) ?_
  unfold Builtin.«sorted»
  refine wpAny_bind (m := checkCount "sorted" 1 1 _) (wpAny_pure (wpAny_bind (collect_set (A := B.in1) calm ⟨ob, gob, ex.1, eb⟩ fits small ris led fun t us keep le tg to perm => ?_)))
  have un : us.length = n := by rw [perm.length_eq, List.length_map, Array.length_toList, size]
  have uz : us.length ≤ sizeLine := un ▸ Nat.le_trans few (by decide)
  have nums : IntsAre us (us.map SrtO.iv) := SrtO.ints_iv fun v hv => by
    obtain ⟨q, hq, rfl⟩ := List.mem_map.mp (perm.mem_iff.mp hv)
    obtain ⟨x, tk, ev, _⟩ := good q hq
    exact ⟨x, tk, ev⟩
  have keys : (us.map SrtO.iv).Perm (es.toList.map keyOf) := by
    refine (perm.map SrtO.iv).trans (List.Perm.of_eq ?_)
    rw [List.map_map]
    exact List.map_congr_left fun q _ => by
      obtain ⟨_, v⟩ := q
      cases v <;> rfl
  have new : (t.heap.push (seqObj "list" us.toArray 0)).get? t.heap.objs.size = some (seqObj "list" us.toArray 0) := Heap.get?_push_size _ rfl
  refine wpAny_bind (wpAny_newList (wpAny_bind (wpAny_holding (wpAny_call_entry slot_list_sort ⟨_, new, rfl⟩ entry_list_sort (SrtO.list_sort_ord SrtO.swo_int new uz (fun two => SrtO.ints_sortable nums two) fun out od st => ⟨_, rfl, ?_⟩) (args_list_sort _)))) uz)
  obtain ⟨i1, i2, i3⟩ := SrtO.ints_out nums od st
  obtain ⟨c, gc⟩ := PyProof.Rows.sortedHeap_at (vs := us) (out := out.toArray) new
  have all := i2.trans keys
  refine wpAny_pure ⟨_, rfl, fin _ t.heap.objs.size out c (out.map SrtO.iv) (fun b u gb => ?_) tg to le gc i1 (lt_of_le_nodup _ i3 (all.nodup_iff.mpr once)) (fun k => by rw [all.mem_iff]; exact (mem k).symm) (by rw [all.length_eq, List.length_map, Array.length_toList, size])⟩
  have old := Heap.lt_size (keep b u gb)
  exact (PyProof.Rows.sortedHeap_old (Nat.ne_of_lt old) (by rw [size_push']; exact Nat.lt_succ_of_lt old)).trans (Heap.get?_push_of_some _ (keep b u gb))
end
/-- set(xs), xs a list of ints -/
def rSetL (w : World) (K : PySem.W.Frag) : List V → Hp → VK → Prop := fun xs Hh Qq => ∃ (a : Addr) (zs : List Int), xs = [V.ref a] ∧ SqL K Hh a (zs.map V.int) ∧ zs.length ≤ 4000 ∧
  ∀ (p : Addr) (ks : List Int), ks.Nodup → (∀ k, k ∈ ks ↔ k ∈ zs) → ks.length ≤ zs.length → Hh p = none → Qq (.ref p) (upd Hh p (SetO w p (fun j => decide (j ∈ zs)) ks.length))
/-- sorted(found) of a set of ints -/
def rSortedSetN (w : World) : List V → Hp → VK → Prop := fun xs Hh Qq => ∃ (a : Addr) (S : Int → Bool) (n : Nat), xs = [V.ref a] ∧ Hh a = some (SetO w a S n) ∧ n ≤ 4000 ∧
  ∀ (zs : List Int) (p : Addr), zs.Pairwise (· < ·) → (∀ k : Int, k ∈ zs ↔ S k = true) → zs.length = n → Hh p = none → Qq (.ref p) (upd Hh p (.lst (zs.map V.int)))
/-- len(found) of a set of ints -/
def rLenSetO (w : World) : List V → Hp → VK → Prop := fun xs Hh Qq => ∃ (a : Addr) (S : Int → Bool) (n : Nat), xs = [V.ref a] ∧ Hh a = some (SetO w a S n) ∧ n ≤ 4000 ∧ Qq (.int n) Hh
section
variable {X : Cx}
theorem cr_setL (calm : X.calm = true) : CallR X (.type "set") (rSetL X.w X.K) := by
  rintro pns t σs Hh xs us Qq Iv rr ⟨a, zs, rfl, seq, few, q⟩
  obtain ⟨its, vals, lst, _⟩ := Iv.list seq
  rw [Vals.ref1 rr]
  refine set_of_list zs (Iv.ok.hd calm) lst.isList (by simpa using vals.ints) (by unfold scanBound; omega) fun g tk m R1 ml keep => ?_
  have free := Iv.hok.fresh (Nat.le_refl t.heap.objs.size)
  obtain ⟨ob, es, ep, tb, gob, ex, eb, good, once, mem, small, fits, size, ris, led⟩ := id R1
  have lk : (es.toList.map keyOf).length = m := by rw [List.length_map, Array.length_toList, size]
  have done := q t.heap.objs.size (es.toList.map keyOf) once (fun j => (mem j).symm.trans decide_eq_true_iff) (by rw [lk]; exact ml) free
  rw [lk] at done
  exact ⟨.ref _, _, Iv.laid (t' := tk) (fun b u gb => keep b u gb) (Nat.le_refl _) (setO_new R1), rfl, done⟩
theorem cr_sortedSetN (calm : X.calm = true) : CallR X (.builtin "sorted") (rSortedSetN X.w) := by
  rintro pns t σs Hh xs us Qq Iv rr ⟨a, S, n, rfl, ha, few, q⟩
  rw [Vals.ref1 rr]
  refine sort_ofSet (setO_get Iv ha) (Iv.ok.hd calm) few fun t2 p out c zs keep tg to le gp nums asc mem size => ?_
  have free : Hh p = none := Iv.hok.fresh le
  have fit : (zs.map V.int).length ≤ sizeLine := by rw [List.length_map, size]; exact Nat.le_trans few (by decide)
  have I2 : L2.Inv X pns σs (upd Hh p (.lst (zs.map V.int))) { t with heap := t2.heap, gens := t2.gens, drawn := t2.drawn, toks := t2.toks } := Iv.call (ch := []) (Un.laid keep le free) (Iv.hok.laid keep le ⟨fit, out, c, vals_of_ints nums, gp⟩) (by rw [tg]; exact Iv.bare) (fun _ x => nomatch x)
  obtain ⟨t21, t22, t23, t24, t25⟩ := t2
  cases to
  exact ⟨.ref p, _, I2, rfl, q zs p asc mem size free⟩
theorem cr_lenSetO : CallR X (.builtin "len") (rLenSetO X.w) := by
  rintro pns t σs Hh xs us Qq Iv rr ⟨a, S, n, rfl, ha, few, q⟩
  rw [Vals.ref1 rr]
  obtain ⟨ob, es, ep, tb, gob, ex, eb, good, once, mem, small, fits, size, ris, led⟩ := setO_get Iv ha
  exact call_len_set gob ex eb fits (by rw [size]; omega) ⟨.int n, Hh, Iv.tok _, ⟨_, by rw [size]⟩, q⟩
end
end Rg
namespace Rg
open PySem PySem.Spec PyProof.Rows L2
/-! ### sorted(t), t a tuple of pairs of ints -/
def rSortedTP (K : PySem.W.Frag) : List V → Hp → VK → Prop := fun xs Hh Qq => ∃ (a : Addr) (ys : List V) (k : V → Int × Int), xs = [V.ref a] ∧ SqT K Hh a ys ∧ (∀ y ∈ ys, ∃ t, y = V.ref t ∧ Hh t = some (.tup [.int (k y).1, .int (k y).2])) ∧
  ∀ (zs : List V) (p : Addr), SrtO.Srtd (ltP k) zs → SrtO.Stb (ltP k) zs ys → Hh p = none → Qq (.ref p) (upd Hh p (.lst zs))
theorem cr_sortedTP {X : Cx} : CallR X (.builtin "sorted") (rSortedTP X.K) := by
  rintro pns s σs Hh xs us Qq Iv rr ⟨a, ys, k, rfl, seq, pairs, q⟩
  obtain ⟨vls, vals, tp, fit⟩ := Iv.tuple seq
  rw [Vals.ref1 rr]
  obtain ⟨back, refs⟩ := refs_back vals fun x m => let ⟨t, e, _⟩ := pairs x m; ⟨t, e⟩
  have two : ∀ {h₁ : Heap}, (∀ b oj, s.heap.get? b = some oj → h₁.get? b = some oj) → ∀ v ∈ vls, Srt.IsPair h₁ v (k (backV v)).1 (k (backV v)).2 := fun keep v m => by
    obtain ⟨t, rfl⟩ := refs v m
    obtain ⟨t', e, at'⟩ := pairs (V.ref t) (by rw [back]; exact List.mem_map.mpr ⟨_, m, rfl⟩)
    cases e
    obtain ⟨_, its, r2, ob, go, cl, n, dat⟩ := Iv.hok _ _ at'
    obtain ⟨u1, u2, rfl, ⟨t1, rfl⟩, t2, rfl⟩ := vals2 r2
    exact ⟨t, ob, t1, t2, n, rfl, keep _ _ go, cl, dat⟩
  refine sorted_tup (SrtO.swo_lex fun u => k (backV u)) (isTuple_of tp) (by rw [← vals.length]; exact fit) (fun h2 h₁ a' new keep => SrtO.pairs_sortableO (by omega) (two fun b oj g => (keep b oj g).2) fun o g c => ?_) fun out ord st => ?_
  · rw [show h₁.get? a' = _ from new] at g
    cases g
    exact absurd (Value.type.inj c) (by decide)
  · have outs : ∀ u ∈ out, ∃ b, u = Value.ref b := fun u m => refs u (st.perm.mem_iff.mp m)
    obtain ⟨ep, gp⟩ := PyProof.Rows.sortedAll_at s.heap vls out.toArray
    have stb : SrtO.Stb (ltP k) (out.map backV) ys := by
      rw [back]
      exact SrtO.Stb.map (ltP_swo k) backV st
    exact ⟨.ref _, upd Hh (s.heap.objs.size + 1) (.lst (out.map backV)), Iv.laid (t' := s.toks) (fun _ _ => PyProof.Rows.sortedAll_old) (Nat.le_succ _) ⟨by rw [stb.len]; exact fit, out, ep, vals_back outs, gp⟩, rfl, q _ _ (SrtO.srtd_map ord) stb (Iv.hok.fresh (Nat.le_succ _))⟩
end Rg
namespace K
open PySem L2 Rg LamX
open Evl (pss_cut)
section
variable {P : Program} {w : World} {K : PySem.W.Frag} {mg : Str → Option Value} {base : Heap}
/-! ### as_strand -/
def spAsS : Sp := fun vs H Q _ => ∃ (v : V) (st : Strd), vs = [v] ∧ SSat H v st ∧ goodS st ∧ ∀ v' H', Same H H' → SSat H' v' (asS st) → Q v' H'
abbrev nAsS : List Str := ["pairs", "rows", "bar", "sign"]
theorem scAsS : FnScope nAsS ["pairs"] (defScope sAsStrand) := ⟨rfl, rfl, rfl, by decide +kernel, rfl, by decide +kernel, by decide +kernel⟩
theorem ok_asS {f : Addr} {fd : FuncData} (F : Fun K "as_strand" "as_strand" sAsStrand f fd) (T : Bi mg) : FnOk P w K mg base CX0 1 f fd ["pairs"] spAsS := by
  refine F.ok scAsS (fun vs H Q E h => ?_) (fun cdv A outer s H vs Q E hr h => ?_)
  · obtain ⟨v, st, rfl, _⟩ := h
    rfl
  · have nd := scAsS.nd
    refine ⟨_, pss_cons (ps_set (i := 1) nd rfl (Or.inr rfl) (pe_callB cr_sortedTP (by rfl) T.sorted (by decide +kernel) (pa_cons (pv 0) pa_nil)))
      (pss_one (ps_ret (pe_callTy call_tuple_of (by rfl) T.tuple (by decide +kernel) (pa_cons (pe_lc (own := [("bar", 2), ("sign", 3)]) (g := gTup K 2 (gCons (gName 2) (gCons (gName 3) gNil))) (tt := tYes) (te := tTup (tCons (tVar 2) (tCons (tOp (rI CMul fun i j => .int (i * j)) (tVar 3) (tOp (rIxT K) (tOp (rIxL K) (tVar 1) (tC (.int 0))) (tC (.int 1)))) tNil))) rfl nd (pi_list (pv 1))
        (blkOk_by (N := nAsS) (sc := defScope sAsStrand) (by decide +kernel)) (fun _ _ _ _ _ => pg_tup rfl (pgs_cons (pg_name (i := 2) nd rfl (Or.inl rfl)) (pgs_cons (pg_name (i := 3) nd rfl (Or.inl rfl)) pgs_nil))) (fun _ _ _ _ _ => pts_nil)
        (fun _ _ _ _ _ => pe_tup (pa_cons (pv 2) (pa_cons (pe_op op_mul (pv 3) (pe_ix (r := rIxT K) ix_tup (pe_ix (r := rIxL K) ix_list (pv 1) pe_int (fun _ _ => rfl)) pe_int (fun _ _ => rfl))) pa_nil)))) pa_nil)))), ?_⟩
    obtain ⟨v, st, rfl, ⟨a, xs, rfl, ha, px⟩, gs, k⟩ := h
    have l8 := gs.2.1
    refine ⟨_, rfl, a, xs, pk H, rfl, .inl (.inl ha), pairs_of px, fun zs p srt stb hp => ?_⟩
    have pz0 := srt_pairs px srt stb.perm
    have s1 : Same H (upd H p (.lst zs)) := (Same.refl H).new hp
    have hp1 : upd H p (.lst zs) p = some (.lst zs) := upd_same
    have pz := par_imp (fun _ _ z => SPat.same z s1) pz0
    generalize upd H p (.lst zs) = H1 at s1 hp1 pz ⊢
    have zl : zs.length = st.length := by rw [par_len pz, (srtQ_perm st).length_eq]
    have ql : (srtQ st).length = st.length := (srtQ_perm st).length_eq
    have z1 : 0 < zs.length := by
      have := List.length_pos_iff.mpr gs.1
      omega
    obtain ⟨y0, hy0⟩ : ∃ y0, zs[0]? = some y0 := ⟨_, List.getElem?_eq_getElem z1⟩
    obtain ⟨q0, hq0, c, rfl, hc⟩ := par_get pz hy0
    have es : sg0 st = q0.2 := by
      unfold sg0
      cases e : srtQ st with
      | nil => rw [e] at hq0; cases hq0
      | cons u r => rw [e] at hq0; cases hq0; rfl
    refine ⟨_, rfl, p, rfl, ⟨_, SqL.of hp1⟩, fun D hD => ?_⟩
    refine lc_list (K := K) (a := p) (xs := zs) (fun j H' => Same H1 H' ∧ ∃ us, H' D = some (.lst us) ∧ Paired (SPat H') us ((asS st).take j)) ⟨(Same.refl H1).new hD, [], upd_same, .nil⟩ (fun j H' _ r => r.1.seq (SqL.of hp1)) ?_ ?_
    · rintro j y H' hj ⟨s2, us, h2, pu⟩
      have hjl : j < zs.length := (List.getElem?_eq_some_iff.mp hj).1
      obtain ⟨q, hq, b, rfl, hb⟩ := par_get pz hj
      have hqs := gs.2.2 q ((srtQ_perm st).mem_iff.mp (List.mem_of_getElem? hq))
      have hq0s := gs.2.2 q0 ((srtQ_perm st).mem_iff.mp (List.mem_of_getElem? hq0))
      have ha' : (asS st)[j]? = some (q.1, q.2 * q0.2) := by
        unfold asS
        rw [List.getElem?_map, hq, es]
        rfl
      refine ⟨b, _, rfl, .inl (.inl (s2 _ _ hb)), rfl, ⟨_, _, rfl, _, _, rfl, rfl, rfl, _, rfl, _, rfl, _, rfl, p, _, _, _, rfl, rfl, SqL.of (s2 _ _ hp1), at_of (j := 0) rfl hy0, c, _, _, _, rfl, rfl, .inl (.inl (s2 _ _ hc)), (rfl : atI [V.int q0.1, V.int q0.2] 1 = some (.int q0.2)), _, _, rfl, rfl, .inr ⟨?_, ?_⟩, (by show 2 ≤ sizeLine; decide), fun t nt => ⟨us, ?_, ?_, (s2.new nt).mut hD, _, upd_same, ?_⟩⟩⟩
      · omega
      · omega
      · rw [upd_ne (ne_of_none h2 nt)]
        exact h2
      · rw [par_len pu, List.length_take]
        exact sm (by omega)
      · have h2t : upd H' t (.tup [.int q.1, .int (q.2 * q0.2)]) D = some (.lst us) := by
          rw [upd_ne (ne_of_none h2 nt)]
          exact h2
        have sp : SPat (upd H' t (.tup [.int q.1, .int (q.2 * q0.2)])) (.ref t) (q.1, q.2 * q0.2) := ⟨t, rfl, upd_same⟩
        rw [← take_snoc ha']
        exact par_app (par_imp (fun _ _ z => (z.same ((Same.refl H').new nt)).mut h2t) pu) (.cons (sp.mut h2t) .nil)
    rintro H2 ⟨s2, us, h2, pu⟩
    rw [show zs.length = (asS st).length by rw [asS_len, zl], List.take_length] at pu
    refine ⟨D, _, rfl, .inl ⟨SqL.of h2, fun t nt => ?_⟩⟩
    exact k _ _ ((s1.trans s2).new nt) ⟨t, us, rfl, upd_same, par_imp (fun _ _ z => z.same ((Same.refl H2).new nt)) pu⟩
end
structure LineC (K : PySem.W.Frag) (mg : Str → Option Value) (C : Addr) : Prop where
  cl : Cls K C
  nS : NoAttr K C "strands"
  nL : NoAttr K C "lots"
  nM : NoAttr K C "many"
  g : mg "LineUp" = some (.ref C)
def rTupOf (K : PySem.W.Frag) : List V → Hp → VK → Prop := fun xs H Q => ∃ p ys, xs = [V.ref p] ∧ ((SqL K H p ys ∧ ∀ l, H l = none → Q (.ref l) (upd H l (.tup ys))) ∨ SqT K H p ys ∧ Q (.ref p) H)
/-- a line-up: its strands, its lots, how many bars -/
def LotT (H : Hp) (v : V) (st : Strd) : Prop := ∃ a, v = .ref a ∧ H a = some (.tup ((st.map (·.1)).map V.int))
def LineF (C : Addr) (H : Hp) (r : Addr) (w : List Strd) : Prop := ∃ (dx t l : Addr) (xs : List V) (n : Int), H r = some (.ins C dx [("strands", .ref t), ("lots", .ref l), ("many", .int n)]) ∧ n = ((w.map fun st => (st.length : Int)).sum) ∧ SWat H (.ref t) w ∧ H l = some (.tup xs) ∧ Paired (LotT H) xs w
theorem LotT.same {H H' : Hp} {v : V} {st : Strd} (h : LotT H v st) (s : Same H H') : LotT H' v st := let ⟨a, e, z⟩ := h; ⟨a, e, s _ _ z⟩
theorem LotT.mut {H : Hp} {D : Addr} {us ws : List V} {v : V} {st : Strd} (h : LotT H v st) (hD : H D = some (.lst us)) : LotT (upd H D (.lst ws)) v st := by
  obtain ⟨a, e, z⟩ := h
  exact ⟨a, e, by rw [upd_ne fun k => by rw [k, hD] at z; cases z]; exact z⟩
theorem LotT.off {H : Hp} {r C dx : Addr} {fs : List (Str × V)} {o : HO} {v : V} {st : Strd} (h : LotT H v st) (hr : H r = some (.ins C dx fs)) : LotT (upd H r o) v st := by
  obtain ⟨a, e, z⟩ := h
  exact ⟨a, e, by rw [upd_ne fun k => by rw [k, hr] at z; cases z]; exact z⟩
theorem LotT.ext {H H' : Hp} {v : V} {st : Strd} (h : LotT H v st) (s : ExtN H H') : LotT H' v st := let ⟨a, e, z⟩ := h; ⟨a, e, s _ _ z (fun _ q => nomatch q)⟩
theorem SPat.ext {H H' : Hp} {v : V} {q : Int × Int} (h : SPat H v q) (s : ExtN H H') : SPat H' v q := let ⟨a, e, z⟩ := h; ⟨a, e, s _ _ z (fun _ q => nomatch q)⟩
theorem SSat.ext {H H' : Hp} {v : V} {q : Strd} (h : SSat H v q) (s : ExtN H H') : SSat H' v q := let ⟨a, xs, e, z, p⟩ := h; ⟨a, xs, e, s _ _ z (fun _ q => nomatch q), par_imp (fun _ _ k => k.ext s) p⟩
theorem SWat.ext {H H' : Hp} {v : V} {q : List Strd} (h : SWat H v q) (s : ExtN H H') : SWat H' v q := let ⟨a, xs, e, z, p⟩ := h; ⟨a, xs, e, s _ _ z (fun _ q => nomatch q), par_imp (fun _ _ k => k.ext s) p⟩
theorem LineF.ext {C : Addr} {H H' : Hp} {r : Addr} {w : List Strd} (h : LineF C H r w) (s : ExtN H H') : LineF C H' r w := by
  obtain ⟨dx, t, l, xs, n, h1, h2, h3, h4, h5⟩ := h
  exact ⟨dx, t, l, xs, n, s _ _ h1 (fun _ q => nomatch q), h2, h3.ext s, s _ _ h4 (fun _ q => nomatch q), par_imp (fun _ _ k => k.ext s) h5⟩
theorem LineF.same {C : Addr} {H H' : Hp} {r : Addr} {w : List Strd} (h : LineF C H r w) (s : Same H H') : LineF C H' r w := h.ext (ExtN.of s)
def dueW (way : List Strd) : List Strd := srtW (way.map asS)
theorem lst_fv {H : Hp} {v : V} {st : Strd} (h : LSt H v st) (l8 : st.length ≤ 8) : FV H true 2 v (strdD st) := by
  obtain ⟨a, xs, rfl, ha, px⟩ := h
  have xl := par_len px
  refine .inr ⟨a, xs, st.map pairD, rfl, .inr ⟨rfl, ha⟩, rfl, by omega, ?_⟩
  clear ha xl l8
  induction px with
  | nil => exact .nil
  | cons h _ ih =>
    obtain ⟨b, rfl, hb⟩ := h
    exact .cons (FV.tup hb (by show 2 ≤ 1000; decide) (.cons (FV.int _) (.cons (FV.int _) .nil))) ih
theorem fv_pairs {H : Hp} : ∀ {xs : List V} {st : Strd}, Paired (FV H false 1) xs (st.map pairD) → Paired (SPat H) xs st
  | _, [], .nil => .nil
  | _, q :: st, .cons h t => by
    refine .cons ?_ (fv_pairs t)
    rcases h with (⟨_, _, z⟩ | ⟨_, z⟩ | ⟨_, _, z⟩) | ⟨a, ys, es, rfl, ha, e, l, p⟩
    · cases z
    · cases z
    · cases z
    · cases e
      rcases ha with ha | ⟨z, _⟩
      · cases p with
        | cons a1 p => cases p with
          | cons a2 p =>
            cases p
            rcases a1 with ⟨i, rfl, e1⟩ | ⟨_, e1⟩ | ⟨_, _, e1⟩
            · cases e1
              rcases a2 with ⟨j, rfl, e2⟩ | ⟨_, e2⟩ | ⟨_, _, e2⟩
              · cases e2
                exact ⟨a, rfl, ha⟩
              · cases e2
              · cases e2
            · cases e1
            · cases e1
      · cases z
theorem fv_ss {H : Hp} {v : V} {st : Strd} (h : FV H false 2 v (strdD st)) : SSat H v st := by
  rcases h with (⟨_, _, z⟩ | ⟨_, z⟩ | ⟨_, _, z⟩) | ⟨a, ys, es, rfl, ha, e, l, p⟩
  · cases z
  · cases z
  · cases z
  · cases e
    rcases ha with ha | ⟨z, _⟩
    · exact ⟨a, ys, rfl, ha, fv_pairs p⟩
    · cases z
theorem SPat.off {H : Hp} {r C dx : Addr} {fs : List (Str × V)} {o : HO} {v : V} {q : Int × Int} (h : SPat H v q) (hr : H r = some (.ins C dx fs)) : SPat (upd H r o) v q := by
  obtain ⟨a, e, z⟩ := h
  exact ⟨a, e, by rw [upd_ne fun k => by rw [k, hr] at z; cases z]; exact z⟩
theorem SSat.off {H : Hp} {r C dx : Addr} {fs : List (Str × V)} {o : HO} {v : V} {q : Strd} (h : SSat H v q) (hr : H r = some (.ins C dx fs)) : SSat (upd H r o) v q := by
  obtain ⟨a, xs, e, z, p⟩ := h
  exact ⟨a, xs, e, by rw [upd_ne fun k => by rw [k, hr] at z; cases z]; exact z, par_imp (fun _ _ k => k.off hr) p⟩
end K
namespace K
open PySem L2 Rg LamX
open Evl (pss_cut)
section
variable {P : Program} {w : World} {K : PySem.W.Frag} {mg : Str → Option Value} {base : Heap}
def spLU (C : Addr) : Sp := fun vs H Q _ => ∃ (r dx : Addr) (v : V) (way : List Strd) (n : Nat), vs = [.ref r, v] ∧ H r = some (.ins C dx []) ∧ LWy H v way ∧ goodV n way ∧ 3 ≤ n ∧ n ≤ 8 ∧
  ∀ H', LineF C H' r (dueW way) → (∀ b o, H b = some o → b ≠ r → H' b = some o) → Q .non H'
abbrev nLU : List Str := ["self", "strands", "strand", "bar", "sign", "lot"]
theorem scLU : FnScope nLU ["self", "strands"] (defScope sLineUpInit) := ⟨rfl, rfl, rfl, by decide +kernel, rfl, by decide +kernel, by decide +kernel⟩
def scLUo : Scope := { kind := .function, names := [(Str.ofString ".0", .local), (Str.ofString "strand", .local), (Str.ofString "tuple", .globalImplicit)], isGenerator := false, isCoroutine := false }
theorem ok_lu {C f fA fS fX : Addr} {fd fdA fdS fdX : FuncData} (F : Fun K "__init__" "LineUp.__init__" sLineUpInit f fd) (T : Bi mg) (R : LineC K mg C) (ARE : DefAt P w K mg base CX0 4 "are_strands" ["value"] (spAre K) fA fdA) (AS : DefAt P w K mg base CX0 1 "as_strand" ["pairs"] spAsS fS fdS) (FX : DefAt P w K mg base CX0 3 "fixed" ["value"] (spFz 2) fX fdX) : FnOk P w K mg base CX0 5 f fd ["self", "strands"] (spLU C) := by
  refine F.ok scLU (fun vs H Q E h => ?_) (fun cdv A outer s H vs Q E hr h => ?_)
  · obtain ⟨r, dx, v, way, n, rfl, _⟩ := h
    rfl
  · have nd := scLU.nd
    refine ⟨_, pss_cons (ps_if (pt_not (pt_val (pe_call ARE.ok hr rfl ARE.g ARE.kp ARE.b .nil pass0 (pa_cons (pv 1) pa_nil)))) (pss_one ps_never) pss_nil)
      (pss_cons (ps_fld (pv 0) (pe_callTy call_tuple_of (by rfl) T.tuple (by decide +kernel) (pa_cons (pe_callB (cr_sortW hr.units) (by rfl) T.sorted (by decide +kernel) (pa_cons (pe_lc (own := [("strand", 2)]) (g := gName 2) (tt := tYes) (te := tCall spAsS [] E0 (tCons (tCall (spFz 2) [] E0 (tCons (tVar 2) tNil)) tNil)) rfl nd (pi_list (pv 1))
          (blkOk_by (N := nLU) (sc := defScope sLineUpInit) (by decide +kernel)) (fun _ _ _ _ _ => pg_name (i := 2) nd rfl (Or.inl rfl)) (fun _ _ _ _ _ => pts_nil) (fun _ _ _ _ _ => pe_call AS.ok (hr.mono (by decide)) rfl AS.g AS.kp AS.b .nil pass0 (pa_cons (pe_call FX.ok (hr.mono (by decide)) rfl FX.g FX.kp FX.b .nil pass0 (pa_cons (pv 2) pa_nil)) pa_nil))) pa_nil)) pa_nil)) rfl)
      (pss_cons (ps_fld (pv 0) (pe_callTy call_tuple_of (by rfl) T.tuple (by decide +kernel) (pa_cons (pe_lc (own := [("strand", 2)]) (g := gName 2) (tt := tYes) (te := tCB (rTupOf K) (tCons (tLc (iTup K (tVar 2)) (gTup K 2 (gCons (gName 3) (gCons (gName 4) gNil))) tYes (tVar 3) [3, 4]) tNil)) rfl nd (pi_tup (pe_fld (pv 0) rfl))
          (blkOk_by (N := nLU) (sc := defScope sLineUpInit) (by decide +kernel)) (fun _ _ _ _ _ => pg_name (i := 2) nd rfl (Or.inl rfl)) (fun _ _ _ _ _ => pts_nil)
          (fun _ _ _ _ _ => pe_callTy (r := rTupOf K) call_tuple_of (by rfl) T.tuple (by decide +kernel) (pa_cons (pe_lc (own := [("bar", 3), ("sign", 4)]) (g := gTup K 2 (gCons (gName 3) (gCons (gName 4) gNil))) (tt := tYes) (te := tVar 3) rfl nd (pi_tup (pv 2))
            (blkOk_by (N := nLU) (sc := relS scLUo (defScope sLineUpInit)) (by decide +kernel)) (fun _ _ _ _ _ => pg_tup rfl (pgs_cons (pg_name (i := 3) nd rfl (Or.inl rfl)) (pgs_cons (pg_name (i := 4) nd rfl (Or.inl rfl)) pgs_nil))) (fun _ _ _ _ _ => pts_nil) (fun _ _ _ _ _ => pv 3)) pa_nil))) pa_nil)) rfl)
      (pss_one (ps_fld (pv 0) (pe_callB (cr_sum rfl) (by rfl) T.sum (by decide +kernel) (pa_cons (pe_lc (own := [("lot", 5)]) (g := gName 5) (tt := tYes) (te := tCB (rLenS K) (tCons (tVar 5) tNil)) rfl nd (pi_tup (pe_fld (pv 0) rfl))
          (blkOk_by (N := nLU) (sc := defScope sLineUpInit) (by decide +kernel)) (fun _ _ _ _ _ => pg_name (i := 5) nd rfl (Or.inl rfl)) (fun _ _ _ _ _ => pts_nil) (fun _ _ _ _ _ => pe_callB (r := rLenS K) call_len_seq (by rfl) T.len PySem.boot_len (pa_cons (pv 5) pa_nil))) pa_nil)) rfl)))), ?_⟩
    obtain ⟨r, dx, v, way, n, rfl, hr0, sw, gw, n3, n8, k⟩ := h
    refine ⟨_, rfl, v, way, n, rfl, sw, gw, n3, n8, fun H1 s1 => ⟨_, rfl, iteF ?_⟩⟩
    obtain ⟨a, xs, rfl, ha, px⟩ := sw
    have ha1 := s1 _ _ ha
    have xl : xs.length = way.length := par_len px
    have w8 := gw.ln
    -- the strands
    refine ⟨_, rfl, a, rfl, ⟨_, SqL.of ha1⟩, fun D hD => ?_⟩
    refine lc_list (K := K) (a := a) (xs := xs) (fun j H' => Same H1 H' ∧ ∃ us, H' D = some (.lst us) ∧ Paired (SSat H') us ((way.map asS).take j)) ⟨(Same.refl H1).new hD, [], upd_same, .nil⟩ (fun j H' _ q => SqL.of (q.1 _ _ ha1)) ?_ ?_
    · rintro j y H' hj ⟨s2, us, h2, pu⟩
      obtain ⟨st, hst, rs⟩ := par_get px hj
      have ks := gw.st st (List.mem_of_getElem? hst)
      have jl : j < xs.length := (List.getElem?_eq_some_iff.mp hj).1
      have hst' : (way.map asS)[j]? = some (asS st) := by rw [List.getElem?_map, hst]; rfl
      refine ⟨rfl, _, rfl, y, _, rfl, lst_fv (rs.same (s1.trans s2)) ks.2.1, fun v1 H3 s3 r3 => ⟨v1, st, rfl, fv_ss r3, ks, fun v2 H4 s4 r4 => ?_⟩⟩
      have s34 := s3.trans s4
      refine ⟨us, s34 _ _ h2, ?_, (s2.trans s34).mut hD, _, upd_same, ?_⟩
      · rw [par_len pu, List.length_take]
        exact sm (by omega)
      · rw [← take_snoc hst']
        exact par_app (par_imp (fun _ _ z => (z.same s34).mut (s34 _ _ h2)) pu) (.cons (r4.mut (s34 _ _ h2)) .nil)
    rintro H2 ⟨s2, us, h2, pu⟩
    rw [show xs.length = (way.map asS).length by rw [List.length_map, xl], List.take_length] at pu
    have gA : ∀ st ∈ way.map asS, goodS st := fun st m => by
      obtain ⟨q, hq, rfl⟩ := List.mem_map.mp m
      exact asS_good (gw.st q hq)
    have gD : ∀ st ∈ dueW way, goodS st := fun st m => gA st ((srtW_perm _).mem_iff.mp m)
    have wl0 : (dueW way).length = way.length := by
      unfold dueW
      rw [(srtW_perm _).length_eq, List.length_map]
    refine ⟨D, us, way.map asS, rfl, SqL.of h2, pu, fun st m => (gA st m).1, fun p ys pm np py => ?_⟩
    have py : Paired (SSat H2) ys (dueW way) := py
    have s3 : Same H2 (upd H2 p (.lst ys)) := (Same.refl H2).new np
    have hp : upd H2 p (.lst ys) p = some (.lst ys) := upd_same
    generalize upd H2 p (.lst ys) = H3 at s3 hp ⊢
    refine ⟨p, _, rfl, .inl ⟨SqL.of hp, fun t nt => ?_⟩⟩
    have s4 : Same H3 (upd H3 t (.tup ys)) := (Same.refl H3).new nt
    have ht : upd H3 t (.tup ys) t = some (.tup ys) := upd_same
    generalize upd H3 t (.tup ys) = H4 at s4 ht ⊢
    have s14 := (s2.trans s3).trans s4
    have hr4 := s14 _ _ (s1 _ _ hr0)
    have py4 : Paired (SSat H4) ys (dueW way) := par_imp (fun _ _ z => z.same (s3.trans s4)) py
    have nrt : t ≠ r := fun z => by rw [z, hr4] at ht; cases ht
    refine ⟨_, rfl, r, C, dx, [], rfl, hr4, R.cl, R.nS, (by show 0 < 1000; decide), ?_⟩
    have fresh_ne : ∀ {H' : Hp} {b : Addr} {o : HO}, H' b = some o → ∀ {l : Addr}, H' l = none → b ≠ l := fun h _ n z => by rw [z, n] at h; cases h
    have off1 : ∀ b o, H b = some o → b ≠ r → upd H4 r (.ins C dx (putF ("strands" : Str) (.ref t) [])) b = some o := fun b o hb nb => by rw [upd_ne nb]; exact s14 _ _ (s1 _ _ hb)
    have hr5 : upd H4 r (.ins C dx (putF ("strands" : Str) (.ref t) [])) r = some (.ins C dx [(("strands" : Str), .ref t)]) := upd_same
    have ht5 : upd H4 r (.ins C dx (putF ("strands" : Str) (.ref t) [])) t = some (.tup ys) := by rw [upd_ne nrt]; exact ht
    have py5 : Paired (SSat (upd H4 r (.ins C dx (putF ("strands" : Str) (.ref t) [])))) ys (dueW way) := par_imp (fun _ _ z => z.off hr4) py4
    generalize upd H4 r (.ins C dx (putF ("strands" : Str) (.ref t) [])) = H5 at off1 hr5 ht5 py5 ⊢
    have yl : ys.length = (dueW way).length := par_len py5
    have wl : (dueW way).length = way.length := wl0
    -- the lots
    refine ⟨_, rfl, r, C, dx, _, _, rfl, hr5, R.cl, R.nS, rfl, t, rfl, ⟨_, .inl (.inl ht5)⟩, fun D2 hD2 => ?_⟩
    refine lc_tup (K := K) (a := t) (xs := ys) (fun j H' => Same H5 H' ∧ ∃ us, H' D2 = some (.lst us) ∧ Paired (LotT H') us ((dueW way).take j)) ⟨(Same.refl H5).new hD2, [], upd_same, .nil⟩ (fun j H' _ q => .inl (.inl (q.1 _ _ ht5))) ?_ ?_
    · rintro j y H' hj ⟨s6, us6, h6, pu6⟩
      obtain ⟨st, hst, rs⟩ := par_get py5 hj
      obtain ⟨b, zs, rfl, hb, pz⟩ := rs.same s6
      have zl : zs.length = st.length := par_len pz
      have st8 : st.length ≤ 8 := (gD st (List.mem_of_getElem? hst)).2.1
      refine ⟨rfl, _, rfl, b, rfl, ⟨_, .inl (.inl hb)⟩, fun D3 hD3 => ?_⟩
      refine lc_tup (K := K) (a := b) (xs := zs) (fun i G => Same H' G ∧ G D3 = some (.lst (((st.take i).map (·.1)).map V.int))) ⟨(Same.refl H').new hD3, upd_same⟩ (fun i G _ q => .inl (.inl (q.1 _ _ hb))) ?_ ?_
      · rintro i z G hi ⟨s7, h7⟩
        have hil : i < zs.length := (List.getElem?_eq_some_iff.mp hi).1
        obtain ⟨q, hq, c, rfl, hc⟩ := par_get pz hi
        refine ⟨c, _, rfl, .inl (.inl (s7 _ _ hc)), rfl, _, _, rfl, _, _, rfl, rfl, rfl, _, rfl, _, h7, ?_, s7.mut hD3, ?_⟩
        · rw [List.length_map, List.length_map, List.length_take]
          exact sm (by omega)
        · rw [upd_same, ← take_snoc hq, List.map_append, List.map_append]
          rfl
      rintro G1 ⟨s7, h7⟩
      rw [zl, List.take_length] at h7
      refine ⟨D3, _, rfl, .inl ⟨SqL.of h7, fun l nl => ?_⟩⟩
      have s8 : Same H' (upd G1 l (.tup ((st.map (·.1)).map V.int))) := s7.new nl
      have hl8 : upd G1 l (.tup ((st.map (·.1)).map V.int)) l = some (.tup ((st.map (·.1)).map V.int)) := upd_same
      generalize upd G1 l (.tup ((st.map (·.1)).map V.int)) = G2 at s8 hl8 ⊢
      refine ⟨us6, s8 _ _ h6, ?_, (s6.trans s8).mut hD2, _, upd_same, ?_⟩
      · rw [par_len pu6, List.length_take]
        exact sm (by omega)
      · have lr : LotT G2 (.ref l) st := ⟨l, rfl, hl8⟩
        rw [← take_snoc hst]
        exact par_app (par_imp (fun _ _ z => (z.same s8).mut (s8 _ _ h6)) pu6) (.cons (lr.mut (s8 _ _ h6)) .nil)
    rintro H6 ⟨s6, us6, h6, pu6⟩
    rw [yl, List.take_length] at pu6
    have u6l : us6.length = (dueW way).length := par_len pu6
    refine ⟨D2, _, rfl, .inl ⟨SqL.of h6, fun t2 nt2 => ?_⟩⟩
    have s7 : Same H5 (upd H6 t2 (.tup us6)) := s6.new nt2
    have ht2 : upd H6 t2 (.tup us6) t2 = some (.tup us6) := upd_same
    have pu7 : Paired (LotT (upd H6 t2 (.tup us6))) us6 (dueW way) := par_imp (fun _ _ z => z.same ((Same.refl H6).new nt2)) pu6
    generalize upd H6 t2 (.tup us6) = H7 at s7 ht2 pu7 ⊢
    have hr7 := s7 _ _ hr5
    have nrt2 : t2 ≠ r := fun z => by rw [z, hr7] at ht2; cases ht2
    refine ⟨_, rfl, r, C, dx, _, rfl, hr7, R.cl, R.nL, (by show 1 < 1000; decide), ?_⟩
    have off2 : ∀ b o, H b = some o → b ≠ r → upd H7 r (.ins C dx (putF ("lots" : Str) (.ref t2) [(("strands" : Str), .ref t)])) b = some o := fun b o hb nb => by rw [upd_ne nb]; exact s7 _ _ (off1 b o hb nb)
    have hr8 : upd H7 r (.ins C dx (putF ("lots" : Str) (.ref t2) [(("strands" : Str), .ref t)])) r = some (.ins C dx [(("strands" : Str), .ref t), (("lots" : Str), .ref t2)]) := upd_same
    have ht8 : upd H7 r (.ins C dx (putF ("lots" : Str) (.ref t2) [(("strands" : Str), .ref t)])) t = some (.tup ys) := by rw [upd_ne nrt]; exact s7 _ _ ht5
    have ht28 : upd H7 r (.ins C dx (putF ("lots" : Str) (.ref t2) [(("strands" : Str), .ref t)])) t2 = some (.tup us6) := by rw [upd_ne nrt2]; exact ht2
    have py8 : Paired (SSat (upd H7 r (.ins C dx (putF ("lots" : Str) (.ref t2) [(("strands" : Str), .ref t)])))) ys (dueW way) := par_imp (fun _ _ z => (z.same s7).off hr7) py5
    have pu8 : Paired (LotT (upd H7 r (.ins C dx (putF ("lots" : Str) (.ref t2) [(("strands" : Str), .ref t)])))) us6 (dueW way) := par_imp (fun _ _ z => z.off hr7) pu7
    generalize upd H7 r (.ins C dx (putF ("lots" : Str) (.ref t2) [(("strands" : Str), .ref t)])) = H8 at off2 hr8 ht8 ht28 py8 pu8 ⊢
    -- how many
    refine ⟨_, rfl, r, C, dx, _, _, rfl, hr8, R.cl, R.nL, rfl, t2, rfl, ⟨_, .inl (.inl ht28)⟩, fun D4 hD4 => ?_⟩
    refine lc_tup (K := K) (a := t2) (xs := us6) (fun j H' => Same H8 H' ∧ H' D4 = some (.lst ((((dueW way).take j).map fun st => (st.length : Int)).map V.int))) ⟨(Same.refl H8).new hD4, upd_same⟩ (fun j H' _ q => .inl (.inl (q.1 _ _ ht28))) ?_ ?_
    · rintro j y H' hj ⟨s9, h9⟩
      obtain ⟨st, hst, b, rfl, hb⟩ := par_get pu8 hj
      refine ⟨rfl, _, rfl, b, _, rfl, .inr (.inl (.inl (s9 _ _ hb))), _, h9, ?_, s9.mut hD4, ?_⟩
      · rw [List.length_map, List.length_map, List.length_take]
        exact sm (by omega)
      · rw [upd_same, ← take_snoc hst, List.map_append, List.map_append, List.length_map, List.length_map]
        rfl
    rintro H9 ⟨s9, h9⟩
    refine ⟨D4, _, rfl, SqL.of h9, ?_⟩
    have hr9 := s9 _ _ hr8
    refine ⟨_, rfl, r, C, dx, _, rfl, hr9, R.cl, R.nM, (by show 2 < 1000; decide), ?_⟩
    rw [u6l, List.take_length]
    refine k _ ⟨dx, t, t2, us6, _, upd_same, rfl, ⟨t, ys, rfl, ?_, par_imp (fun _ _ z => (z.same s9).off hr9) py8⟩, ?_, par_imp (fun _ _ z => (z.same s9).off hr9) pu8⟩ fun b o hb nb => ?_
    · rw [upd_ne nrt]
      exact s9 _ _ ht8
    · rw [upd_ne nrt2]
      exact s9 _ _ ht28
    · rw [upd_ne nb]
      exact s9 _ _ (off2 b o hb nb)
end
end K
namespace K
open PySem L2 Rg LamX
open Evl (pss_cut)
/-- a line-up, of which nothing is known but its strands -/
def LineW (C : Addr) (H : Hp) (r : Addr) (way : List Strd) : Prop := ∃ (dx t : Addr) (fs : List (Str × V)), H r = some (.ins C dx fs) ∧ fs.lookup ("strands" : Str) = some (.ref t) ∧ SWat H (.ref t) way
theorem LineF.w {C : Addr} {H : Hp} {r : Addr} {w : List Strd} (h : LineF C H r w) : LineW C H r w := by
  obtain ⟨dx, t, l, xs, n, h1, _, h3, _, _⟩ := h
  exact ⟨dx, t, _, h1, rfl, h3⟩
theorem first_at {m : Int} : ∀ {ns : List Int}, m ∈ ns → ∃ j, ns[j]? = some m ∧ ∀ (i : Nat) (z : Int), i < j → ns[i]? = some z → z ≠ m
  | [], h => nomatch h
  | a :: r, h => by
    by_cases e : a = m
    · exact ⟨0, by rw [e]; rfl, fun i z hi => absurd hi (Nat.not_lt_zero i)⟩
    · have h' : m ∈ r := by
        rcases List.mem_cons.mp h with x | x
        · exact absurd x.symm e
        · exact x
      obtain ⟨j, hj, q⟩ := first_at h'
      refine ⟨j + 1, hj, fun i z hi hz => ?_⟩
      cases i with
      | zero => cases hz; exact e
      | succ i => exact q i z (by omega) hz
def hadN (ns : List Int) : Bool := ns.all fun m => decide (2 * m ≤ ns.sum)
theorem had_max {ns : List Int} {m : Int} (hm : m ∈ ns) (hx : ∀ y, y ∈ ns → y ≤ m) : hadN ns = decide (2 * m ≤ ns.sum) := by
  unfold hadN
  by_cases h : 2 * m ≤ ns.sum
  · rw [decide_eq_true h]
    refine List.all_eq_true.mpr fun y hy => decide_eq_true ?_
    have := hx y hy
    omega
  · rw [decide_eq_false h]
    refine Bool.eq_false_iff.mpr fun k => h ?_
    exact of_decide_eq_true (List.all_eq_true.mp k m hm)
theorem sum_nn : ∀ {ns : List Int}, (∀ y ∈ ns, 0 ≤ y) → 0 ≤ ns.sum
  | [], _ => by simp
  | x :: ns, nn => by
    have ih := sum_nn (ns := ns) fun y hy => nn y (List.mem_cons_of_mem _ hy)
    have := nn x (List.mem_cons_self ..)
    rw [List.sum_cons]
    omega
theorem sum_ge : ∀ {ns : List Int} (_ : ∀ y ∈ ns, 0 ≤ y) {j : Nat} {b : Int}, ns[j]? = some b → b ≤ ns.sum ∧ 0 ≤ ns.sum
  | x :: ns, nn, 0, b, h => by
    cases h
    rw [List.sum_cons]
    have z : 0 ≤ ns.sum := sum_nn fun y hy => nn y (List.mem_cons_of_mem _ hy)
    have := nn x (List.mem_cons_self ..)
    omega
  | x :: ns, nn, j + 1, b, h => by
    have ih := sum_ge (ns := ns) (fun y hy => nn y (List.mem_cons_of_mem _ hy)) (j := j) (b := b) (by simpa using h)
    have := nn x (List.mem_cons_self ..)
    rw [List.sum_cons]
    omega
theorem sum_twoX : ∀ {ns : List Int} (_ : ∀ y ∈ ns, 0 ≤ y) {i j : Nat} {a b : Int}, ns[i]? = some a → ns[j]? = some b → i ≠ j → a + b ≤ ns.sum
  | x :: ns, nn, 0, 0, a, b, _, _, ne => absurd rfl ne
  | x :: ns, nn, 0, j + 1, a, b, ha, hb, _ => by
    cases ha
    have := (sum_ge (ns := ns) (fun y hy => nn y (List.mem_cons_of_mem _ hy)) (j := j) (b := b) (by simpa using hb)).1
    rw [List.sum_cons]
    omega
  | x :: ns, nn, i + 1, 0, a, b, ha, hb, _ => by
    cases hb
    have := (sum_ge (ns := ns) (fun y hy => nn y (List.mem_cons_of_mem _ hy)) (j := i) (b := a) (by simpa using ha)).1
    rw [List.sum_cons]
    omega
  | x :: ns, nn, i + 1, j + 1, a, b, ha, hb, ne => by
    have ih := sum_twoX (ns := ns) (fun y hy => nn y (List.mem_cons_of_mem _ hy)) (i := i) (j := j) (by simpa using ha) (by simpa using hb) (by omega)
    have := nn x (List.mem_cons_self ..)
    rw [List.sum_cons]
    omega
/-- the index of the net that is too great -/
def atN (ns : List Int) : Nat := ns.findIdx fun m => decide (ns.sum < 2 * m)
theorem atN_of {ns : List Int} (nn : ∀ y ∈ ns, 0 ≤ y) {j : Nat} {m : Int} (hj : ns[j]? = some m) (g : ns.sum < 2 * m) : atN ns = j := by
  have hm := List.mem_of_getElem? hj
  have lt : atN ns < ns.length := List.findIdx_lt_length_of_exists ⟨m, hm, decide_eq_true g⟩
  have k : ns.sum < 2 * ns[atN ns] := of_decide_eq_true (List.findIdx_getElem (w := lt))
  by_cases e : atN ns = j
  · exact e
  · have := sum_twoX nn (List.getElem?_eq_getElem lt) hj e
    omega
theorem get_lenX {ls : List Int} {b : Int} (h0 : 0 ≤ b) (h1 : b < (ls.length : Int)) : atI (ls.map V.int) b = some (V.int (ls.getD b.toNat 0)) := by
  have hb : b.toNat < ls.length := by omega
  refine at_of (j := b.toNat) (by omega) ?_
  rw [int_get hb, List.getD_eq_getElem?_getD, List.getElem?_eq_getElem hb]
  rfl
def fitW (m : Nat) (way : List Strd) : Prop := way.length ≤ 8 ∧ ∀ st ∈ way, st.length ≤ 8 ∧ ∀ q ∈ st, 0 ≤ q.1 ∧ q.1 < (m : Int) ∧ (q.2 = 1 ∨ q.2 = -1)
theorem LineW.same {C : Addr} {H H' : Hp} {r : Addr} {way : List Strd} (h : LineW C H r way) (s : Same H H') : LineW C H' r way := by
  obtain ⟨dx, t, fs, h1, h2, h3⟩ := h
  exact ⟨dx, t, fs, s _ _ h1, h2, h3.same s⟩
section
variable {P : Program} {w : World} {K : PySem.W.Frag} {mg : Str → Option Value} {base : Heap}
def spNets (K : PySem.W.Frag) (CR CL : Addr) : Sp := fun vs H Q _ => ∃ (r l : Addr) (ls : List Int) (way : List Strd), vs = [.ref r, .ref l] ∧ RingAt K CR H r ls ∧ LineW CL H l way ∧ fitW ls.length way ∧
  ∀ p H', Same H H' → H p = none → H' p = some (.lst ((way.map fun st => absI (net ls st)).map V.int)) → Q (.ref p) H'
abbrev nNets : List Str := ["ring", "lineup", "strands", "strand", "bar", "sign"]
theorem scNets : FnScope nNets ["ring", "lineup"] (defScope sNetsOf) := ⟨rfl, rfl, rfl, by decide +kernel, rfl, by decide +kernel, by decide +kernel⟩
def rAb : List V → Hp → VK → Prop := fun xs H Q => ∃ i, xs = [.int i] ∧ Q (.int (if i < 0 then -i else i)) H
def scNo : Scope := { kind := .function, names := [(Str.ofString ".0", .local), (Str.ofString "strand", .local), (Str.ofString "abs", .globalImplicit), (Str.ofString "sum", .globalImplicit), (Str.ofString "ring", .free)], isGenerator := false, isCoroutine := false }
abbrev teN (K : PySem.W.Frag) : TE := tCB rAb (tCons (tCB (rSum K) (tCons (tLc (iTup K (tVar 3)) (gTup K 2 (gCons (gName 4) (gCons (gName 5) gNil))) tYes (tOp (rI CMul fun i j => .int (i * j)) (tOp (rIxT K) (tFld K (tVar 0) "lengths") (tVar 4)) (tVar 5)) [4, 5]) tNil)) tNil)
theorem ok_nets {CR CL f : Addr} {fd : FuncData} (F : Fun K "nets_of" "nets_of" sNetsOf f fd) (T : Bi mg) (RR : RingC K mg CR) (RL : LineC K mg CL) : FnOk P w K mg base CX0 1 f fd ["ring", "lineup"] (spNets K CR CL) := by
  refine F.ok scNets (fun vs H Q E h => ?_) (fun cdv A outer s H vs Q E hr h => ?_)
  · obtain ⟨r, l, ls, way, rfl, _⟩ := h
    rfl
  · have nd := scNets.nd
    refine ⟨_, pss_cons (ps_set (i := 2) nd rfl (Or.inl rfl) (pe_fld (pv 1) rfl))
      (pss_one (ps_ret (pe_lc (own := [("strand", 3)]) (g := gName 3) (tt := tYes) (te := teN K) rfl nd (pi_tup (pv 2))
        (blkOk_by (N := nNets) (sc := defScope sNetsOf) (by decide +kernel)) (fun _ _ _ _ _ => pg_name (i := 3) nd rfl (Or.inl rfl)) (fun _ _ _ _ _ => pts_nil)
        (fun _ _ _ _ _ => pe_callB (r := rAb) call_abs (by rfl) T.abs (by decide +kernel) (pa_cons (pe_callB (cr_sum rfl) (by rfl) T.sum (by decide +kernel) (pa_cons (pe_lc (own := [("bar", 4), ("sign", 5)]) (g := gTup K 2 (gCons (gName 4) (gCons (gName 5) gNil))) (tt := tYes) (te := tOp (rI CMul fun i j => .int (i * j)) (tOp (rIxT K) (tFld K (tVar 0) "lengths") (tVar 4)) (tVar 5)) rfl nd (pi_tup (pv 3))
          (blkOk_by (N := nNets) (sc := relS scNo (defScope sNetsOf)) (by decide +kernel)) (fun _ _ _ _ _ => pg_tup rfl (pgs_cons (pg_name (i := 4) nd rfl (Or.inl rfl)) (pgs_cons (pg_name (i := 5) nd rfl (Or.inl rfl)) pgs_nil))) (fun _ _ _ _ _ => pts_nil)
          (fun _ _ _ _ _ => pe_op op_mul (pe_ix (r := rIxT K) ix_tup (pe_fld (pv 0) rfl) (pv 4) (fun _ _ => rfl)) (pv 5))) pa_nil)) pa_nil))))), ?_⟩
    obtain ⟨r, l, ls, way, rfl, ⟨dx, t, hr0, ht, _⟩, ⟨dl, a, fs, hl0, fl, sw⟩, ⟨w8, fit⟩, k⟩ := h
    obtain ⟨b0, xs, e0, ha, px⟩ := sw
    obtain rfl : a = b0 := V.ref.inj e0
    have xl : xs.length = way.length := par_len px
    refine ⟨_, rfl, l, CL, dl, fs, _, rfl, hl0, RL.cl, RL.nS, fl, ?_⟩
    refine ⟨_, rfl, a, rfl, ⟨_, .inl (.inl ha)⟩, fun D hD => ?_⟩
    refine lc_tup (K := K) (a := a) (xs := xs) (fun j H' => Same H H' ∧ H' D = some (.lst (((way.take j).map fun st => absI (net ls st)).map V.int))) ⟨(Same.refl H).new hD, upd_same⟩ (fun j H' _ q => .inl (.inl (q.1 _ _ ha))) ?_ ?_
    · rintro j y H' hj ⟨s1, h1⟩
      obtain ⟨st, hst, rs⟩ := par_get px hj
      have hm := fit st (List.mem_of_getElem? hst)
      obtain ⟨b, zs, rfl, hb, pz⟩ := rs.same s1
      have zl : zs.length = st.length := par_len pz
      refine ⟨rfl, _, rfl, b, rfl, ⟨_, .inl (.inl hb)⟩, fun D3 hD3 => ?_⟩
      refine lc_tup (K := K) (a := b) (xs := zs) (fun i G => Same H' G ∧ G D3 = some (.lst (((st.take i).map fun q => ls.getD q.1.toNat 0 * q.2).map V.int))) ⟨(Same.refl H').new hD3, upd_same⟩ (fun i G _ q => .inl (.inl (q.1 _ _ hb))) ?_ ?_
      · rintro i z G hi ⟨s7, h7⟩
        have hil : i < zs.length := (List.getElem?_eq_some_iff.mp hi).1
        obtain ⟨q, hq, c, rfl, hc⟩ := par_get pz hi
        have hqb := hm.2 q (List.mem_of_getElem? hq)
        have s17 := s1.trans s7
        refine ⟨c, _, rfl, .inl (.inl (s7 _ _ hc)), rfl, _, _, rfl, _, _, rfl, rfl, rfl, ?_⟩
        refine ⟨_, rfl, r, CR, dx, _, _, rfl, s17 _ _ hr0, RR.cl, RR.nL, rf_lengths _ _, _, rfl, t, _, q.1, _, rfl, rfl, s17.tup ht, get_lenX hqb.1 hqb.2.1, _, rfl, _, _, rfl, rfl, .inr ⟨?_, ?_⟩, _, h7, ?_, s7.mut hD3, ?_⟩
        · have z := hqb.2.2
          omega
        · have z := hqb.2.2
          omega
        · rw [List.length_map, List.length_map, List.length_take]
          exact sm (by omega)
        · rw [upd_same, ← take_snoc hq, List.map_append, List.map_append]
          rfl
      rintro G1 ⟨s7, h7⟩
      rw [zl, List.take_length] at h7
      have s8 := s1.trans s7
      refine ⟨D3, _, rfl, SqL.of h7, _, rfl, ?_⟩
      refine ⟨_, s7 _ _ h1, ?_, s8.mut hD, ?_⟩
      · rw [List.length_map, List.length_map, List.length_take]
        exact sm (by omega)
      · rw [upd_same, ← take_snoc hst, List.map_append, List.map_append]
        rfl
    rintro H6 ⟨s6, h6⟩
    rw [xl, List.take_length] at h6
    exact k D H6 s6 hD h6
def spTG (K : PySem.W.Frag) : Sp := fun vs H Q _ => ∃ (a : Addr) (ns : List Int), vs = [.ref a] ∧ H a = some (.lst (ns.map V.int)) ∧ 0 < ns.length ∧ ns.length ≤ 1000 ∧ (∀ y ∈ ns, 0 ≤ y) ∧ (hadN ns = true → Q .non H) ∧ (hadN ns = false → Q (.int (atN ns)) H)
theorem scTG : FnScope ["nets", "most"] ["nets"] (defScope sTooGreat) := ⟨rfl, rfl, rfl, by decide +kernel, rfl, by decide +kernel, by decide +kernel⟩
theorem ok_tg {f : Addr} {fd : FuncData} (F : Fun K "too_great" "too_great" sTooGreat f fd) (T : Bi mg) : FnOk P w K mg base CX0 1 f fd ["nets"] (spTG K) := by
  refine F.ok scTG (fun vs H Q E h => ?_) (fun cdv A outer s H vs Q E hr h => ?_)
  · obtain ⟨a, ns, rfl, _⟩ := h
    rfl
  · have nd := scTG.nd
    refine ⟨_, pss_cons (ps_set (i := 1) nd rfl (Or.inl rfl) (pe_callB (cr_max rfl) (by rfl) T.max (by decide +kernel) (pa_cons (pv 0) pa_nil)))
      (pss_one (ps_ret (pe_ifExp (pt_cmpR op_gt (pe_op op_mul pe_int (pv 1)) (pe_callB (cr_sum rfl) (by rfl) T.sum (by decide +kernel) (pa_cons (pv 0) pa_nil)) (nomark _)) (pe_bm PySem.F.plainAttrs_list PySem.F.slot_list_index PySem.F.type_list_index mt_index (pv 0) (pa_cons (pv 1) pa_nil)) pe_non))), ?_⟩
    obtain ⟨a, ns, rfl, ha, pos, n1, nn, k1, k2⟩ := h
    refine ⟨_, rfl, a, ns, rfl, SqL.of ha, pos, fun m hm hx => ?_⟩
    have e := had_max hm hx
    refine ⟨_, rfl, _, _, rfl, rfl, .inl ⟨by decide, by decide⟩, _, rfl, a, ns, rfl, SqL.of ha, _, _, rfl, rfl, ?_⟩
    refine ⟨_, rfl, ?_⟩
    by_cases q : ns.sum < 2 * m
    · rw [decide_eq_false (by omega)] at e
      obtain ⟨j, hj, no⟩ := first_at hm
      refine Eq.mpr (if_pos (decide_eq_true q)) ?_
      refine ⟨_, rfl, .inl ⟨rfl, _, SqL.of ha⟩, _, rfl, a, ns.map V.int, V.int m, j, V.int m, rfl, rfl, SqL.of ha, rfl, ?_, ?_, ?_, ?_, by have z := k2 e; rw [atN_of nn hj q] at z; exact z⟩
      · refine List.all_eq_true.mpr fun y hy => ?_
        obtain ⟨z, _, rfl⟩ := List.mem_map.mp hy
        rfl
      · rw [List.getElem?_map, hj]
        rfl
      · exact beq_self_eq_true m
      · intro i z hi hz
        obtain ⟨z', hz', rfl⟩ := int_at hz
        exact beq_eq_false_iff_ne.mpr (no i z' hi hz')
    · rw [decide_eq_true (by omega)] at e
      refine Eq.mpr (if_neg (by rw [decide_eq_false q]; exact Bool.false_ne_true)) ?_
      exact k1 e
end
end K
namespace K
open PySem L2 Rg LamX
open Evl (pss_cut)
theorem fv_int {H : Hp} {f : Bool} {n : Nat} {v : V} {b : Int} (h : FV H f n v (.int b)) : v = .int b := by
  have z : Atm v (.int b) := by
    cases n with
    | zero => exact h
    | succ n =>
      rcases h with h | ⟨_, _, _, _, _, e, _⟩
      · exact h
      · cases e
  rcases z with ⟨i, rfl, e⟩ | ⟨_, e⟩ | ⟨_, _, e⟩
  · cases e; rfl
  · cases e
  · cases e
theorem fv_par {H : Hp} {f : Bool} {n : Nat} : ∀ {xs : List V} {l : List Int}, Paired (FV H f n) xs (l.map PyData.int) → xs = l.map V.int
  | [], [], _ => rfl
  | _ :: _, [], h => nomatch h
  | [], _ :: _, h => nomatch h
  | x :: xs, i :: l, .cons h t => by
    rw [fv_int h, fv_par t]
    rfl
theorem fv_lot {H : Hp} {n : Nat} {v : V} {l : List Int} (h : FV H false (n + 1) v (.tuple (l.map PyData.int))) : ∃ t, v = .ref t ∧ H t = some (.tup (l.map V.int)) := by
  rcases h with (⟨_, _, z⟩ | ⟨_, z⟩ | ⟨_, _, z⟩) | ⟨t, xs, es, rfl, ht, e2, l2, p2⟩
  · cases z
  · cases z
  · cases z
  · cases e2
    rcases ht with ht | ⟨z, _⟩
    · exact ⟨t, rfl, by rw [← fv_par p2]; exact ht⟩
    · cases z
/-- the nets of a line-up, in order -/
def netsW (ls : List Int) (w : List Strd) : List Int := w.map fun st => absI (net ls st)
theorem netsW_nn (ls : List Int) (w : List Strd) : ∀ y ∈ netsW ls w, 0 ≤ y := fun y hy => by
  obtain ⟨st, _, rfl⟩ := List.mem_map.mp hy
  rw [absI_nat]
  omega
def manyW (w : List Strd) : Int := (w.map fun st => (st.length : Int)).sum
def lotI (st : Strd) : List Int := st.map (·.1)
section
variable {P : Program} {w : World} {K : PySem.W.Frag} {mg : Str → Option Value} {base : Heap}
theorem madeU {C : Addr} {E : XK} {H : Hp} {v : V} {way : List Strd} {n : Nat} {R : Addr → VK} (sw : LWy H v way) (gw : goodV n way) (n3 : 3 ≤ n) (n8 : n ≤ 8) (h : ∀ x H', LineF C H' x (dueW way) → Same H H' → R x .non H') :
    ∀ x dx, H x = none → H dx = none → dx ≠ x → spLU C (.ref x :: ([v] ++ [])) (upd (upd H dx (.own x)) x (.ins C dx [])) (R x) E := by
  intro x dx hx hdx _
  have s0 : Same H (upd (upd H dx (.own x)) x (.ins C dx [])) := fun b o q => by
    rw [upd_ne (ne_of_none q hx), upd_ne (ne_of_none q hdx)]
    exact q
  exact ⟨x, dx, v, way, n, rfl, upd_same, sw.same s0, gw, n3, n8, fun H' l kp => h x H' l fun b o e => kp b o (s0 b o e) (ne_of_none e hx)⟩
theorem madeN {C : Addr} {E : XK} {H : Hp} {v : V} {d : PyData} {R : Addr → VK} (fv : FV H true 1 v d) (h : ∀ x w1 H', Same H H' → FV H' false 1 w1 d → PapG C "nets" (fsNI w1) H' x → R x .non H') :
    ∀ x dx, H x = none → H dx = none → dx ≠ x → spNI K C 1 (.ref x :: ([v] ++ [])) (upd (upd H dx (.own x)) x (.ins C dx [])) (R x) E := by
  intro x dx hx hdx _
  have s0 : Same H (upd (upd H dx (.own x)) x (.ins C dx [])) := fun b o q => by
    rw [upd_ne (ne_of_none q hx), upd_ne (ne_of_none q hdx)]
    exact q
  exact ⟨x, dx, v, d, rfl, upd_same, fv.same s0, fun w1 H' kp f1 pg => h x w1 H' (fun b o e => kp b o (ne_of_none e hx) (s0 b o e)) f1 pg⟩
theorem madeG {C : Addr} {E : XK} {H : Hp} {v1 v2 v3 : V} {d1 d2 d3 : PyData} {R : Addr → VK} (fv1 : FV H true 1 v1 d1) (fv2 : FV H true 1 v2 d2) (fv3 : FV H true 1 v3 d3) (h : ∀ x w1 w2 w3 H', Same H H' → FV H' false 1 w1 d1 → FV H' false 1 w2 d2 → FV H' false 1 w3 d3 → PapG C "toogreat" (fsGI w1 w2 w3) H' x → R x .non H') :
    ∀ x dx, H x = none → H dx = none → dx ≠ x → spGI K C 1 (.ref x :: ([v1, v2, v3] ++ [])) (upd (upd H dx (.own x)) x (.ins C dx [])) (R x) E := by
  intro x dx hx hdx _
  have s0 : Same H (upd (upd H dx (.own x)) x (.ins C dx [])) := fun b o q => by
    rw [upd_ne (ne_of_none q hx), upd_ne (ne_of_none q hdx)]
    exact q
  exact ⟨x, dx, v1, v2, v3, d1, d2, d3, rfl, upd_same, fv1.same s0, fv2.same s0, fv3.same s0, fun w1 w2 w3 H' kp f1 f2 f3 pg => h x w1 w2 w3 H' (fun b o e => kp b o (ne_of_none e hx) (s0 b o e)) f1 f2 f3 pg⟩
structure LineP (P : Program) (w : World) (K : PySem.W.Frag) (mg : Str → Option Value) (base : Heap) (C fI : Addr) (fdI : FuncData) : Prop where
  made : Mk K C fI
  ok : FnOk P w K mg base CX0 5 fI fdI ["self", "strands"] (spLU C)
  b : Binds K fdI ["self", "strands"] []
structure NetsP (P : Program) (w : World) (K : PySem.W.Frag) (mg : Str → Option Value) (base : Heap) (C fI : Addr) (fdI : FuncData) : Prop where
  made : Mk K C fI
  ok : FnOk P w K mg base CX0 5 fI fdI ["self", "nets"] (spNI K C 1)
  b : Binds K fdI ["self", "nets"] []
structure TooGreatP (P : Program) (w : World) (K : PySem.W.Frag) (mg : Str → Option Value) (base : Heap) (C fI : Addr) (fdI : FuncData) : Prop where
  made : Mk K C fI
  ok : FnOk P w K mg base CX0 5 fI fdI ["self", "lot", "net", "others"] (spGI K C 1)
  b : Binds K fdI ["self", "lot", "net", "others"] []
/-! ### want_as_many -/
def spAsM (cM : Addr) : Sp := fun vs H Q E => ∃ a b : Int, vs = [.int a, .int b] ∧ ((a = b ∧ Q .non H) ∨ (a ≠ b ∧ Errs E cM "part" (.str "bars") H))
theorem scAsM : FnScope ["one", "other"] ["one", "other"] (defScope sWantAsMany) := ⟨rfl, rfl, rfl, by decide +kernel, rfl, by decide +kernel, by decide +kernel⟩
theorem ok_asM {f cM fI : Addr} {fd fdI : FuncData} (F : Fun K "want_as_many" "want_as_many" sWantAsMany f fd) (B : ErrAt P w K mg base "Misfit" "part" cM fI fdI) : FnOk P w K mg base (L2.CX P w) 3 f fd ["one", "other"] (spAsM cM) := by
  refine F.okX scAsM (fun vs H Q E h => ?_) (fun cdv A outer s H vs Q E hr h => ?_)
  · obtain ⟨a, b, rfl, _⟩ := h
    rfl
  · refine ⟨_, pss_one (ps_if (pt_cmpR op_ne (pv 0) (pv 1) (nomark _))
      (pss_one (ps_raise rfl (takes_of rfl rfl rfl rfl) (pmk_oex B.oex B.ic B.ti B.ok hr B.b .nil pass0 rfl B.g (pa_cons pe_str pa_nil)))) pss_nil), ?_⟩
    obtain ⟨a, b, rfl, h⟩ := h
    refine ⟨_, rfl, _, rfl, rfl, _, rfl, ?_⟩
    rcases h with ⟨e, q⟩ | ⟨e, q⟩
    · rw [e, decide_eq_true rfl]; exact iteF q
    · rw [decide_eq_false fun z => e (V.int.inj z)]
      exact iteT (err_made B.oex B.nf q)
/-! ### want_lineup -/
def spWantU (K : PySem.W.Frag) (C cL : Addr) : Sp := fun vs H Q E => ∃ (v : V) (part : Str), vs = [v, .str part] ∧ ((∃ r W, v = .ref r ∧ LineF C H r W ∧ Q .non H) ∨ (NoR K C H v ∧ Errs E cL "part" (.str part) H))
theorem scWantU : FnScope ["value", "part"] ["value", "part"] (defScope sWantLineup) := ⟨rfl, rfl, rfl, by decide +kernel, rfl, by decide +kernel, by decide +kernel⟩
theorem ok_wantU {C cL f fI : Addr} {fd fdI : FuncData} (F : Fun K "want_lineup" "want_lineup" sWantLineup f fd) (T : Bi mg) (G : mg "LineUp" = some (.ref C)) (EI : C8.InsC K C) (B : ErrAt P w K mg base "BadLineUp" "part" cL fI fdI) : FnOk P w K mg base (L2.CX P w) 3 f fd ["value", "part"] (spWantU K C cL) := by
  refine F.okX scWantU (fun vs H Q E h => ?_) (fun cdv A outer s H vs Q E hr h => ?_)
  · obtain ⟨v, part, rfl, _⟩ := h
    rfl
  · refine ⟨_, pss_one (ps_if (pt_not (pt_val (pe_callB call_isi (by rfl) T.isinstance (by decide +kernel) (pa_cons (pv 0) (pa_cons (pe_glob (v := .ref C) rfl G rfl) pa_nil)))))
      (pss_one (ps_raise rfl (takes_of rfl rfl rfl rfl) (pmk_oex B.oex B.ic B.ti B.ok hr B.b .nil pass0 rfl B.g (pa_cons (pv 1) pa_nil)))) pss_nil), ?_⟩
    obtain ⟨v, part, rfl, h⟩ := h
    rcases h with ⟨r, W, rfl, ⟨dx, t, l, xs, n, hr0, _⟩, q⟩ | ⟨⟨k, ty, kit⟩, er⟩
    · refine ⟨_, rfl, .ref r, .ref C, _, _, _, rfl, .own C, .base (.ins hr0 EI.cl EI.ha EI.hn EI.htk EI.hm), kit_self, ?_⟩
      exact ⟨_, rfl, iteF q⟩
    · refine ⟨_, rfl, v, .ref C, _, _, _, rfl, .own C, ty, kit, ?_⟩
      exact ⟨_, rfl, iteT ⟨_, rfl, err_made B.oex B.nf er⟩⟩
/-! ### want_lined -/
/-- what is asked of a ring and a line-up, and what comes else -/
def AskU (K : PySem.W.Frag) (CR CL cR cL cM : Addr) (H : Hp) (E : XK) (v u : V) (q : Addr → Addr → List Int → List Strd → Prop) : Prop :=
  (NoR K CR H v ∧ Errs E cR "part" (.str "ring") H) ∨ ∃ (r : Addr) (ls : List Int), v = .ref r ∧ RingAt K CR H r ls ∧ 3 ≤ ls.length ∧ ls.length ≤ 8 ∧
    ((NoR K CL H u ∧ Errs E cL "part" (.str "lineup") H) ∨ ∃ (l : Addr) (W : List Strd), u = .ref l ∧ LineF CL H l W ∧
      ((manyW W ≠ ls.length ∧ Errs E cM "part" (.str "bars") H) ∨ (manyW W = ls.length ∧ q r l ls W)))
def spWLd (K : PySem.W.Frag) (CR CL cR cL cM : Addr) : Sp := fun vs H Q E => ∃ v u : V, vs = [v, u] ∧ AskU K CR CL cR cL cM H E v u fun _ _ _ _ => Q .non H
theorem scWLd : FnScope ["ring", "lineup"] ["ring", "lineup"] (defScope sWantLined) := ⟨rfl, rfl, rfl, by decide +kernel, rfl, by decide +kernel, by decide +kernel⟩
theorem ok_wld {CR CL cR cL cM f fR fL fM fN : Addr} {fd fdR fdL fdM fdN : FuncData} (F : Fun K "want_lined" "want_lined" sWantLined f fd) (T : Bi mg) (RL : LineC K mg CL)
    (NM : Meth K CR "__len__" fN) (NL : FnOk P w K mg base CX0 1 fN fdN ["self"] (spRLen K CR)) (NB : Binds K fdN ["self"] [])
    (WR : DefAt P w K mg base (L2.CX P w) 3 "want_ring" ["value", "part"] (spWantR K CR cR) fR fdR) (WU : DefAt P w K mg base (L2.CX P w) 3 "want_lineup" ["value", "part"] (spWantU K CL cL) fL fdL) (WM : DefAt P w K mg base (L2.CX P w) 3 "want_as_many" ["one", "other"] (spAsM cM) fM fdM) :
    FnOk P w K mg base (L2.CX P w) 4 f fd ["ring", "lineup"] (spWLd K CR CL cR cL cM) := by
  refine F.okX scWLd (fun vs H Q E h => ?_) (fun cdv A outer s H vs Q E hr h => ?_)
  · obtain ⟨v, u, rfl, _⟩ := h
    rfl
  · refine ⟨_, pss_cons (ps_expr (pe_call WR.ok (hr.mono (by decide)) rfl WR.g WR.kp WR.b .nil (passes_call (takes_of rfl rfl rfl rfl) (fun _ _ _ _ h => h)) (pa_cons (pv 0) (pa_cons pe_str pa_nil))))
      (pss_cons (ps_expr (pe_call WU.ok (hr.mono (by decide)) rfl WU.g WU.kp WU.b .nil (passes_call (takes_of rfl rfl rfl rfl) (fun _ _ _ _ h => h)) (pa_cons (pv 1) (pa_cons pe_str pa_nil))))
      (pss_one (ps_expr (pe_call WM.ok (hr.mono (by decide)) rfl WM.g WM.kp WM.b .nil (passes_call (takes_of rfl rfl rfl rfl) (fun _ _ _ _ h => h)) (pa_cons (pe_callB (call_lenO NL (hr.mono (by decide)) NB) (by rfl) T.len PySem.boot_len (pa_cons (pv 0) pa_nil)) (pa_cons (pe_fld (pv 1) rfl) pa_nil)))))), ?_⟩
    obtain ⟨v, u, rfl, ⟨no, er⟩ | ⟨r, ls, rfl, ra, l3, l8, h⟩⟩ := h
    · exact ⟨_, rfl, v, "ring", rfl, .inr ⟨no, er⟩⟩
    refine ⟨_, rfl, _, "ring", rfl, .inl ⟨r, ls, rfl, ra.weak, ?_⟩⟩
    rcases h with ⟨no, er⟩ | ⟨l, W, rfl, lf, h⟩
    · exact ⟨_, rfl, u, "lineup", rfl, .inr ⟨no, er⟩⟩
    refine ⟨_, rfl, _, "lineup", rfl, .inl ⟨l, W, rfl, lf, ?_⟩⟩
    obtain ⟨dx, t, hr0, ht⟩ := id ra.weak
    obtain ⟨dl, t2, l2, xs, n, hl0, en, _⟩ := id lf
    refine ⟨_, rfl, r, CR, dx, _, rfl, hr0, NM.at_, NM.fn, r, ls, rfl, ra.weak, _, rfl, by omega, by omega, _, rfl, l, CL, dl, _, _, rfl, hl0, RL.cl, RL.nM, rfl, _, _, rfl, ?_⟩
    have en' : n = manyW W := en
    rcases h with ⟨ne, er⟩ | ⟨e, q⟩
    · exact .inr ⟨by omega, er⟩
    · exact .inl ⟨by omega, q⟩
end
end K
namespace K
open PySem L2 Rg LamX
open Evl (pss_cut)
theorem atN_lt {ns : List Int} (h : hadN ns = false) : ∃ e : atN ns < ns.length, ns.sum < 2 * ns[atN ns] := by
  unfold hadN at h
  obtain ⟨m, hm, g⟩ := List.all_eq_false.mp h
  have g : ns.sum < 2 * m := by
    have := of_decide_eq_false (Bool.eq_false_iff.mpr g)
    omega
  have lt : atN ns < ns.length := List.findIdx_lt_length_of_exists ⟨m, hm, decide_eq_true g⟩
  exact ⟨lt, of_decide_eq_true (List.findIdx_getElem (w := lt))⟩
theorem getD_at {α : Type} {l : List α} {i : Nat} {d : α} (h : i < l.length) : l[i]? = some (l.getD i d) := by
  rw [List.getD_eq_getElem?_getD, List.getElem?_eq_getElem h]
  rfl
/-- the papers on a line-up -/
def NetsR (C : Addr) (H : Hp) (p : Addr) (ns : List Int) : Prop := ∃ v, PapG C "nets" (fsNI v) H p ∧ FV H false 1 v (.tuple (ns.map PyData.int))
def GreatR (C : Addr) (H : Hp) (p : Addr) (W : List Strd) (ns : List Int) : Prop := ∃ v, PapG C "toogreat" (fsGI v (.int (ns.getD (atN ns) 0)) (.int (ns.sum - ns.getD (atN ns) 0))) H p ∧ FV H false 1 v (.tuple ((lotI (W.getD (atN ns) [])).map PyData.int))
theorem NetsR.ext {C : Addr} {H H' : Hp} {p : Addr} {ns : List Int} (h : NetsR C H p ns) (s : ExtN H H') : NetsR C H' p ns := let ⟨v, a, b⟩ := h; ⟨v, a.ext s, b.ext s⟩
theorem GreatR.ext {C : Addr} {H H' : Hp} {p : Addr} {W : List Strd} {ns : List Int} (h : GreatR C H p W ns) (s : ExtN H H') : GreatR C H' p W ns := let ⟨v, a, b⟩ := h; ⟨v, a.ext s, b.ext s⟩
theorem lot_at {H : Hp} : ∀ {xs : List V} {w : List Strd} {i : Nat}, Paired (LotT H) xs w → i < w.length → ∃ y, xs[i]? = some y ∧ LotT H y (w.getD i [])
  | _, _, i, p, h => by
    have e := getD_at (d := ([] : Strd)) h
    rw [← par_len p] at h
    obtain ⟨y, hy⟩ : ∃ y, _ = some y := ⟨_, List.getElem?_eq_getElem h⟩
    obtain ⟨st, hst, r⟩ := par_get p hy
    rw [e] at hst
    cases hst
    exact ⟨y, hy, r⟩
section
variable {P : Program} {w : World} {K : PySem.W.Frag} {mg : Str → Option Value} {base : Heap}
def spCL (K : PySem.W.Frag) (CR CL CN CG cR cL cM : Addr) : Sp := fun vs H Q E => ∃ v u : V, vs = [v, u] ∧ AskU K CR CL cR cL cM H E v u fun r l ls W => fitW ls.length W ∧ 0 < W.length ∧
  (hadN (netsW ls W) = true → ∀ p H', Same H H' → NetsR CN H' p (netsW ls W) → Q (.ref p) H') ∧ (hadN (netsW ls W) = false → ∀ p H', Same H H' → GreatR CG H' p W (netsW ls W) → Q (.ref p) H')
abbrev nCL : List Str := ["ring", "lineup", "nets", "at"]
theorem scCL : FnScope nCL ["ring", "lineup"] (defScope sCanLine) := ⟨rfl, rfl, rfl, by decide +kernel, rfl, by decide +kernel, by decide +kernel⟩
theorem ok_cl {CR CL CN CG cR cL cM f fW fN fT fIN fIG : Addr} {fd fdW fdN fdT fdIN fdIG : FuncData} (F : Fun K "can_line" "can_line" sCanLine f fd) (T : Bi mg) (RL : LineC K mg CL) (RN : NetsC K mg CN) (RG : TooGreatC K mg CG) (NP : NetsP P w K mg base CN fIN fdIN) (GP : TooGreatP P w K mg base CG fIG fdIG)
    (WL : DefAt P w K mg base (L2.CX P w) 4 "want_lined" ["ring", "lineup"] (spWLd K CR CL cR cL cM) fW fdW) (NE : DefAt P w K mg base CX0 1 "nets_of" ["ring", "lineup"] (spNets K CR CL) fN fdN) (TG : DefAt P w K mg base CX0 1 "too_great" ["nets"] (spTG K) fT fdT) :
    FnOk P w K mg base (L2.CX P w) 7 f fd ["ring", "lineup"] (spCL K CR CL CN CG cR cL cM) := by
  refine F.okX scCL (fun vs H Q E h => ?_) (fun cdv A outer s H vs Q E hr h => ?_)
  · obtain ⟨v, u, rfl, _⟩ := h
    rfl
  · have nd := scCL.nd
    refine ⟨_, pss_cons (ps_expr (pe_call WL.ok (hr.mono (by decide)) rfl WL.g WL.kp WL.b .nil (passes_call (takes_of rfl rfl rfl rfl) (fun _ _ _ _ h => h)) (pa_cons (pv 0) (pa_cons (pv 1) pa_nil))))
      (pss_cons (ps_set (i := 2) nd rfl (Or.inl rfl) (pe_call NE.ok (hr.mono (by decide)) rfl NE.g NE.kp NE.b .nil pass0 (pa_cons (pv 0) (pa_cons (pv 1) pa_nil))))
      (pss_cons (ps_set (i := 3) nd rfl (Or.inl rfl) (pe_call TG.ok (hr.mono (by decide)) rfl TG.g TG.kp TG.b .nil pass0 (pa_cons (pv 2) pa_nil)))
      (pss_cons (ps_if (pt_cmpR op_isN (pv 3) pe_non (nomark _)) (pss_one (ps_ret (pe_make NP.made NP.ok (hr.mono (by decide)) (by rfl) RN.g NP.b .nil pass0 (pa_cons (pv 2) pa_nil)))) pss_nil)
      (pss_one (ps_ret (pe_make GP.made GP.ok (hr.mono (by decide)) (by rfl) RG.g GP.b .nil pass0 (pa_cons (pe_ix (r := rIxT K) ix_tup (pe_fld (pv 1) rfl) (pv 3) (fun _ _ => rfl)) (pa_cons (pe_ix (r := rIxL K) ix_list (pv 2) (pv 3) (fun _ _ => rfl)) (pa_cons (pe_op op_sub (pe_callB (cr_sum rfl) (by rfl) T.sum (by decide +kernel) (pa_cons (pv 2) pa_nil)) (pe_ix (r := rIxL K) ix_list (pv 2) (pv 3) (fun _ _ => rfl))) pa_nil))))))))), ?_⟩
    obtain ⟨v, u, rfl, ⟨no, er⟩ | ⟨r, ls, rfl, ra, l3, l8, h⟩⟩ := h
    · exact ⟨_, rfl, _, rfl, v, u, rfl, .inl ⟨no, er⟩⟩
    refine ⟨_, rfl, _, rfl, _, u, rfl, .inr ⟨r, ls, rfl, ra, l3, l8, ?_⟩⟩
    rcases h with ⟨no, er⟩ | ⟨l, W, rfl, lf, h⟩
    · exact .inl ⟨no, er⟩
    refine .inr ⟨l, W, rfl, lf, ?_⟩
    rcases h with ⟨ne, er⟩ | ⟨e, fit, pos, k1, k2⟩
    · exact .inl ⟨ne, er⟩
    refine .inr ⟨e, ?_⟩
    have nl : (netsW ls W).length = W.length := by
      unfold netsW
      rw [List.length_map]
    have w8 := fit.1
    refine ⟨_, rfl, _, rfl, r, l, ls, W, rfl, ra, lf.w, fit, fun p H1 s1 np h1 => ?_⟩
    have h1 : H1 p = some (.lst ((netsW ls W).map V.int)) := h1
    have lf1 := lf.same s1
    refine ⟨_, rfl, p, netsW ls W, rfl, h1, by omega, by omega, netsW_nn ls W, fun e1 => ?_, fun e1 => ?_⟩
    · refine ⟨_, rfl, rfl, _, rfl, iteDT rfl ?_⟩
      refine ⟨_, rfl, madeN (v := .ref p) (d := .tuple ((netsW ls W).map PyData.int)) (.inr ⟨p, _, _, rfl, .inr ⟨rfl, h1⟩, rfl, by rw [List.length_map]; omega, fv_ints _⟩) fun x w1 H2 s2 f1 pg => ⟨rfl, ?_⟩⟩
      exact k1 e1 x H2 (s1.trans s2) ⟨w1, pg, f1⟩
    · obtain ⟨lt, _⟩ := atN_lt e1
      refine ⟨_, rfl, rfl, _, rfl, iteDF (fun z => nomatch z) ?_⟩
      obtain ⟨dl, t2, l2, xs, n, hl1, en, sw, hl2, px⟩ := id lf1
      obtain ⟨y, hy, la⟩ := lot_at (i := atN (netsW ls W)) px (by omega)
      obtain ⟨b, rfl, hb⟩ := id la
      have gn := getD_at (d := (0 : Int)) lt
      have gv : ((netsW ls W).map V.int)[atN (netsW ls W)]? = some (.int ((netsW ls W).getD (atN (netsW ls W)) 0)) := by
        rw [List.getElem?_map, gn]
        rfl
      have st8 : (lotI (W.getD (atN (netsW ls W)) [])).length ≤ 8 := by
        unfold lotI
        rw [List.length_map]
        exact (fit.2 _ (List.mem_of_getElem? (getD_at (by omega)))).1
      refine ⟨_, rfl, l, CL, dl, _, _, rfl, hl1, RL.cl, RL.nL, rfl, _, rfl, l2, xs, (atN (netsW ls W) : Nat), .ref b, rfl, rfl, .inl (.inl hl2), atI_nat hy, ?_⟩
      refine ⟨_, rfl, _, rfl, p, _, _, _, rfl, rfl, SqL.of h1, atI_nat gv, _, rfl, p, _, rfl, SqL.of h1, _, rfl, _, rfl, p, _, _, _, rfl, rfl, SqL.of h1, atI_nat gv, _, _, rfl, rfl, ?_⟩
      refine madeG (d1 := .tuple ((lotI (W.getD (atN (netsW ls W)) [])).map PyData.int)) (.inr ⟨b, _, _, rfl, .inl hb, rfl, by rw [List.length_map]; unfold lotI at st8; omega, fv_ints _⟩) (FV.int _) (FV.int _) fun x w1 w2 w3 H2 s2 f1 f2 f3 pg => ⟨rfl, ?_⟩
      obtain rfl := fv_int f2
      obtain rfl := fv_int f3
      exact k2 e1 x H2 (s1.trans s2) ⟨w1, pg, f1⟩
end
end K
/-! bool(x) of an own instance with __bool__ -/
namespace Rg
open PySem PySem.Spec PyProof.Rows L2
open PySem.Sem (wp)
theorem bool_newO {prog : Program} {w : World} (a : Addr) : MeetsIn prog w (Builtin.«bool.__new__» ⟨[.type "bool", .ref a], []⟩) (fun A R s => wpAny (model prog w) A.in1 (truthy (.ref a)) (fun b s' => R (.ok (.ret (.bool b))) s') (fun e s' => R (.error e) s') s) := by
  intro A R s h
  have f1 := PySem.F.conv_sub_bool
  unfold Builtin.«bool.__new__»
  refine wpAny_bind ?_
  have e1 : isType (Value.type "bool") = pure true := by first | rfl | kernel_rfl
  rw [e1]
  refine wpAny_pure ?_
  rw [f1]
  refine wpAny_bind (wpAny_pure ?_)
  have e2 : someArgs "bool" 0 1 { pos := [Value.ref a] } = pure [Value.ref a] := by first | rfl | kernel_rfl
  rw [e2]
  refine wpAny_bind (wpAny_pure ?_)
  refine wpAny_bind (wpAny_mono h (fun b s' q => wpAny_pure q) fun _ _ x => x)
section
variable {X : Cx} {k : Nat} {f : Addr} {fd : FuncData} {sp : Sp}
def rBoolO (K : PySem.W.Frag) (f : Addr) (sp : Sp) : List V → Hp → VK → Prop := fun vxs Hh Qq => ∃ a C dx fs, vxs = [.ref a] ∧ Hh a = some (.ins C dx fs) ∧ PySem.W.findIn K (.ref C) "__bool__" = some (some (.ref f)) ∧ PySem.W.isFn K (.ref f) = true ∧
  sp [.ref a] Hh (fun v H' => ∃ b, v = .bl b ∧ Qq (.bl b) H') E0
theorem call_boolO (F : FnOk X.prog X.w X.K X.mg X.base CX0 k f fd ["self"] sp) (hr : Room (k + 2) X.A) (hb : Binds X.K fd ["self"] []) : CallR X (.type "bool") (rBoolO X.K f sp) := by
  intro pns s σs Hh vxs uvs Qq Iv r h
  obtain ⟨a, C, dx, fs, rfl, eqa, hs, hf, qq⟩ := h
  obtain ⟨u, rfl, rlu⟩ := vals1 r
  obtain rfl : u = Value.ref a := rlu
  obtain ⟨mA, O, _⟩ := ins_get Iv.hok eqa
  obtain ⟨od, J, _⟩ := O.look
  obtain ⟨m, hF⟩ := Iv.fr
  refine callType_newIn PySem.F.called_bool PySem.F.newNe_bool (PySem.F.typeCall_bool_1 _) (PySem.F.newCall_bool_1 _) (fun obj => PySem.F.args_object_init_2 obj _) PySem.F.entry_bool_new (bool_newO a) ?_
  refine PySem.W.truthy_K hF Iv.ok.mod.kin J hs hf ?_
  have hlst : ([Value.ref a] ++ []).length = (["self"] : List Str).length := rfl
  refine wpAny_call (codeAny_mono (F.run X.A.in1.in1 X.stack s Hh ⟨[.ref a], []⟩ [.ref a] [.ref a] _ E0 hr.in1.in1 Iv.env0.in1.in1 (hb s [.ref a] Iv.kIn hlst) (.cons rfl .nil) qq) fun r s' hsq => ?_)
  cases r with
  | error e => exact hsq.elim
  | ok fl =>
    cases fl with
    | ret u =>
      obtain ⟨v, H', I3, rlv, b, ev, q3⟩ := Iv.after hsq
      subst ev
      cases rlv
      exact ⟨rfl, ⟨.bl b, H', I3, rfl, q3⟩⟩
    | next => exact False.elim hsq
    | brk => exact False.elim hsq
    | cont => exact False.elim hsq
end
end Rg
namespace K
open PySem L2 Rg LamX
open Evl (pss_cut)
theorem had_iff {ns : List Int} : hadN ns = true ↔ ∀ m ∈ ns, 2 * m ≤ ns.sum := by
  unfold hadN
  rw [List.all_eq_true]
  exact ⟨fun h m hm => of_decide_eq_true (h m hm), fun h m hm => decide_eq_true (h m hm)⟩
theorem had_perm {a b : List Int} (p : a.Perm b) : hadN a = hadN b := by
  rw [Bool.eq_iff_iff, had_iff, had_iff, sum_perm p]
  exact ⟨fun h m hm => h m (p.mem_iff.mpr hm), fun h m hm => h m (p.mem_iff.mp hm)⟩
theorem netsW_app (ls : List Int) (a b : List Strd) : netsW ls (a ++ b) = netsW ls a ++ netsW ls b := by
  unfold netsW
  rw [List.map_append]
theorem net_app (ls : List Int) (a b : Strd) : net ls (a ++ b) = net ls a + net ls b := by
  unfold net
  rw [List.map_append, List.sum_append]
theorem flat_perm {a b : List Strd} (p : a.Perm b) : (flatB a).Perm (flatB b) := by
  induction p with
  | nil => exact List.Perm.refl _
  | cons x _ ih => exact List.Perm.append_left _ ih
  | swap x y l =>
    unfold flatB
    simp only [List.flatMap_cons, ← List.append_assoc]
    exact List.Perm.append_right _ List.perm_append_comm
  | trans _ _ h1 h2 => exact h1.trans h2
theorem flat_asS : ∀ way : List Strd, (flatB (way.map asS)).Perm (flatB way)
  | [] => List.Perm.refl _
  | st :: way => by
    unfold flatB
    simp only [List.map_cons, List.flatMap_cons]
    exact (asS_bars st).append (flat_asS way)
theorem due_good {n : Nat} {way : List Strd} (g : goodV n way) : goodV n (dueW way) := by
  have p : (dueW way).Perm (way.map asS) := srtW_perm _
  refine ⟨fun st m => ?_, ?_, ?_⟩
  · obtain ⟨q, hq, rfl⟩ := List.mem_map.mp (p.mem_iff.mp m)
    exact asS_good (g.st q hq)
  · rw [p.length_eq, List.length_map]
    exact g.ln
  · exact ((flat_perm p).trans (flat_asS way)).trans g.pm
theorem flat_len : ∀ w : List Strd, ((flatB w).length : Int) = manyW w
  | [] => rfl
  | st :: w => by
    have ih := flat_len w
    unfold flatB at ih ⊢
    unfold manyW at ih ⊢
    rw [List.flatMap_cons, List.length_append, List.length_map, List.map_cons, List.sum_cons, ← ih]
    omega
theorem good_many {n : Nat} {w : List Strd} (g : goodV n w) : manyW w = n := by
  rw [← flat_len, g.pm.length_eq, rngI_len]
theorem good_pos {n : Nat} {w : List Strd} (g : goodV n w) (h : 0 < n) : 0 < w.length := by
  cases w with
  | nil =>
    have := good_many g
    unfold manyW at this
    simp at this
    omega
  | cons x l => simp
theorem good_fit {n : Nat} {w : List Strd} (g : goodV n w) : fitW n w := by
  refine ⟨g.ln, fun st m => ⟨(g.st st m).2.1, fun q hq => ?_⟩⟩
  have h1 : q.1 ∈ flatB w := List.mem_flatMap.mpr ⟨st, m, List.mem_map.mpr ⟨q, hq, rfl⟩⟩
  have h2 := g.pm.mem_iff.mp h1
  unfold rngI at h2
  obtain ⟨i, hi, e⟩ := List.mem_map.mp h2
  have := List.mem_range.mp hi
  exact ⟨by omega, by omega, (g.st st m).2.2 q hq⟩
/-- just one net is too great -/
theorem at_only {ns : List Int} (nn : ∀ y ∈ ns, 0 ≤ y) (h : hadN ns = false) {j : Nat} {m : Int} (hj : ns[j]? = some m) : (ns.sum - m < m) ↔ j = atN ns := by
  obtain ⟨lt, g⟩ := atN_lt h
  refine ⟨fun q => (atN_of nn hj (by omega)).symm, fun e => ?_⟩
  subst e
  rw [List.getElem?_eq_getElem lt] at hj
  cases hj
  omega
theorem had_due {ls : List Int} {n : Nat} {way : List Strd} (g : goodV n way) : hadN (netsW ls (dueW way)) = hadN (netsW ls way) := by
  have p : (dueW way).Perm (way.map asS) := srtW_perm _
  rw [show netsW ls (dueW way) = (dueW way).map (fun st => absI (net ls st)) from rfl, had_perm (p.map fun st => absI (net ls st))]
  have e : (way.map asS).map (fun st => absI (net ls st)) = netsW ls way := by
    unfold netsW
    rw [List.map_map]
    exact List.map_congr_left fun st m => net_asS (g.st st m)
  rw [e]
section
variable {P : Program} {w : World} {K : PySem.W.Frag} {mg : Str → Option Value} {base : Heap}
/-! ### can_line, where no error comes -/
def spCLc (K : PySem.W.Frag) (CR CL CN CG : Addr) : Sp := fun vs H Q _ => ∃ (r l : Addr) (ls : List Int) (W : List Strd), vs = [.ref r, .ref l] ∧ RingAt K CR H r ls ∧ 3 ≤ ls.length ∧ ls.length ≤ 8 ∧ LineF CL H l W ∧ goodV ls.length W ∧
  (hadN (netsW ls W) = true → ∀ p H', Same H H' → NetsR CN H' p (netsW ls W) → Q (.ref p) H') ∧ (hadN (netsW ls W) = false → ∀ p H', Same H H' → GreatR CG H' p W (netsW ls W) → Q (.ref p) H')
theorem ok_clc {CR CL CN CG cR cL cM f : Addr} {fd : FuncData} {k : Nat} (F : FnOk P w K mg base (L2.CX P w) k f fd ["ring", "lineup"] (spCL K CR CL CN CG cR cL cM)) : FnOk P w K mg base CX0 k f fd ["ring", "lineup"] (spCLc K CR CL CN CG) :=
  (fn_calm F).imp fun vs H Q E ⟨r, l, ls, W, hv, ra, l3, l8, lf, g, k1, k2⟩ => ⟨.ref r, .ref l, hv, .inr ⟨r, ls, rfl, ra, l3, l8, .inr ⟨l, W, rfl, lf, .inr ⟨good_many g, good_fit g, good_pos g (by omega), k1, k2⟩⟩⟩⟩
/-- the truth of the papers of a class -/
structure PapB (P : Program) (w : World) (K : PySem.W.Frag) (mg : Str → Option Value) (base : Heap) (C fB : Addr) (fdB : FuncData) (b : Bool) : Prop where
  ok : FnOk P w K mg base CX0 1 fB fdB ["self"] (fun vs H Q _ => ∃ v, vs = [v] ∧ Q (.bl b) H)
  b : Binds K fdB ["self"] []
  f : PySem.W.findIn K (.ref C) "__bool__" = some (some (.ref fB))
  fn : PySem.W.isFn K (.ref fB) = true
end
end K
namespace Rg
open PySem PySem.Spec PyProof.Rows L2 LamX
/-! ### sorted(t, key=f) of a tuple -/
section
open PySem.W
variable {s : Shared} {A : Around} {w : World} {prog : Program} {E : Value → Shared → Prop}
theorem sorted_of_sortT {tp : Addr} {vls : List Value} {kx : List (Str × Value)} {Qq : Value → Shared → Prop} (htp : s.heap.IsTuple tp vls.toArray) (hfit : vls.length ≤ sizeLine) (har : argsOk "sorted" ⟨[.ref tp], kx⟩) (har2 : ∀ y, argsOk "list.sort" ⟨[.ref y], kx⟩)
    (hin : ∀ Er : Value → Shared → Prop, wpAny (model prog w) A.in1.in1 (Builtin.«list.sort» ⟨[.ref (s.heap.objs.size + 1)], kx⟩) (fun fk sn => fk = .done (.ret .none) ∧ Qq (.ref (s.heap.objs.size + 1)) sn) Er { s with heap := copyHeap s.heap vls }) :
    wpAny (model prog w) A (call (.builtin "sorted") [.ref tp] kx) Qq E s := by
  refine call_function_entry_kw kind_sorted plain_sorted entry_sorted har ?_
  unfold Builtin.«sorted»
  refine wpAny_bind (m := checkCount "sorted" 1 1 _) (wpAny_pure (wpAny_bind (col_tup htp hfit (wpAny_bind (wpAny_newList ?_ hfit)))))
  have sz1 : (colHeap s.heap vls).objs.size = s.heap.objs.size + 1 := by rw [Heap.size_update, size_push']
  show wpAny _ _ _ _ _ { s with heap := copyHeap s.heap vls }
  rw [sz1]
  refine wpAny_bind (wpAny_holding (wpAny_call_entry_kw slot_list_sort ⟨_, copyHeap_at s.heap vls, rfl⟩ entry_list_sort ?_ (har2 _)))
  refine wpAny_mono (hin _) (fun fk sn hz => ?_) fun _ _ hea => hea
  obtain ⟨rfl, hqq⟩ := hz
  exact ⟨_, rfl, wpAny_pure ⟨_, rfl, hqq⟩⟩
theorem sorted_key_dataT {τ : Type} {Rl : Value → τ → Prop} {bts : List τ} {vls : List Value} {tp : Addr} {fk : Value} {kx : List (Str × Value)} {rv : Bool} {Qq : Value → Shared → Prop} (kf : τ → PyData) (htp : s.heap.IsTuple tp vls.toArray) (hea : EachIs Rl vls bts) (hlk : AllAlike (bts.map kf)) (hso : Sortable (bts.map kf)) (hfit : bts.length ≤ sizeLine)
    (hrm : ∀ y, y ∈ bts → A.units + 2 + (kf y).depth < cLine) (har : argsOk "sorted" ⟨[.ref tp], kx⟩) (har2 : ∀ y, argsOk "list.sort" ⟨[.ref y], kx⟩) (htree : ∀ y, Builtin.«list.sort» ⟨[.ref y], kx⟩ = ksk_tree y fk rv)
    (hturn : ∀ (u : Value) (y : τ), Rl u y → y ∈ bts → ∀ (hend : Heap) (tok : Nat), (∀ rv ob, s.heap.get? rv = some ob → hend.get? rv = some ob) →
      wpAny (model prog w) A.in1.in1 (call fk [u]) (KeyPure (kf y) { s with heap := hend, toks := tok }) (fun _ _ => False) { s with heap := hend, toks := tok })
    (hend : ∀ res cnt hp tok, (∀ rv ob, s.heap.get? rv = some ob → hp.get? rv = some ob) → s.heap.get? (s.heap.objs.size + 1) = none → hp.get? (s.heap.objs.size + 1) = some (seqObj "list" (List.toArray res) cnt) → res.length = bts.length → EachIs Rl res (bts.mergeSort (dataLe rv kf)) →
      Qq (.ref (s.heap.objs.size + 1)) { s with heap := hp, toks := tok }) :
    wpAny (model prog w) A (call (.builtin "sorted") [.ref tp] kx) Qq E s := by
  have hfr : s.heap.get? (s.heap.objs.size + 1) = none := Heap.get?_none_of_le (Nat.le_succ _)
  have hup : ∀ {hg : Heap}, KeepsBut (s.heap.objs.size + 1) (copyHeap s.heap vls) hg → ∀ rv ob, s.heap.get? rv = some ob → hg.get? rv = some ob := fun {hg} keep rv ob hqz =>
    keep rv ob (Nat.ne_of_lt (Nat.lt_succ_of_lt (Heap.lt_size hqz))) (copyHeap_old hqz)
  refine sorted_of_sortT htp (by rw [hea.length]; exact hfit) har har2 fun Er => ?_
  rw [htree]
  refine keyH_tree (kz := bts.map kf) (s := { s with heap := copyHeap s.heap vls }) (copyHeap_at s.heap vls) (by rw [List.length_map]; exact hea.length.symm) (by rw [hea.length]; exact hfit) hlk hso (bound_map (A := A.in1.in1) hrm)
    (keyH_turns (s := { s with heap := copyHeap s.heap vls }) hea fun u y hRl hym hend tok keep => hturn u y hRl hym hend tok (hup keep)) fun hp tok res cnt keep hdt kos => ⟨rfl, ?_⟩
  exact hend res cnt hp tok (hup keep) hfr hdt ((kos.length (by rw [List.length_map]; exact hea.length.symm)).trans hea.length) (keyedOut_each kf kos hea)
end
/-! ### sorted(lots, key=lambda lot: (-len(lot), lot)), lots tuples of ints -/
def lotKeyN (l : List Int) : PyData := .tuple [.int (-((l.length : Nat) : Int)), .tuple (l.map PyData.int)]
theorem alike_lotKeyN (a b : List Int) : PySem.W.alike (lotKeyN a) (lotKeyN b) = true := by
  simp [lotKeyN, PySem.W.alike, PySem.W.alikeAll, PySem.W.alike_ints]
theorem depth_lotKeyN (a : List Int) : (lotKeyN a).depth ≤ 4 := by
  simp [lotKeyN, PyData.depth, PyData.depthAll, PySem.W.depth_ints]
/-- fewer bars first, then as tuples -/
def lotLeN (a b : List Int) : Bool := !PySem.W.dataLt (lotKeyN b) (lotKeyN a)
section
variable {prog : Program} {w : World} {A : Around} {s : Shared} {h : Heap}
theorem lotkey_turnN {tk : Nat} {f c' t : Addr} {q y : Str} {params : Arguments} {scope : Scope} {pm ctv : Value} {p1 p2 p3 p4 p5 pu : Pos} {x1 : Nat} {mg mb : Str → Option Value} {ns : List Int} {its : List Value}
    (hroom : A.depth < recursionLimit)
    (hf : h.get? f = some (PySem.W.kla_obj "<lambda>" q params (.Tuple [.UnaryOp .USub (.Call (.Name "len" p1) [.Name y p2] [] p3) pu, .Name y p4] x1 p5) scope [] pm c' ctv))
    (hco : scope.isCoroutine = false) (hgen : scope.isGenerator = false) (hk : scope.kind = .function)
    (hcell : ∀ x ∈ scope.names, x.2 ≠ .cell) (hy : scope.names.lookup y = some .local) (hlen : scope.names.lookup ("len" : Str) = some .globalImplicit)
    (hbind : ∀ v : Value, bindArgs (PySem.W.kla_fn "<lambda>" q params (.Tuple [.UnaryOp .USub (.Call (.Name "len" p1) [.Name y p2] [] p3) pu, .Name y p4] x1 p5) scope [] pm (.ref c') ctv) ⟨[v], []⟩ = pure [(y, v)])
    (hcd : h.CodeRec (.ref c') q) (hg : h.Ns mainGlobals mg) (hm : mg ("len" : Str) = none) (hb : h.Ns builtinsNs mb) (hmb : mb ("len" : Str) = some (.builtin "len")) (hnl : h.NoLimit)
    (ht : IsTup h t its.toArray) (hi : IntsAre its ns) (hz : its.length ≤ sizeLine) (hyd : (y == ("__debug__" : Str)) = false) :
    wpAny (model prog w) A (call (.ref f) [.ref t]) (PySem.W.KeyPure (lotKeyN ns) { s with heap := h, toks := tk }) (fun _ _ => False) { s with heap := h, toks := tk } := by
  refine wpAny_call (PySem.W.kla_callFunE hroom hf rfl hco hgen rfl hcd ?_)
  rw [hbind]
  refine wpAny_pure (wpAny_newFunctionEnv hcell (fun z hz => by rw [List.mem_singleton.mp hz]; exact hy) (fun h₁ hns hsb => ⟨hnl.fresh _ hsb, ?_⟩) hk)
  have kp : ∀ b o, h.get? b = some o → h₁.get? b = some o := fun b o e => hsb.extBut b o (Nat.ne_of_lt (Heap.lt_size e)) (Heap.get?_push_of_some _ e)
  show codeAny _ _ (.expr _ (PySem.W.envX q scope h.objs.size f (.ref c') [])) _ _
  refine PySem.W.kla_codeExpr ?_
  refine wpAny_Tuple_spliced ?_
  have rd : ∀ (A' : Around) (tk' : Nat) (pos : Pos) (Q : Value → Shared → Prop) (E : Value → Shared → Prop), Q (.ref t) { s with heap := h₁, toks := tk' } → wpAny (model prog w) A' (eval (.Name y pos) (PySem.W.envX q scope h.objs.size f (.ref c') [])) Q E { s with heap := h₁, toks := tk' } := fun A' tk' pos Q E hQ =>
    wpAny_Name (wpAny_loadName_local hk hy hns (by show ([(y, Value.ref t)].reverse).lookup y = _; simp) hQ) hyd
  refine Calls.spliced_cons (wpAny_UnaryOp (wpAny_Call_Name_kw (Calls.Name_function_global hk hlen (Calls.loadGlobal_builtin (hg.keeps kp) hm (hb.keeps kp) hmb ?_))))
  refine PyProof.Rows.callWith_builtin1 (Calls.spliced_cons (rd _ _ _ _ _ (Calls.spliced_nil ?_))) rfl rfl
  refine len_tuple (ht.keeps kp) ?_ ?_
  · have := line63
    simp only [List.size_toArray]
    omega
  refine neg_int ?_
  refine Calls.spliced_cons (rd _ _ _ _ _ (Calls.spliced_nil ⟨by show 2 ≤ sizeLine; decide, ?_⟩))
  refine ⟨_, _, rfl, fun b o e => Heap.get?_push_of_some _ (kp b o e), ?_⟩
  obtain ⟨o, ho, hc, n, hd⟩ := ht.keeps kp
  refine Reads.tuple (Heap.get?_push_size _ rfl) rfl rfl ?_
  show ReadsAll _ [.int (-((its.toArray.size : Nat) : Int)) _, .ref t] [.int (-((ns.length : Nat) : Int)), .tuple (ns.map .int)] []
  have e1 : its.toArray.size = ns.length := by rw [List.size_toArray, hi.length]
  rw [e1]
  exact ReadsAll.cons (.int _ _) (ReadsAll.cons (Reads.tuple (Heap.get?_push_of_some _ ho) hc hd (reads_intsN hi)) .nil)
end
section
variable {X : Cx}
/-- sorted(e, key=the lambda) -/
def tSortLotsN (K : PySem.W.Frag) (T : List (Addr × Str)) (te : TE) : TE := fun σ H Q => te σ H fun v H1 => ∃ (a : Addr) (xs : List V) (k : V → List Int), v = .ref a ∧ SqT K H1 a xs ∧ (∀ x ∈ xs, ∃ t, x = V.ref t ∧ H1 t = some (.tup ((k x).map V.int))) ∧ Tabs T H1 ∧
  ∀ (H2 : Hp) (p : Addr) (ys : List V), ExtN H1 H2 → Tabs T H2 → ys.Perm xs → (ys.Pairwise fun u v => lotLeN (k u) (k v) = true) → H2 p = none → Q (.ref p) (upd H2 p (.lst ys))
theorem pe_sortLotsN {T : List (Addr × Str)} {c P : Addr} {y : Str} {params : Arguments} {scope : Scope} {p p1 p2 p3 p4 p5 pu lpos kpos pos : Pos} {x1 : Nat} {e : Expr} {te : TE}
    (hdp : X.A.depth < recursionLimit) (hu : X.A.units + 64 < cLine) (hgS : Gl X ("sorted" : Str)) (hmS : X.mg ("sorted" : Str) = none) (hmL : X.mg ("len" : Str) = none) (he : PE X e te)
    (TB : TabB X.base X.mg c P) (hcode : X.env.code = .ref c) (hmT : (P, X.env.qual ++ "<lambda>") ∈ T) (huT : ∀ p ∈ T, p.1 = P → p.2 = X.env.qual ++ "<lambda>")
    (hdef : defaultsOf params X.env = ([], [])) (hco : scope.isCoroutine = false) (hgen : scope.isGenerator = false) (hk : scope.kind = .function)
    (hcell : ∀ x ∈ scope.names, x.2 ≠ .cell ∧ x.2 ≠ .free) (hy : scope.names.lookup y = some .local) (hlen : scope.names.lookup ("len" : Str) = some .globalImplicit) (hclo : cloFrom X.env.cells scope.names [] = [])
    (hbind : ∀ (q : Str) (pm cv ctv v : Value), bindArgs (PySem.W.kla_fn "<lambda>" q params (.Tuple [.UnaryOp .USub (.Call (.Name "len" p1) [.Name y p2] [] p3) pu, .Name y p4] x1 p5) scope [] pm cv ctv) ⟨[v], []⟩ = pure [(y, v)])
    (hyd : (y == ("__debug__" : Str)) = false := by decide)
    (hes : backTo pos (starEach [e] X.env) = [(false, eval e X.env)] := by rfl) :
    PE X (.Call (.Name "sorted" p) [e] [⟨some "key", .Lambda params (.Tuple [.UnaryOp .USub (.Call (.Name "len" p1) [.Name y p2] [] p3) pu, .Name y p4] x1 p5) scope lpos, kpos⟩] pos) (tSortLotsN X.K T te) := by
  refine ⟨fun pins s σ H Q I h => ?_⟩
  refine wpAny_Call_Name_kw (ld_blt I hgS hmS (u := .builtin "sorted") (by decide +kernel) ?_ (by decide) (by decide))
  refine PyProof.Rows.callWith_kw ?_ hes (by rw [hes]; rfl) rfl rfl
  rw [hes]
  refine Calls.spliced_cons (thn (he.run pins s σ H _ I h) fun u s1 ⟨v, H1, I1, r1, q1⟩ => Calls.spliced_nil ?_)
  obtain ⟨a, xs, k, rfl, hs, hx, hT, q⟩ := q1
  obtain rfl : u = Value.ref a := r1
  show wpAny _ _ (evalAll [do let v ← eval (.Lambda params (.Tuple [.UnaryOp .USub (.Call (.Name "len" p1) [.Name y p2] [] p3) pu, .Name y p4] x1 p5) scope lpos) X.env; standAt pos; pure v]) _ _ _
  refine wpAny_evalAll_cons (wpAny_bind ?_)
  refine lam_make2 I1 TB hcode hmT huT hT hdef (fun z hz ef => absurd ef (hcell z hz).2) fun f c' pm ctv H2 s2 I2 eN T2 hf hfn hfr hco2 => ?_
  rw [hclo] at hf
  refine wpAny_bind (wpAny_standAt (wpAny_pure ?_))
  refine wpAny_evalAll_nil ?_
  show wpAny _ _ (call (.builtin "sorted") [.ref a] [(Str.ofString "key", .ref f)]) _ _ s2
  have hs2 : SqT X.K H2 a xs := by
    rcases hs with (hs | ⟨o, hs⟩) | hs
    · exact .inl (.inl (eN _ _ hs (fun _ z => nomatch z)))
    · exact .inl (.inr ⟨o, eN _ _ hs (fun _ z => nomatch z)⟩)
    · exact .inr hs
  obtain ⟨its, rv, tp, hsz⟩ := I2.tuple hs2
  have hx2 : ∀ x ∈ xs, ∃ t, x = V.ref t ∧ H2 t = some (.tup ((k x).map V.int)) := fun x m => let ⟨t, e1, e2⟩ := hx x m; ⟨t, e1, eN _ _ e2 (fun _ z => nomatch z)⟩
  obtain ⟨⟨oc, cvs, ct, hoc, hdc, hvc⟩, _, _⟩ := I2.hok c' _ hco2
  obtain ⟨mb, hb1, hb2⟩ := I2.mod.blt
  refine sorted_key_dataT (τ := V) (Rl := fun u x => RelV x u) (fun x => lotKeyN (k x)) (isTuple_of tp) (vals_each rv) (PySem.W.AllAlike.of fun b b' => alike_lotKeyN _ _) (PySem.W.Sortable.tuples fun b => ⟨_, _, rfl⟩) hsz
    (fun x _ => by have := depth_lotKeyN (k x); omega) (PyProof.Rows.ksk_s1 _ _) (fun _ => PyProof.Rows.ksk_l1 _ _) (fun x => PyProof.Rows.ksk_t1 f x) ?_ ?_
  · intro v x hR hxm h' tk' hk'
    obtain ⟨t, rfl, ht⟩ := hx2 x hxm
    obtain rfl : v = Value.ref t := hR
    obtain ⟨hz, jts, rj, tj⟩ := I2.hok t _ ht
    refine lotkey_turnN (hroom := hdp) (hk' _ _ hf) hco hgen hk (fun z hz => (hcell z hz).1) hy hlen (fun v => hbind _ _ _ _ v) ⟨c', oc, cvs, ct, rfl, hk' _ _ hoc, hdc, hvc⟩
      ((I2.mod.glob.keeps I2.bk).keeps hk') hmL ((hb1.keeps I2.bk).keeps hk') ((hb2 _ (by decide)).trans PySem.boot_len) (I2.nolimit.keeps hk') (tj.keeps hk') rj.ints (by rw [← rj.length]; exact hz) hyd
  · intro out cc h' tk' hk' hfr' hnew hol heach
    have hpm : (xs.mergeSort (PySem.W.dataLe false fun x => lotKeyN (k x))).Perm xs := List.mergeSort_perm ..
    refine ⟨.ref (s2.heap.objs.size + 1), upd H2 (s2.heap.objs.size + 1) (.lst (xs.mergeSort (PySem.W.dataLe false fun x => lotKeyN (k x)))), I2.laid (t' := tk') hk' (Nat.le_succ _) ?_, rfl, ?_⟩
    · exact ⟨by rw [hpm.length_eq]; exact hsz, out, cc, each_vals heach, hnew⟩
    · have nf : H2 (s2.heap.objs.size + 1) = none := I2.hok.fresh (Nat.le_succ _)
      refine q _ _ _ eN T2 hpm ?_ nf
      have z := PySem.W.sortLe_total (listOrd itemOrd) false (fun x : V => PySem.W.keyToks (lotKeyN (k x)))
      exact List.pairwise_mergeSort (le := PySem.W.dataLe false fun x => lotKeyN (k x)) (fun a b c => z.trans a b c) (fun a b => Bool.or_eq_true _ _ |>.mpr (z.total a b)) xs
end
end Rg
namespace K
open PySem L2 Rg LamX
/-! ### rows of signs -/
def sgnR : Nat → List (List Int)
  | 0 => [[]]
  | n + 1 => (sgnR n).flatMap fun r => [r ++ [1], r ++ [-1]]
theorem sgnR_succ (n : Nat) : sgnR (n + 1) = (sgnR n).flatMap fun r => [r ++ [1], r ++ [-1]] := rfl
def Pm1 (r : List Int) : Prop := ∀ s ∈ r, s = 1 ∨ s = -1
theorem fm2_len {α β : Type} (f : α → List β) (h : ∀ x, (f x).length = 2) : ∀ l : List α, (l.flatMap f).length = 2 * l.length
  | [] => rfl
  | x :: l => by
    rw [List.flatMap_cons, List.length_append, h, fm2_len f h l, List.length_cons]
    omega
theorem sgnR_length : ∀ n, (sgnR n).length = 2 ^ n
  | 0 => rfl
  | n + 1 => by
    rw [sgnR_succ, fm2_len _ (fun _ => rfl), sgnR_length n, Nat.pow_succ]
    omega
theorem sgnR_mem : ∀ {n : Nat} {r : List Int}, r ∈ sgnR n ↔ r.length = n ∧ Pm1 r
  | 0, r => by
    refine ⟨fun h => ?_, fun h => ?_⟩
    · rw [List.mem_singleton.mp h]
      exact ⟨rfl, fun _ z => nomatch z⟩
    · rw [List.eq_nil_of_length_eq_zero h.1]
      exact List.mem_singleton.mpr rfl
  | n + 1, r => by
    rw [sgnR_succ, List.mem_flatMap]
    refine ⟨fun ⟨q, hq, h⟩ => ?_, fun ⟨hl, h⟩ => ?_⟩
    · obtain ⟨l, p⟩ := sgnR_mem.mp hq
      rcases List.mem_cons.mp h with rfl | h
      · refine ⟨by rw [List.length_append, l]; rfl, fun s m => ?_⟩
        rcases List.mem_append.mp m with m | m
        · exact p s m
        · exact .inl (List.mem_singleton.mp m)
      · rw [List.mem_singleton.mp h]
        refine ⟨by rw [List.length_append, l]; rfl, fun s m => ?_⟩
        rcases List.mem_append.mp m with m | m
        · exact p s m
        · exact .inr (List.mem_singleton.mp m)
    · have ne : r ≠ [] := fun z => by rw [z] at hl; cases hl
      obtain ⟨q, s, rfl⟩ : ∃ q s, r = q ++ [s] := ⟨r.dropLast, r.getLast ne, (List.dropLast_concat_getLast ne).symm⟩
      rw [List.length_append, List.length_singleton] at hl
      refine ⟨q, sgnR_mem.mpr ⟨by omega, fun x m => h x (List.mem_append_left _ m)⟩, ?_⟩
      rcases h s (List.mem_append_right _ (List.mem_singleton.mpr rfl)) with rfl | rfl
      · exact List.mem_cons_self ..
      · exact List.mem_cons_of_mem _ (List.mem_singleton.mpr rfl)
/-! ### lots of k bars, in order -/
def nxtL (l : List Int) : Nat := match l.getLast? with
  | none => 0
  | some b => b.toNat + 1
def lotsK (n : Nat) : Nat → List (List Int)
  | 0 => [[]]
  | k + 1 => (lotsK n k).flatMap fun l => (List.range (n - nxtL l)).map fun i => l ++ [((nxtL l + i : Nat) : Int)]
theorem lotsK_succ (n k : Nat) : lotsK n (k + 1) = (lotsK n k).flatMap fun l => (List.range (n - nxtL l)).map fun i => l ++ [((nxtL l + i : Nat) : Int)] := rfl
def pwB : List (List Int) → Bool
  | [] => true
  | x :: xs => xs.all (fun y => !HT.lexLt y x) && pwB xs
def okK (n k : Nat) : Bool := (lotsK n k).isPerm ((lotsN n).filter fun l => decide (l.length = k)) && pwB (lotsK n k) && decide ((lotsK n k).length ≤ 70)
theorem okK_all : ∀ n ∈ [3, 4, 5, 6, 7, 8], ∀ k ∈ [0, 1, 2, 3, 4, 5, 6, 7, 8], okK n k = true := by decide +kernel
theorem okK_of {n k : Nat} (n3 : 3 ≤ n) (n8 : n ≤ 8) (k8 : k ≤ 8) : okK n k = true := by
  refine okK_all n ?_ k ?_
  · have : n = 3 ∨ n = 4 ∨ n = 5 ∨ n = 6 ∨ n = 7 ∨ n = 8 := by omega
    simp only [List.mem_cons, List.not_mem_nil, or_false]
    exact this
  · have : k = 0 ∨ k = 1 ∨ k = 2 ∨ k = 3 ∨ k = 4 ∨ k = 5 ∨ k = 6 ∨ k = 7 ∨ k = 8 := by omega
    simp only [List.mem_cons, List.not_mem_nil, or_false]
    exact this
theorem lotsK_perm {n k : Nat} (n3 : 3 ≤ n) (n8 : n ≤ 8) (k8 : k ≤ 8) : (lotsK n k).Perm ((lotsN n).filter fun l => decide (l.length = k)) := by
  have h := okK_of n3 n8 k8
  unfold okK at h
  rw [Bool.and_eq_true, Bool.and_eq_true] at h
  exact List.isPerm_iff.mp h.1.1
theorem lotsK_len {n k : Nat} (n3 : 3 ≤ n) (n8 : n ≤ 8) (k8 : k ≤ 8) : (lotsK n k).length ≤ 70 := by
  have h := okK_of n3 n8 k8
  unfold okK at h
  rw [Bool.and_eq_true, Bool.and_eq_true] at h
  exact of_decide_eq_true h.2
theorem pwB_iff : ∀ {l : List (List Int)}, pwB l = true → l.Pairwise fun a b => HT.lexLt b a = false
  | [], _ => .nil
  | x :: xs, h => by
    rw [pwB, Bool.and_eq_true, List.all_eq_true] at h
    exact .cons (fun y m => by simpa using h.1 y m) (pwB_iff h.2)
theorem lotsK_pw {n k : Nat} (n3 : 3 ≤ n) (n8 : n ≤ 8) (k8 : k ≤ 8) : (lotsK n k).Pairwise fun a b => HT.lexLt b a = false := by
  have h := okK_of n3 n8 k8
  unfold okK at h
  rw [Bool.and_eq_true, Bool.and_eq_true] at h
  exact pwB_iff h.1.2
theorem lotsK_mem {n k : Nat} (n3 : 3 ≤ n) (n8 : n ≤ 8) (k8 : k ≤ 8) {l : List Int} : l ∈ lotsK n k ↔ l ∈ lotsN n ∧ l.length = k := by
  rw [(lotsK_perm n3 n8 k8).mem_iff, List.mem_filter, decide_eq_true_eq]
/-! ### the ways: one lot with signs, all other bars by themselves -/
def wayL (n : Nat) (lot row : List Int) : List Strd := lot.zip (1 :: row) :: (restN n lot n).map fun b => [(b, 1)]
def waysL (n : Nat) (lot : List Int) : List (List Strd) := (sgnR (lot.length - 1)).map (wayL n lot)
def hadW (ls : List Int) (w : List Strd) : Bool := hadN (netsW ls w)
def hw (ls : List Int) (lot : List Int) : List (List Strd) := (waysL ls.length lot).filter (hadW ls)
def wide (ls : List Int) (k : Nat) : List (List Strd) := (lotsK ls.length k).flatMap (hw ls)
theorem rest_perm {n : Nat} {lot : List Int} (h : Lot n lot) : (lot ++ restN n lot n).Perm (rngI n) := by
  refine (List.perm_ext_iff_of_nodup ?_ (nodup_cast List.nodup_range)).mpr fun z => ?_
  · refine List.nodup_append.mpr ⟨h.1, rest_lot.1, fun a ha b hb e => ?_⟩
    subst e
    unfold restN natB at hb
    obtain ⟨j, hj, rfl⟩ := List.mem_map.mp hb
    have := (List.mem_filter.mp hj).2
    rw [hasB_iff.mpr ha] at this
    cases this
  · rw [List.mem_append]
    unfold restN natB
    constructor
    · rintro (m | m)
      · have b := h.2 z m
        exact List.mem_map.mpr ⟨z.toNat, List.mem_range.mpr (by omega), by omega⟩
      · obtain ⟨j, hj, rfl⟩ := List.mem_map.mp m
        exact List.mem_map.mpr ⟨j, (List.mem_filter.mp hj).1, rfl⟩
    · intro m
      obtain ⟨j, hj, rfl⟩ := List.mem_map.mp m
      cases e : hasB lot j with
      | true => exact .inl (hasB_iff.mp e)
      | false => exact .inr (List.mem_map.mpr ⟨j, List.mem_filter.mpr ⟨hj, by rw [e]; rfl⟩, rfl⟩)
theorem rest_length {n : Nat} {lot : List Int} (h : Lot n lot) : lot.length + (restN n lot n).length = n := by
  have := (rest_perm h).length_eq
  rw [List.length_append, rngI_len] at this
  exact this
theorem zip_fst : ∀ {a b : List Int}, a.length = b.length → (a.zip b).map (·.1) = a
  | [], _, _ => by simp
  | x :: a, y :: b, h => by
    rw [List.zip_cons_cons, List.map_cons, zip_fst (by simpa using h)]
theorem zip_sgn : ∀ {a b : List Int}, Pm1 b → ∀ q ∈ a.zip b, q.2 = 1 ∨ q.2 = -1 := fun {a b} h q m => h q.2 (List.of_mem_zip m).2
theorem flat_one : ∀ l : List Int, flatB (l.map fun b => [(b, (1 : Int))]) = l
  | [] => rfl
  | b :: l => by
    have := flat_one l
    unfold flatB at this ⊢
    rw [List.map_cons, List.flatMap_cons, this]
    rfl
theorem flatB_cons (st : Strd) (w : List Strd) : flatB (st :: w) = st.map (·.1) ++ flatB w := by
  unfold flatB
  rw [List.flatMap_cons]
theorem wayL_good {n : Nat} {lot row : List Int} (n8 : n ≤ 8) (h : Lot n lot) (k1 : 1 ≤ lot.length) (hr : row ∈ sgnR (lot.length - 1)) : goodV n (wayL n lot row) := by
  obtain ⟨rl, rp⟩ := sgnR_mem.mp hr
  have l8 := lot_len h
  have el : lot.length = ((1 : Int) :: row).length := by rw [List.length_cons, rl]; omega
  have p1 : Pm1 ((1 : Int) :: row) := fun s m => by
    rcases List.mem_cons.mp m with rfl | m
    · exact .inl rfl
    · exact rp s m
  have rs := rest_length h
  refine ⟨fun s m => ?_, ?_, ?_⟩
  · rcases List.mem_cons.mp m with rfl | m
    · refine ⟨fun z => ?_, ?_, zip_sgn p1⟩
      · have := congrArg List.length z
        rw [List.length_zip, ← el] at this
        simp at this
        rw [this] at k1
        simp at k1
      · rw [List.length_zip, ← el]
        omega
    · obtain ⟨b, _, rfl⟩ := List.mem_map.mp m
      exact ⟨(fun z => nomatch z), (by show 1 ≤ 8; decide), fun q hq => by rw [List.mem_singleton.mp hq]; exact .inl rfl⟩
  · unfold wayL
    rw [List.length_cons, List.length_map]
    omega
  · unfold wayL
    rw [flatB_cons, flat_one, zip_fst el]
    exact rest_perm h
/-! ### signed sums -/
theorem net_plus (ls : List Int) : ∀ st : Strd, (∀ q ∈ st, q.2 = 1 ∨ q.2 = -1) → net ls st = 2 * lsum ls ((st.filter fun q => decide (q.2 = 1)).map (·.1)) - lsum ls (st.map (·.1))
  | [], _ => rfl
  | q :: st, h => by
    have ih := net_plus ls st fun x m => h x (List.mem_cons_of_mem _ m)
    unfold net lsum at ih ⊢
    rw [List.map_cons, List.sum_cons, ih, List.map_cons, List.map_cons, List.sum_cons]
    rcases h q (List.mem_cons_self ..) with e | e
    · rw [List.filter_cons_of_pos (by rw [e]; rfl), List.map_cons, List.map_cons, List.sum_cons, e]
      omega
    · rw [List.filter_cons_of_neg (by rw [e]; decide), e]
      omega
theorem lsum_all (ls : List Int) : lsum ls (rngI ls.length) = ls.sum := by
  have h : Lot ls.length (rngI ls.length) := lot_all
  have e := rest_sum h
  have z : restN ls.length (rngI ls.length) ls.length = [] := by
    have := rest_length h
    rw [rngI_len] at this
    exact List.eq_nil_of_length_eq_zero (by omega)
  rw [z] at e
  simpa [lsum] using e
theorem level_net {ls : List Int} {st : Strd} (p : (st.map (·.1)).Perm (rngI ls.length)) (h : ∀ q ∈ st, q.2 = 1 ∨ q.2 = -1) (e : net ls st = 0) : levelB ls = true := by
  have lotA : Lot ls.length (rngI ls.length) := lot_all
  have lotS : Lot ls.length ((st.filter fun q => decide (q.2 = 1)).map (·.1)) := by
    have sl : ((st.filter fun q => decide (q.2 = 1)).map (·.1)).Sublist (st.map (·.1)) := List.filter_sublist.map _
    exact ⟨(p.nodup_iff.mpr lotA.1).sublist sl, fun b hb => lotA.2 b (p.mem_iff.mp (sl.subset hb))⟩
  refine level_of lotS ?_
  have h1 := net_plus ls st h
  rw [lsum_perm p, lsum_all, e] at h1
  omega
def dotS (xs r : List Int) : Int := ((xs.zip r).map fun q => q.1 * q.2).sum
theorem dot_cons (x s : Int) (xs r : List Int) : dotS (x :: xs) (s :: r) = x * s + dotS xs r := by
  unfold dotS
  rw [List.zip_cons_cons, List.map_cons, List.sum_cons]
theorem net_zip (ls : List Int) : ∀ lot r : List Int, net ls (lot.zip r) = dotS (lot.map fun b => ls.getD b.toNat 0) r
  | [], r => by simp [net, dotS]
  | b :: lot, [] => by simp [net, dotS]
  | b :: lot, s :: r => by
    have ih := net_zip ls lot r
    rw [List.map_cons, dot_cons, List.zip_cons_cons]
    unfold net at ih ⊢
    rw [List.map_cons, List.sum_cons, ih]
theorem dot_neg : ∀ xs r : List Int, dotS xs (r.map fun s => -s) = - dotS xs r
  | [], r => by simp [dotS]
  | x :: xs, [] => by simp [dotS]
  | x :: xs, s :: r => by
    rw [List.map_cons, dot_cons, dot_cons, dot_neg xs r, Int.mul_neg]
    omega
theorem absI_neg (z : Int) : absI (-z) = absI z := by
  rw [absI_nat, absI_nat]
  omega
/-- signs whose first is 1, with the same net up to its sign -/
theorem row_of {xs r : List Int} {k : Nat} (hl : r.length = k + 1) (h : Pm1 r) : ∃ row ∈ sgnR k, absI (dotS xs (1 :: row)) = absI (dotS xs r) := by
  cases r with
  | nil => cases hl
  | cons s r =>
    rw [List.length_cons] at hl
    have hr : Pm1 r := fun x m => h x (List.mem_cons_of_mem _ m)
    rcases h s (List.mem_cons_self ..) with rfl | rfl
    · exact ⟨r, sgnR_mem.mpr ⟨by omega, hr⟩, rfl⟩
    · refine ⟨r.map fun s => -s, sgnR_mem.mpr ⟨by rw [List.length_map]; omega, fun x m => ?_⟩, ?_⟩
      · obtain ⟨y, hy, rfl⟩ := List.mem_map.mp m
        have := hr y hy
        omega
      · have e : (1 : Int) :: (r.map fun s => -s) = ((-1 : Int) :: r).map fun s => -s := rfl
        rw [e, dot_neg, absI_neg]
/-- signs that lead between lo and lo + 2 d -/
theorem signs_between (d : Int) : ∀ (xs : List Int) (lo : Int), 0 ≤ lo → (∀ x ∈ xs, 0 ≤ x ∧ x ≤ d) → 0 ≤ d → lo ≤ xs.sum → ∃ r : List Int, r.length = xs.length ∧ Pm1 r ∧ lo ≤ dotS xs r ∧ dotS xs r ≤ lo + 2 * d
  | [], lo, l0, _, d0, h => ⟨[], rfl, (fun _ m => nomatch m), by simpa [dotS] using h, by simp [dotS]; omega⟩
  | x :: xs, lo, l0, hx, d0, h => by
    have x1 := hx x (List.mem_cons_self ..)
    have hx' : ∀ y ∈ xs, 0 ≤ y ∧ y ≤ d := fun y m => hx y (List.mem_cons_of_mem _ m)
    rw [List.sum_cons] at h
    by_cases c : x + xs.sum ≤ lo + 2 * d
    · refine ⟨List.replicate (xs.length + 1) 1, by simp, fun s m => .inl (List.eq_of_mem_replicate m), ?_, ?_⟩
      all_goals
        have e : ∀ ys : List Int, dotS ys (List.replicate ys.length 1) = ys.sum := fun ys => by
          induction ys with
          | nil => rfl
          | cons y ys ih =>
            rw [List.length_cons, List.replicate_succ, dot_cons, ih, List.sum_cons]
            omega
        have := e (x :: xs)
        rw [List.length_cons, List.sum_cons] at this
        rw [this]
        omega
    · obtain ⟨r, rl, rp, r1, r2⟩ := signs_between d xs (lo + x) (by omega) hx' d0 (by omega)
      refine ⟨-1 :: r, by rw [List.length_cons, List.length_cons, rl], fun s m => ?_, ?_, ?_⟩
      · rcases List.mem_cons.mp m with rfl | m
        · exact .inr rfl
        · exact rp s m
      · rw [dot_cons]
        omega
      · rw [dot_cons]
        omega
theorem max_at (f : Nat → Int) (p : Nat → Bool) : ∀ n, (∃ i, i < n ∧ p i = true) → ∃ j, j < n ∧ p j = true ∧ ∀ k, k < n → p k = true → f k ≤ f j
  | 0, ⟨_, h, _⟩ => by omega
  | n + 1, h => by
    by_cases c : ∃ i, i < n ∧ p i = true
    · obtain ⟨j, jn, pj, hj⟩ := max_at f p n c
      by_cases q : p n = true ∧ f j < f n
      · refine ⟨n, by omega, q.1, fun k kn pk => ?_⟩
        by_cases e : k = n
        · rw [e]
          exact Int.le_refl _
        · have := hj k (by omega) pk
          omega
      · refine ⟨j, by omega, pj, fun k kn pk => ?_⟩
        by_cases e : k = n
        · subst e
          exact Int.not_lt.mp fun z => q ⟨pk, z⟩
        · exact hj k (by omega) pk
    · obtain ⟨i, hi, pi⟩ := h
      have e : i = n := by
        by_cases e : i = n
        · exact e
        · exact absurd ⟨i, by omega, pi⟩ c
      subst e
      refine ⟨i, hi, pi, fun k kn pk => ?_⟩
      by_cases e : k = i
      · rw [e]
        exact Int.le_refl _
      · exact absurd ⟨k, by omega, pk⟩ c
end K
namespace K
open PySem L2 Rg LamX
theorem wide_mem {ls : List Int} {k : Nat} {w : List Strd} : w ∈ wide ls k ↔ ∃ lot ∈ lotsK ls.length k, ∃ row ∈ sgnR (lot.length - 1), w = wayL ls.length lot row ∧ hadW ls w = true := by
  unfold wide hw waysL
  rw [List.mem_flatMap]
  constructor
  · rintro ⟨lot, hl, h⟩
    obtain ⟨h1, h2⟩ := List.mem_filter.mp h
    obtain ⟨row, hr, rfl⟩ := List.mem_map.mp h1
    exact ⟨lot, hl, row, hr, rfl, h2⟩
  · rintro ⟨lot, hl, row, hr, rfl, h2⟩
    exact ⟨lot, hl, List.mem_filter.mpr ⟨List.mem_map.mpr ⟨row, hr, rfl⟩, h2⟩⟩
theorem nets_one (ls : List Int) (l : List Int) : netsW ls (l.map fun b => [(b, (1 : Int))]) = l.map fun b => absI (ls.getD b.toNat 0) := by
  unfold netsW
  rw [List.map_map]
  refine List.map_congr_left fun b _ => ?_
  show absI (net ls [(b, 1)]) = _
  unfold net
  simp
theorem nets_way (ls : List Int) (lot row : List Int) : netsW ls (wayL ls.length lot row) = absI (dotS (lot.map fun b => ls.getD b.toNat 0) (1 :: row)) :: (restN ls.length lot ls.length).map fun b => absI (ls.getD b.toNat 0) := by
  have e := nets_one ls (restN ls.length lot ls.length)
  unfold wayL
  unfold netsW at e ⊢
  rw [List.map_cons, e, net_zip]
theorem absI_zero {z : Int} (h : absI z ≤ 0) : z = 0 := by
  rw [absI_nat] at h
  omega
theorem row_len {lot row : List Int} (k1 : 1 ≤ lot.length) (hr : row ∈ sgnR (lot.length - 1)) : lot.length = ((1 : Int) :: row).length := by
  rw [List.length_cons, (sgnR_mem.mp hr).1]
  omega
theorem row_pm {row : List Int} {k : Nat} (hr : row ∈ sgnR k) : Pm1 ((1 : Int) :: row) := fun s m => by
  rcases List.mem_cons.mp m with rfl | m
  · exact .inl rfl
  · exact (sgnR_mem.mp hr).2 s m
theorem zip_proj : ∀ st : Strd, (st.map (·.1)).zip (st.map (·.2)) = st
  | [] => rfl
  | q :: st => by
    rw [List.map_cons, List.map_cons, List.zip_cons_cons, zip_proj st]
theorem lot_rng (n : Nat) : Lot n (rngI n) := lot_all
theorem rest_all {n : Nat} {lot : List Int} (h : Lot n lot) (e : lot.length = n) : restN n lot n = [] := by
  have := rest_length h
  exact List.eq_nil_of_length_eq_zero (by omega)
theorem nat_lots_all (n : Nat) : rngI n ∈ lotsN n := by
  have h := nat_lots (fun _ => true) n
  rw [List.filter_eq_self.mpr (fun _ _ => rfl)] at h
  exact h
/-! ### all bars on one line -/
theorem wide_all {ls : List Int} (l3 : 3 ≤ ls.length) (l8 : ls.length ≤ 8) : wide ls ls.length ≠ [] ↔ levelB ls = true := by
  constructor
  · intro h
    obtain ⟨w, hw⟩ := List.exists_mem_of_ne_nil _ h
    obtain ⟨lot, hl, row, hr, rfl, had⟩ := wide_mem.mp hw
    obtain ⟨lN, ll⟩ := (lotsK_mem l3 l8 l8).mp hl
    have lot1 := lotsN_lot lN
    have re := rest_all lot1 ll
    unfold hadW at had
    rw [nets_way, re, had_iff] at had
    have a := had _ (List.mem_cons_self ..)
    rw [List.map_nil, List.sum_cons, List.sum_nil] at a
    have z := absI_zero (z := dotS (lot.map fun b => ls.getD b.toNat 0) (1 :: row)) (by omega)
    rw [← net_zip] at z
    refine level_net ?_ (zip_sgn (row_pm hr)) z
    rw [zip_fst (row_len (by omega) hr)]
    have := rest_perm lot1
    rw [re, List.append_nil] at this
    exact this
  · intro h
    rw [level_lots, List.any_eq_true] at h
    obtain ⟨l, hl, e⟩ := h
    have e := of_decide_eq_true e
    obtain ⟨st, hst⟩ : ∃ st : Strd, st = (rngI ls.length).map fun b => (b, if b ∈ l then (1 : Int) else -1) := ⟨_, rfl⟩
    have f1 : st.map (·.1) = rngI ls.length := by
      rw [hst, List.map_map]
      exact List.map_id'' (fun _ => rfl) _
    have pm : Pm1 (st.map (·.2)) := fun s m => by
      obtain ⟨q, hq, rfl⟩ := List.mem_map.mp m
      rw [hst] at hq
      obtain ⟨b, _, rfl⟩ := List.mem_map.mp hq
      show (if b ∈ l then (1 : Int) else -1) = 1 ∨ (if b ∈ l then (1 : Int) else -1) = -1
      split
      · exact .inl rfl
      · exact .inr rfl
    have nz : net ls st = 0 := by
      rw [net_plus ls st fun q hq => pm q.2 (List.mem_map.mpr ⟨q, hq, rfl⟩), f1, lsum_all]
      have pl : ((st.filter fun q => decide (q.2 = 1)).map (·.1)).Perm l := by
        have e1 : (st.filter fun q => decide (q.2 = 1)).map (·.1) = (rngI ls.length).filter fun b => decide (b ∈ l) := by
          rw [hst, List.filter_map, List.map_map]
          have : (fun q : Int × Int => decide (q.2 = 1)) ∘ (fun b => (b, if b ∈ l then (1 : Int) else -1)) = fun b => decide (b ∈ l) := by
            funext b
            show decide ((if b ∈ l then (1 : Int) else -1) = 1) = decide (b ∈ l)
            by_cases c : b ∈ l
            · rw [if_pos c, decide_eq_true c]
              rfl
            · rw [if_neg c, decide_eq_false c]
              rfl
          rw [this]
          exact List.map_id'' (fun _ => rfl) _
        rw [e1]
        have ll := lotsN_lot hl
        refine (List.perm_ext_iff_of_nodup ((lot_rng _).1.sublist List.filter_sublist) ll.1).mpr fun z => ?_
        rw [List.mem_filter, decide_eq_true_eq]
        refine ⟨fun h => h.2, fun m => ⟨?_, m⟩⟩
        have b := ll.2 z m
        exact List.mem_map.mpr ⟨z.toNat, List.mem_range.mpr (by omega), by omega⟩
      rw [lsum_perm pl]
      omega
    have sl : (st.map (·.2)).length = (ls.length - 1) + 1 := by
      rw [hst, List.length_map, List.length_map, rngI_len]
      omega
    obtain ⟨row, hr, e2⟩ := row_of (xs := (rngI ls.length).map fun b => ls.getD b.toNat 0) sl pm
    have e3 : dotS ((rngI ls.length).map fun b => ls.getD b.toNat 0) (st.map (·.2)) = 0 := by
      rw [← net_zip, ← f1, zip_proj, nz]
    refine List.ne_nil_of_mem (a := wayL ls.length (rngI ls.length) row) (wide_mem.mpr ⟨rngI ls.length, (lotsK_mem l3 l8 l8).mpr ⟨nat_lots_all ls.length, rngI_len _⟩, row, by rw [rngI_len]; exact hr, rfl, ?_⟩)
    unfold hadW
    rw [nets_way, rest_all (lot_rng _) (rngI_len _), e2, e3, had_iff]
    intro m hm
    rw [List.map_nil, List.mem_singleton] at hm
    rw [hm]
    simp [absI]
theorem wide_but1 {ls : List Int} (l3 : 3 ≤ ls.length) (l8 : ls.length ≤ 8) (lv : levelB ls = false) : wide ls (ls.length - 1) = [] := by
  refine List.eq_nil_iff_forall_not_mem.mpr fun w hw => ?_
  obtain ⟨lot, hl, row, hr, rfl, had⟩ := wide_mem.mp hw
  obtain ⟨lN, ll⟩ := (lotsK_mem l3 l8 (by omega)).mp hl
  have lot1 := lotsN_lot lN
  have rl := rest_length lot1
  have rp := rest_perm lot1
  obtain ⟨b, hb⟩ : ∃ b, restN ls.length lot ls.length = [b] := by
    have e : (restN ls.length lot ls.length).length = 1 := by omega
    match restN ls.length lot ls.length, e with
    | [b], _ => exact ⟨b, rfl⟩
  unfold hadW at had
  rw [nets_way, hb, had_iff] at had
  have h1 := had _ (List.mem_cons_self ..)
  have h2 := had _ (List.mem_cons_of_mem _ (List.mem_singleton.mpr rfl))
  simp only [List.map_cons, List.map_nil, List.sum_cons, List.sum_nil] at h1 h2
  rw [← net_zip] at h1 h2
  simp only [absI_nat] at h1 h2
  obtain ⟨s, hs, e⟩ : ∃ s : Int, (s = 1 ∨ s = -1) ∧ net ls (lot.zip (1 :: row)) + ls.getD b.toNat 0 * s = 0 := by
    by_cases c : net ls (lot.zip (1 :: row)) = ls.getD b.toNat 0
    · exact ⟨-1, .inr rfl, by omega⟩
    · exact ⟨1, .inl rfl, by omega⟩
  have z : levelB ls = true := by
    refine level_net (st := lot.zip (1 :: row) ++ [(b, s)]) ?_ (fun q hq => ?_) ?_
    · rw [List.map_append, zip_fst (row_len (by omega) hr)]
      rw [hb] at rp
      exact rp
    · rcases List.mem_append.mp hq with hq | hq
      · exact zip_sgn (row_pm hr) q hq
      · rw [List.mem_singleton.mp hq]
        exact hs
    · rw [net_app]
      have : net ls [(b, s)] = ls.getD b.toNat 0 * s := by
        unfold net
        simp
      rw [this]
      exact e
  rw [z] at lv
  cases lv
theorem wide_but2 {ls : List Int} (l3 : 3 ≤ ls.length) (l8 : ls.length ≤ 8) (bd : Bd 1000000 ls) (cl : closesB ls = true) : wide ls (ls.length - 2) ≠ [] := by
  have pos : ∀ k, k < ls.length → 1 ≤ ls.getD k 0 := fun k hk => by
    rw [List.getD_eq_getElem?_getD, List.getElem?_eq_getElem hk]
    exact (bd _ (List.getElem_mem hk)).1
  obtain ⟨i, hi, _, mi⟩ := max_at (fun k => ls.getD k 0) (fun _ => true) ls.length ⟨0, by omega, rfl⟩
  obtain ⟨j, hj, pj, mj⟩ := max_at (fun k => ls.getD k 0) (fun k => decide (k ≠ i)) ls.length (by
    by_cases c : i = 0
    · exact ⟨1, by omega, decide_eq_true (by omega)⟩
    · exact ⟨0, by omega, decide_eq_true (by omega)⟩)
  have ij : j ≠ i := of_decide_eq_true pj
  have lij : Lot ls.length [(i : Int), (j : Int)] := by
    refine ⟨?_, fun b hb => ?_⟩
    · rw [List.nodup_cons]
      refine ⟨fun z => ?_, by simp⟩
      have := List.mem_singleton.mp z
      omega
    · rcases List.mem_cons.mp hb with rfl | hb
      · omega
      · rw [List.mem_singleton.mp hb]
        omega
  have lotR : Lot ls.length (restN ls.length [(i : Int), (j : Int)] ls.length) := rest_lot
  have rl := rest_length lij
  have rs := rest_sum lij
  generalize hlot : restN ls.length [(i : Int), (j : Int)] ls.length = lot at lotR rl rs
  have ll : lot.length = ls.length - 2 := by
    simp at rl
    omega
  have cs : 2 * ls.getD i 0 ≤ ls.sum := by
    unfold closesB at cl
    rw [List.all_eq_true] at cl
    have := of_decide_eq_true (cl _ (List.getElem_mem hi))
    rw [List.getD_eq_getElem?_getD, List.getElem?_eq_getElem hi]
    exact this
  have ls2 : lsum ls [(i : Int), (j : Int)] = ls.getD i 0 + ls.getD j 0 := by
    unfold lsum
    simp
  have xs0 : ∀ x ∈ lot.map (fun b => ls.getD b.toNat 0), 0 ≤ x ∧ x ≤ ls.getD j 0 := fun x hx => by
    obtain ⟨b, hb, rfl⟩ := List.mem_map.mp hx
    rw [← hlot] at hb
    unfold restN natB at hb
    obtain ⟨k, hk, rfl⟩ := List.mem_map.mp hb
    obtain ⟨hk1, hk2⟩ := List.mem_filter.mp hk
    have hk1 := List.mem_range.mp hk1
    have nk : k ≠ i := fun z => by
      subst z
      rw [hasB_iff.mpr (List.mem_cons_self ..)] at hk2
      cases hk2
    have := pos k hk1
    exact ⟨by show 0 ≤ ls.getD k 0; omega, mj k hk1 (decide_eq_true nk)⟩
  have d0 := pos j hj
  have cd := mi j hj rfl
  obtain ⟨r, rl', rp, r1, r2⟩ := signs_between (ls.getD j 0) _ (ls.getD i 0 - ls.getD j 0) (by omega) xs0 (by omega) (by
    have e : (lot.map fun b => ls.getD b.toNat 0).sum = lsum ls lot := rfl
    rw [e]
    omega)
  rw [List.length_map] at rl'
  obtain ⟨row, hr, er⟩ := row_of (xs := lot.map fun b => ls.getD b.toNat 0) (k := ls.length - 3) (by omega) rp
  have lN : lot ∈ lotsN ls.length := by
    rw [← hlot]
    exact nat_lots _ _
  refine List.ne_nil_of_mem (a := wayL ls.length lot row) (wide_mem.mpr ⟨lot, (lotsK_mem l3 l8 (by omega)).mpr ⟨lN, ll⟩, row, by rw [show lot.length - 1 = ls.length - 3 by omega]; exact hr, rfl, ?_⟩)
  have pr : (restN ls.length lot ls.length).Perm [(i : Int), (j : Int)] := by
    have p1 := rest_perm lotR
    have p2 := rest_perm lij
    rw [hlot] at p2
    exact (List.perm_append_left_iff lot).mp ((p1.trans p2.symm).trans List.perm_append_comm)
  unfold hadW
  rw [nets_way, had_perm ((pr.map _).cons _), had_iff, er]
  intro m hm
  rw [List.map_cons, List.map_cons, List.map_nil] at hm ⊢
  rw [List.sum_cons, List.sum_cons, List.sum_cons, List.sum_nil]
  rw [absI_nat, absI_nat, absI_nat] at hm ⊢
  rw [Int.toNat_natCast, Int.toNat_natCast] at hm ⊢
  rcases List.mem_cons.mp hm with rfl | hm
  · omega
  · rcases List.mem_cons.mp hm with rfl | hm
    · omega
    · rw [List.mem_singleton.mp hm]
      omega
/-! ### the search -/
def lotKN (l : List Int) : List Int := -(l.length : Int) :: l
def NLe (u v : List Int) : Prop := HT.lexLt (lotKN v) (lotKN u) = false
theorem NLe.len {u v : List Int} (h : NLe u v) : v.length ≤ u.length := by
  unfold NLe lotKN at h
  rw [HT.lexLt_cons] at h
  by_cases c : -(v.length : Int) = -(u.length : Int)
  · omega
  · rw [if_neg c] at h
    have := of_decide_eq_false h
    omega
theorem NLe.lex {u v : List Int} (h : NLe u v) (e : u.length = v.length) : HT.lexLt v u = false := by
  unfold NLe lotKN at h
  rw [HT.lexLt_cons, if_pos (by rw [e])] at h
  exact h
theorem filter_cut {α : Type} (f : α → Nat) (t : Nat) : ∀ {l : List α}, (l.Pairwise fun a b => f b ≤ f a) → l = (l.filter fun a => decide (t ≤ f a)) ++ (l.filter fun a => !decide (t ≤ f a))
  | [], _ => rfl
  | x :: l, h => by
    rw [List.pairwise_cons] at h
    by_cases c : t ≤ f x
    · rw [List.filter_cons_of_pos (p := fun a => decide (t ≤ f a)) (decide_eq_true c), List.filter_cons_of_neg (p := fun a => !decide (t ≤ f a)) (by simp [c]), List.cons_append, ← filter_cut f t h.2]
    · have e : (l.filter fun a => decide (t ≤ f a)) = [] := by
        rw [List.filter_eq_nil_iff]
        intro a m z
        have := h.1 a m
        have := of_decide_eq_true z
        omega
      have e2 : (l.filter fun a => !decide (t ≤ f a)) = l := by
        rw [List.filter_eq_self]
        intro a m
        rw [decide_eq_false fun z => c (by have := h.1 a m; omega)]
        rfl
      rw [List.filter_cons_of_neg (p := fun a => decide (t ≤ f a)) (by simp [c]), List.filter_cons_of_pos (p := fun a => !decide (t ≤ f a)) (by simp [c]), e, e2]
      rfl
/-- all lots but the empty one, those with most bars first -/
structure AllN (n : Nat) (L : List (List Int)) : Prop where
  pm : L.Perm ((lotsN n).filter fun l => decide (l ≠ []))
  od : L.Pairwise NLe
theorem AllN.size {n k : Nat} {L : List (List Int)} (a : AllN n L) (n3 : 3 ≤ n) (n8 : n ≤ 8) (k1 : 1 ≤ k) (k8 : k ≤ 8) : L.filter (fun l => decide (l.length = k)) = lotsK n k := by
  refine uniq_of (R := fun a b => HT.lexLt b a = false) (fun a b h1 h2 => lexLt_anti a b h2 h1) ?_ ?_ (lotsK_pw n3 n8 k8)
  · refine ((a.pm.filter _).trans ?_).trans (lotsK_perm n3 n8 k8).symm
    rw [List.filter_filter]
    refine List.Perm.of_eq (List.filter_congr fun l _ => ?_)
    by_cases c : l.length = k
    · rw [decide_eq_true c, decide_eq_true (by intro z; rw [z] at c; simp at c; omega)]
      rfl
    · rw [decide_eq_false c]
      rfl
  · refine List.Pairwise.imp_of_mem (fun {x y} hx hy h => ?_) (a.od.filter _)
    have e1 := of_decide_eq_true (List.mem_filter.mp hx).2
    have e2 := of_decide_eq_true (List.mem_filter.mp hy).2
    exact h.lex (by omega)
theorem AllN.len {n : Nat} {L : List (List Int)} (a : AllN n L) {l : List Int} (h : l ∈ L) : Lot n l ∧ 1 ≤ l.length ∧ l.length ≤ n := by
  have m := List.mem_filter.mp (a.pm.mem_iff.mp h)
  have lt := lotsN_lot m.1
  refine ⟨lt, ?_, lot_len lt⟩
  have := of_decide_eq_true m.2
  exact List.length_pos_iff.mpr this
theorem AllN.top {n : Nat} {L : List (List Int)} (a : AllN n L) (n3 : 3 ≤ n) (n8 : n ≤ 8) : ∃ R, L = lotsK n n ++ (lotsK n (n - 1) ++ (lotsK n (n - 2) ++ R)) := by
  have o : L.Pairwise fun a b => b.length ≤ a.length := a.od.imp fun h => h.len
  have c1 := filter_cut (List.length (α := Int)) n o
  have o2 := o.filter fun l => !decide (n ≤ l.length)
  have c2 := filter_cut (List.length (α := Int)) (n - 1) o2
  have o3 := o2.filter fun l => !decide (n - 1 ≤ l.length)
  have c3 := filter_cut (List.length (α := Int)) (n - 2) o3
  have e1 : (L.filter fun l => decide (n ≤ l.length)) = lotsK n n := by
    rw [← a.size n3 n8 (by omega) n8]
    refine List.filter_congr fun l m => ?_
    have := (a.len m).2
    by_cases c : l.length = n
    · rw [decide_eq_true c, decide_eq_true (by omega)]
    · rw [decide_eq_false c, decide_eq_false (by omega)]
  have e2 : ((L.filter fun l => !decide (n ≤ l.length)).filter fun l => decide (n - 1 ≤ l.length)) = lotsK n (n - 1) := by
    rw [← a.size n3 n8 (by omega) (by omega), List.filter_filter]
    refine List.filter_congr fun l m => ?_
    have := (a.len m).2
    by_cases c : l.length = n - 1
    · rw [decide_eq_true c, decide_eq_true (by omega), decide_eq_false (by omega)]
      rfl
    · rw [decide_eq_false c]
      by_cases q : n - 1 ≤ l.length
      · rw [decide_eq_true q, decide_eq_true (show n ≤ l.length by omega)]
        rfl
      · rw [decide_eq_false q]
        rfl
  have e3 : (((L.filter fun l => !decide (n ≤ l.length)).filter fun l => !decide (n - 1 ≤ l.length)).filter fun l => decide (n - 2 ≤ l.length)) = lotsK n (n - 2) := by
    rw [← a.size n3 n8 (by omega) (by omega), List.filter_filter, List.filter_filter]
    refine List.filter_congr fun l m => ?_
    have := (a.len m).2
    by_cases c : l.length = n - 2
    · rw [decide_eq_true c, decide_eq_true (show n - 2 ≤ l.length by omega), decide_eq_false (show ¬ n - 1 ≤ l.length by omega), decide_eq_false (show ¬ n ≤ l.length by omega)]
      rfl
    · rw [decide_eq_false c]
      by_cases q : n - 2 ≤ l.length
      · rw [decide_eq_true q, decide_eq_true (show n - 1 ≤ l.length by omega)]
        rfl
      · rw [decide_eq_false q]
        rfl
  rw [e1] at c1
  rw [e2] at c2
  rw [e3] at c3
  exact ⟨_, by rw [c1, c2, c3]⟩
/-- how many bars stand on one line -/
def mostK (ls : List Int) : Nat := if levelB ls = true then ls.length else ls.length - 2
theorem wide_most {ls : List Int} (l3 : 3 ≤ ls.length) (l8 : ls.length ≤ 8) (bd : Bd 1000000 ls) (cl : closesB ls = true) : wide ls (mostK ls) ≠ [] := by
  unfold mostK
  by_cases c : levelB ls = true
  · rw [if_pos c]
    exact (wide_all l3 l8).mpr c
  · rw [if_neg c]
    exact wide_but2 l3 l8 bd cl
theorem head_app {α : Type} {a b : List α} (h : a ≠ []) : (a ++ b).head? = a.head? := by
  cases a with
  | nil => exact absurd rfl h
  | cons x a => rfl
theorem search {ls : List Int} {L : List (List Int)} (a : AllN ls.length L) (l3 : 3 ≤ ls.length) (l8 : ls.length ≤ 8) (bd : Bd 1000000 ls) (cl : closesB ls = true) : (L.flatMap (hw ls)).head? = (wide ls (mostK ls)).head? := by
  obtain ⟨R, e⟩ := a.top l3 l8
  have ne := wide_most l3 l8 bd cl
  rw [e, List.flatMap_append, List.flatMap_append, List.flatMap_append]
  unfold mostK at ne ⊢
  by_cases c : levelB ls = true
  · rw [if_pos c] at ne ⊢
    exact head_app ne
  · have lv : levelB ls = false := by simpa using c
    rw [if_neg c] at ne ⊢
    have w0 : wide ls ls.length = [] := by
      by_cases z : wide ls ls.length = []
      · exact z
      · exact absurd ((wide_all l3 l8).mp z) c
    have w1 := wide_but1 l3 l8 lv
    unfold wide at w0 w1
    rw [w0, w1, List.nil_append, List.nil_append]
    exact head_app ne
end K
namespace K
open PySem L2 Rg LamX NdefX
open Evl (pss_cut)
/-! ### a paper of a line-up -/
/-- instances of the class C are no lists and no tuples -/
structure NoSeq (K : PySem.W.Frag) (C : Addr) : Prop where
  i : C8.InsC K C
  l : PySem.W.kitOne K (.ref C) (.type "list") = some false
  t : PySem.W.kitOne K (.ref C) (.type "tuple") = some false
def InsAt (H : Hp) (C u : Addr) : Prop := ∃ dx fs, H u = some (.ins C dx fs)
theorem InsAt.same {H H' : Hp} {C u : Addr} (h : InsAt H C u) (s : Same H H') : InsAt H' C u := let ⟨dx, fs, e⟩ := h; ⟨dx, fs, s _ _ e⟩
theorem LineF.ins {C : Addr} {H : Hp} {r : Addr} {w : List Strd} (h : LineF C H r w) : InsAt H C r := let ⟨dx, _, _, _, _, e, _⟩ := h; ⟨dx, _, e⟩
section
variable {P : Program} {w : World} {K : PySem.W.Frag} {mg : Str → Option Value} {base : Heap}
def spFzI (C : Addr) : Sp := fun vs H Q _ => ∃ u : Addr, vs = [.ref u] ∧ InsAt H C u ∧ ∀ H', Same H H' → Q (.ref u) H'
theorem ok_fzI {C f : Addr} {fd : FuncData} (F : Fun K "fixed" "fixed" sFixed f fd) (T : Bi mg) (NS : NoSeq K C) : FnOk P w K mg base CX0 1 f fd ["value"] (spFzI C) := by
  refine F.ok scFz (fun vs H Q E h => ?_) (fun cdv A outer s H vs Q E hr h => ?_)
  · obtain ⟨u, rfl, _⟩ := h
    rfl
  · refine ⟨_, pss_cons (ps_if (pt_val (pe_callB call_isiT (by rfl) T.isinstance (by decide +kernel) (pa_cons (pv 0) (pa_cons (pe_tup (pa_cons (pe_bltn (v := .ty "list") (u := .type "list") (by rfl) T.list (by decide +kernel) rfl) (pa_cons (pe_bltn (v := .ty "tuple") (u := .type "tuple") (by rfl) T.tuple (by decide +kernel) rfl) pa_nil))) pa_nil)))) (pss_one ps_never) pss_nil)
      (pss_one (ps_ret (pv 0))), ?_⟩
    obtain ⟨u, rfl, h, q⟩ := h
    refine ⟨_, rfl, (by show 2 ≤ sizeLine; decide), fun p hp => ?_⟩
    have s1 : Same H (upd H p (.tup [.ty "list", .ty "tuple"])) := (Same.refl H).new hp
    obtain ⟨dx, fs, h1⟩ := h.same s1
    have EI := NS.i
    refine ⟨.ref u, p, [.ty "list", .ty "tuple"], .ref C, _, false, rfl, upd_same, .cons (.ty _) (.cons (.ty _) .nil), .base (.ins h1 EI.cl EI.ha EI.hn EI.htk EI.hm), kitAny_cons NS.l (fun e => kitAny_cons (b := false) (r := false) NS.t (fun _ => kitAny_nil) fun e' => nomatch e') (fun e => nomatch e), _, rfl, iteF ?_⟩
    exact ⟨_, rfl, q _ s1⟩
def spFzT (C : Addr) : Sp := fun vs H Q _ => ∃ t u : Addr, vs = [.ref t] ∧ H t = some (.tup [.ref u]) ∧ InsAt H C u ∧ ∀ t' H', Same H H' → H' t' = some (.tup [.ref u]) → Q (.ref t') H'
theorem ok_fzT {C f : Addr} {fd : FuncData} (F : Fun K "fixed" "fixed" sFixed f fd) (T : Bi mg) (FX : DefAt P w K mg base CX0 1 "fixed" ["value"] (spFzI C) f fd) : FnOk P w K mg base CX0 2 f fd ["value"] (spFzT C) := by
  refine F.ok scFz (fun vs H Q E h => ?_) (fun cdv A outer s H vs Q E hr h => ?_)
  · obtain ⟨t, u, rfl, _⟩ := h
    rfl
  · have nd := scFz.nd
    refine ⟨_, pss_cons (ps_if (pt_val (pe_callB call_isiT (by rfl) T.isinstance (by decide +kernel) (pa_cons (pv 0) (pa_cons (pe_tup (pa_cons (pe_bltn (v := .ty "list") (u := .type "list") (by rfl) T.list (by decide +kernel) rfl) (pa_cons (pe_bltn (v := .ty "tuple") (u := .type "tuple") (by rfl) T.tuple (by decide +kernel) rfl) pa_nil))) pa_nil))))
        (pss_one (ps_ret (pe_callTy call_tuple_of (by rfl) T.tuple (by decide +kernel) (pa_cons (pe_lc (own := [("one", 1)]) (g := gName 1) (tt := tYes) rfl nd (pi_tup (pv 0)) (blkOk_by (N := nFz) (sc := defScope sFixed) (by decide +kernel)) (fun _ _ _ _ _ => pg_name (i := 1) nd rfl (Or.inl rfl)) (fun _ _ _ _ _ => pts_nil) (fun _ _ _ _ _ => pe_call FX.ok hr rfl FX.g FX.kp FX.b .nil pass0 (pa_cons (pv 1) pa_nil))) pa_nil)))) pss_nil)
      (pss_one ps_never), ?_⟩
    obtain ⟨t, u, rfl, ht, h, q⟩ := h
    refine ⟨_, rfl, (by show 2 ≤ sizeLine; decide), fun p hp => ?_⟩
    have s1 : Same H (upd H p (.tup [.ty "list", .ty "tuple"])) := (Same.refl H).new hp
    have hpp : upd H p (.tup [.ty "list", .ty "tuple"]) p = some (.tup [.ty "list", .ty "tuple"]) := upd_same
    generalize upd H p (.tup [.ty "list", .ty "tuple"]) = H1 at s1 hpp ⊢
    have h1 := h.same s1
    have ht1 := s1 _ _ ht
    refine ⟨.ref t, p, [.ty "list", .ty "tuple"], .type "tuple", _, true, rfl, hpp, .cons (.ty _) (.cons (.ty _) .nil), .base (.tup ht1), kitAny_cons (b := false) (kit_ty (by decide +kernel)) (fun _ => kitAny_cons (b := true) (r := true) (kit_ty (by decide +kernel)) (fun e => nomatch e) fun _ => rfl) (fun e => nomatch e), _, rfl, iteT ?_⟩
    refine ⟨_, rfl, t, rfl, ⟨_, .inl (.inl ht1)⟩, fun D hD => ?_⟩
    refine lc_it (walk_tup (K := K) (a := t) (xs := [.ref u])) (fun j H' => Same H1 H' ∧ H' D = some (.lst (([V.ref u] : List V).take j))) ⟨(Same.refl H1).new hD, upd_same⟩ (fun j H' _ r => .inl (.inl (r.1 _ _ ht1))) ?_ ?_
    · rintro j y H2 H3 hj ⟨s2, h2⟩ ⟨rfl, hy⟩
      have hj0 : j = 0 := by
        have : j < 1 := hj
        omega
      subst hj0
      obtain rfl : y = .ref u := (Option.some.inj hy).symm
      refine ⟨rfl, _, rfl, u, rfl, h1.same s2, fun H4 s4 => ⟨_, s4 _ _ h2, by show 0 < sizeLine; decide, (s2.trans s4).mut hD, upd_same⟩⟩
    · rintro H2 ⟨s2, h2⟩
      refine ⟨D, _, rfl, .inl ⟨SqL.of h2, fun t' nt => ?_⟩⟩
      exact q t' _ ((s1.trans s2).new nt) upd_same
/-! ### Paper.__init__ with a line-up, Most.__init__ -/
def spPIm (C L : Addr) : Sp := fun vs H Q _ => ∃ (r dx p u : Addr) (word : Str), vs = [.ref r, .str word, .ref p] ∧ H r = some (.ins C dx []) ∧ H p = some (.tup [.ref u]) ∧ u ≠ r ∧ InsAt H L u ∧
  ∀ t H', But r H H' → H' t = some (.tup [.ref u]) → H' r = some (.ins C dx [("word", .str word), ("parts", .ref t)]) → Q .non H'
def spPIRm (C L : Addr) : Sp := fun vs H Q _ => ∃ (r dx u : Addr) (word : Str), vs = [.ref r, .str word, .ref u] ∧ H r = some (.ins C dx []) ∧ u ≠ r ∧ InsAt H L u ∧
  ∀ t H', But r H H' → H' t = some (.tup [.ref u]) → H' r = some (.ins C dx [("word", .str word), ("parts", .ref t)]) → Q .non H'
theorem ok_pim {C L f fX : Addr} {fd fdX : FuncData} (F : Fun K "__init__" "Paper.__init__" sPaperInit f fd) (pc : PapC K C) (FX : DefAt P w K mg base CX0 2 "fixed" ["value"] (spFzT L) fX fdX) : FnR P w K mg base CX0 3 f (spPIRm C L) := by
  have z := fn_starF (P := P) (w := w) (mg := mg) (base := base) (ps := ["self", "word"]) (pv := "parts") (N := nPI) (k := 2) (sp := spPIm C L) F scPI (fun kV doc pm an cdv ct => StX.bind_star2 (B := fun l => bindArgs (PySem.W.fnOf "__init__" "Paper.__init__" (defArgs sPaperInit) (defBody sPaperInit) (defScope sPaperInit) .none kV doc pm an cdv ct) ⟨l, []⟩) (fun _ _ => rfl) (fun _ _ _ _ => rfl)) fun cdv A outer s H vs Q E hr h => by
    refine ⟨_, (pss_cons (ps_fld (pv 0) (pv 1) rfl) (pss_one (ps_fld (pv 0) (pe_call FX.ok hr rfl FX.g FX.kp FX.b .nil pass0 (pa_cons (pv 2) pa_nil)) rfl))), ?_⟩
    obtain ⟨r, dx, p, u, word, rfl, hr0, hp, ur, hu, q⟩ := h
    refine ⟨_, rfl, _, rfl, r, C, dx, [], rfl, hr0, pc.cl, pc.nw, (by show 0 < 1000; decide), ?_⟩
    have hr1 : upd H r (.ins C dx (putF "word" (.str word) [])) r = some (.ins C dx [("word", .str word)]) := upd_same
    have s1 : But r H (upd H r (.ins C dx (putF "word" (.str word) []))) := fun b o ne e => by rw [upd_ne ne]; exact e
    generalize upd H r (.ins C dx (putF "word" (.str word) [])) = H1 at hr1 s1 ⊢
    have pr : p ≠ r := fun z => by rw [z, hr0] at hp; cases hp
    obtain ⟨ux, ufs, hu0⟩ := hu
    refine ⟨_, rfl, p, u, rfl, s1 _ _ pr hp, ⟨ux, ufs, s1 _ _ ur hu0⟩, fun t H2 s2 ht => ?_⟩
    have hr2 := s2 _ _ hr1
    have tr : t ≠ r := fun z => by rw [z, hr2] at ht; cases ht
    refine ⟨_, rfl, r, C, dx, _, rfl, hr2, pc.cl, pc.np, (by show 1 < 1000; decide), ?_⟩
    have s3 : But r H2 (upd H2 r (.ins C dx (putF "parts" (.ref t) [("word", .str word)]))) := fun b o ne e => by rw [upd_ne ne]; exact e
    exact q t _ ((s1.trans fun b o _ e => s2 _ _ e).trans s3) (s3 _ _ tr ht) upd_same
  exact z.imp fun vs H Q E ⟨r, dx, u, word, e, hr0, ur, hu, q⟩ => ⟨[.ref r, .str word], [.ref u], e, rfl, Nat.le_trans (by show 1 ≤ 1000; decide) (by decide : 1000 ≤ sizeLine), fun p np => by
    have s0 : Same H (upd H p (.tup [.ref u])) := (Same.refl H).new np
    exact ⟨r, dx, p, u, word, rfl, s0 _ _ hr0, upd_same, ur, hu.same s0, fun t H' b ht hr' => q t H' (fun a o ne e => b a o ne (s0 _ _ e)) ht hr'⟩⟩
structure MostC (K : PySem.W.Frag) (mg : Str → Option Value) (C : Addr) : Prop where
  pc : PapC K C
  n1 : NoAttr K C "lineup"
  g : mg "Most" = some (.ref C)
abbrev fsMI (u : V) : List (Str × V) := [("lineup", u)]
def spMI (C L : Addr) : Sp := fun vs H Q _ => ∃ (r dx u : Addr), vs = [.ref r, .ref u] ∧ H r = some (.ins C dx []) ∧ u ≠ r ∧ InsAt H L u ∧ ∀ H', But r H H' → PapG C "most" (fsMI (.ref u)) H' r → Q .non H'
abbrev nMI : List Str := ["self", "lineup", "__class__"]
theorem scMI : NScope nMI ((("self" : Str)) :: (["lineup"] : List Str)) ["__class__"] (defScope sMostInit) := nscope_by (by decide +kernel)
theorem ok_mi {L f c cc C f2 : Addr} {fd : FuncData} (F : FunS K "__init__" "Most.__init__" sMostInit f c cc fd) (T : SupAt P K mg (nfS sMostInit "__init__" "Most.__init__" cc c) f C cc) (R : MostC K mg C) (TO : SupTo K C C f2) (PI : FnR P w K mg base CX0 3 f2 (spPIRm C L)) :
    FnOk P w K mg base CX0 4 f fd ["self", "lineup"] (spMI C L) := by
  obtain ⟨oc, od, kV, doc, pm, an, ct, osl, rfl, lk, hcd⟩ := F.ex
  refine fn_super (CX2 := CX0) (f2 := f2) (sp2 := spPIRm C L) (F := nfS sMostInit "__init__" "Most.__init__" cc c) (N := nMI) (ps := ["lineup"]) (sp := spMI C L) (k := 3) lk hcd scMI T rfl (fun vs H Q E h => ?_) (fun _ => rfl) (fun _ => rfl) (fun _ => ⟨_, rfl⟩) (fun _ _ => rfl) (fun _ _ => rfl) fun A outer s H vs Q E hr h => ?_
  · obtain ⟨r, dx, u, rfl, _⟩ := h
    rfl
  · obtain ⟨r, dx, u, rfl, hr0, ur, hu, q⟩ := h
    refine ⟨r, C, dx, [], _, _, _, _, rfl, hr0, R.pc.cl, TO, PI, pass0, (pa_cons pe_str (pa_cons (pv 1) pa_nil)),
      (pss_one (ps_fld (pv 0) (pe_ix (r := rIxT K) ix_tup (pe_fld (pv 0) rfl) pe_int (fun _ _ => rfl)) rfl)), ?_⟩
    refine ⟨_, rfl, r, dx, u, "most", rfl, hr0, ur, hu, fun t H1 s1 ht hr1 => ?_⟩
    have tr : t ≠ r := fun z => by rw [z, hr1] at ht; cases ht
    refine ⟨_, rfl, r, C, dx, _, _, rfl, hr1, R.pc.cl, R.pc.np, rfl, t, _, 0, .ref u, rfl, rfl, .inl (.inl ht), rfl, _, rfl, r, C, dx, _, rfl, hr1, R.pc.cl, R.n1, (by show 2 < 1000; decide), ?_⟩
    have s2 : But r H1 (upd H1 r (.ins C dx (putF "lineup" (.ref u) [("word", .str "most"), ("parts", .ref t)]))) := fun b o ne e => by rw [upd_ne ne]; exact e
    exact q _ (s1.trans s2) ⟨dx, t, upd_same, s2 _ _ tr ht⟩
/-- a Most of a line-up -/
def MostR (C L : Addr) (H : Hp) (q : Addr) (w : List Strd) : Prop := ∃ u, PapG C "most" (fsMI (.ref u)) H q ∧ LineF L H u w
theorem MostR.ext {C L : Addr} {H H' : Hp} {q : Addr} {w : List Strd} (h : MostR C L H q w) (s : ExtN H H') : MostR C L H' q w := let ⟨u, a, b⟩ := h; ⟨u, a.ext s, b.ext s⟩
theorem madeM {C L : Addr} {E : XK} {H : Hp} {u : Addr} {w : List Strd} {R : Addr → VK} (lf : LineF L H u w) (h : ∀ x H', Same H H' → PapG C "most" (fsMI (.ref u)) H' x → R x .non H') :
    ∀ x dx, H x = none → H dx = none → dx ≠ x → spMI C L (.ref x :: ([.ref u] ++ [])) (upd (upd H dx (.own x)) x (.ins C dx [])) (R x) E := by
  intro x dx hx hdx _
  have s0 : Same H (upd (upd H dx (.own x)) x (.ins C dx [])) := fun b o q => by
    rw [upd_ne (ne_of_none q hx), upd_ne (ne_of_none q hdx)]
    exact q
  have ux : u ≠ x := by
    obtain ⟨dy, fs, hu⟩ := lf.ins
    exact ne_of_none hu hx
  exact ⟨x, dx, u, rfl, upd_same, ux, lf.ins.same s0, fun H' kp pg => h x H' (fun b o e => kp b o (ne_of_none e hx) (s0 b o e)) pg⟩
structure MostP (P : Program) (w : World) (K : PySem.W.Frag) (mg : Str → Option Value) (base : Heap) (C L fI : Addr) (fdI : FuncData) : Prop where
  made : Mk K C fI
  ok : FnOk P w K mg base CX0 4 fI fdI ["self", "lineup"] (spMI C L)
  b : Binds K fdI ["self", "lineup"] []
end
end K
namespace K
open PySem L2 Rg LamX
open Evl (pss_cut)
/-! ### the dict that tells the signs of bars -/
def dic (st : Strd) : List (Key × V) := st.map fun q => ((.inl q.1 : Key), V.int q.2)
theorem dic_cons (q : Int × Int) (st : Strd) : dic (q :: st) = ((.inl q.1 : Key), V.int q.2) :: dic st := rfl
theorem dic_none {b : Int} : ∀ {st : Strd}, b ∉ st.map (·.1) → valV (dic st) (.inl b : Key) = none
  | [], _ => valV_nil
  | q :: st, h => by
    rw [List.map_cons, List.mem_cons] at h
    rw [dic_cons, valV_neg (fun e => h (.inl (Sum.inl.inj e).symm)), dic_none fun m => h (.inr m)]
theorem dic_val {q : Int × Int} : ∀ {st : Strd}, (st.map (·.1)).Nodup → q ∈ st → valV (dic st) (.inl q.1 : Key) = some (.int q.2)
  | p :: st, nd, h => by
    rw [List.map_cons, List.nodup_cons] at nd
    rw [dic_cons]
    rcases List.mem_cons.mp h with rfl | h
    · exact valV_pos rfl
    · rw [valV_neg fun e => nd.1 (by rw [show p.1 = q.1 from Sum.inl.inj e]; exact List.mem_map.mpr ⟨q, h, rfl⟩)]
      exact dic_val nd.2 h
theorem dic_put {b s : Int} {st : Strd} (h : b ∉ st.map (·.1)) : putK (dic st) (.inl b : Key) (.int s) = dic (st ++ [(b, s)]) := by
  rw [putK_new _ (dic_none h)]
  unfold dic
  rw [List.map_append]
  rfl
theorem dic_len (st : Strd) : (dic st).length = st.length := by
  unfold dic
  rw [List.length_map]
def DicAt (H : Hp) (v : V) (st : Strd) : Prop := ∃ d, v = .ref d ∧ H d = some (.dK (dic st))
theorem DicAt.same {H H' : Hp} {v : V} {st : Strd} (h : DicAt H v st) (s : Same H H') : DicAt H' v st := let ⟨d, e, z⟩ := h; ⟨d, e, s _ _ z⟩
theorem DicAt.mut {H : Hp} {D : Addr} {us ws : List V} {v : V} {st : Strd} (h : DicAt H v st) (hD : H D = some (.lst us)) : DicAt (upd H D (.lst ws)) v st := by
  obtain ⟨d, e, z⟩ := h
  exact ⟨d, e, by rw [upd_ne fun k => by rw [k, hD] at z; cases z]; exact z⟩
section
variable {P : Program} {w : World} {K : PySem.W.Frag} {mg : Str → Option Value} {base : Heap}
/-! ### with_sign -/
def spWS : Sp := fun vs H Q _ => ∃ (d : Addr) (st : Strd) (b s : Int), vs = [.ref d, .int b, .int s] ∧ H d = some (.dK (dic st)) ∧ (st.map (·.1)).Nodup ∧ b ∉ st.map (·.1) ∧ st.length ≤ 16 ∧
  ∀ p H', Same H H' → H' p = some (.dK (dic (st ++ [(b, s)]))) → Q (.ref p) H'
abbrev nWS : List Str := ["row", "bar", "sign", "longer", "one"]
theorem scWS : FnScope nWS ["row", "bar", "sign"] (defScope sWithSign) := ⟨rfl, rfl, rfl, by decide +kernel, rfl, by decide +kernel, by decide +kernel⟩
theorem ok_ws {f : Addr} {fd : FuncData} (F : Fun K "with_sign" "with_sign" sWithSign f fd) : FnOk P w K mg base CX0 1 f fd ["row", "bar", "sign"] spWS := by
  refine F.ok scWS (fun vs H Q E h => ?_) (fun cdv A outer s H vs Q E hr h => ?_)
  · obtain ⟨d, st, b, s, rfl, _⟩ := h
    rfl
  · have nd := scWS.nd
    have hu1 : (A.deeper (PyProof.Rows.envOfC "with_sign" (defScope sWithSign) s.heap.objs.size f cdv)).units + 1 < cLine := by have := hr.un; omega
    refine ⟨_, pss_cons (ps_lock (ps_setDc (ix := 3) (own := [("one", 4)]) (g := gName 4) (tt := tYes) (tk := tVar 4) (tv := tDGet (tVar 0) (tVar 4)) rfl nd rfl rfl (sw_dc rfl rfl rfl (by decide +kernel)) (pi_keys (pv 0)) (blkOk_by (N := nWS) (sc := defScope sWithSign) (by decide +kernel)) (fun _ _ _ _ _ => pg_name (i := 4) nd rfl (Or.inl rfl)) (fun _ _ _ _ _ => pts_nil) (fun _ _ _ _ _ => pv 4) (fun _ _ _ _ _ => pe_dget hu1 (pv 0) (pv 4) (fun _ _ => rfl))))
      (pss_cons (ps_dput hu1 (pv 3) (pv 1) (pv 2) rfl)
      (pss_one (ps_ret (pv 3)))), ?_⟩
    obtain ⟨d, st, b, sg, rfl, hd, nds, nb, l16, k⟩ := h
    refine ⟨d, .dK (dic st), hd, True.intro, fun od => ?_⟩
    have hf : upd H d (.frz od (.dK (dic st))) d = some (.frz od (.dK (dic st))) := upd_same
    have back : ∀ H', Same (upd H d (.frz od (.dK (dic st)))) H' → Same H (upd H' d (.dK (dic st))) := fun H' s1 a o e => by
      by_cases c : a = d
      · subst c
        rw [upd_same]
        rw [hd] at e
        exact e
      · rw [upd_ne c]
        exact s1 _ _ (by rw [upd_ne c]; exact e)
    have none0 : ∀ D, upd H d (.frz od (.dK (dic st))) D = none → H D = none := fun D h => by
      rw [upd_ne fun z => by rw [z, upd_same] at h; cases h] at h
      exact h
    generalize upd H d (.frz od (.dK (dic st))) = H0 at hf back none0 ⊢
    refine ⟨_, rfl, d, od, rfl, .inl ⟨dic st, hf, fun D hD => ?_⟩⟩
    have hDd : D ≠ d := fun z => by rw [z, hf] at hD; cases hD
    refine walk_any walk_keys (fun i H' => Same H0 H' ∧ H' D = some (.dK (dic (st.take i)))) ⟨(Same.refl H0).new hD, upd_same⟩ (fun i H' _ q => q.1 _ _ hf) ?_ ?_
    · rintro i x H1 H2 hi ⟨s1, h1⟩ ⟨rfl, kk, v, hk, rfl⟩
      rw [dic_len] at hi
      have hq : st[i]? = some st[i] := List.getElem?_eq_getElem hi
      have hk2 : (dic st)[i]? = some ((.inl st[i].1 : Key), V.int st[i].2) := by
        unfold dic
        rw [List.getElem?_map, hq]
        rfl
      rw [hk2] at hk
      cases hk
      have ni : st[i].1 ∉ (st.take i).map (·.1) := fun m => by
        have e : st = st.take i ++ st[i] :: st.drop (i + 1) := by rw [List.getElem_cons_drop, List.take_append_drop]
        have nd2 := nds
        rw [e, List.map_append, List.map_cons, List.nodup_append] at nd2
        exact nd2.2.2 _ m _ (List.mem_cons_self ..) rfl
      refine ⟨rfl, _, rfl, _, rfl, _, rfl, d, .int st[i].2, rfl, .inl ⟨dic st, .inl st[i].1, .inr ⟨od, s1 _ _ hf⟩, rfl, (dic_val nds (List.mem_of_getElem? hq)).symm⟩, _, .inl st[i].1, rfl, h1, ?_, ?_, ?_⟩
      · rw [dic_len, List.length_take]
        exact sm (by omega)
      · intro a o e
        have hDH : H0 D = none := hD
        rw [upd_ne fun z => by rw [z, hDH] at e; cases e]
        exact s1 _ _ e
      · rw [upd_same, dic_put ni, take_snoc hq]
    rintro H1 ⟨s1, h1⟩
    rw [dic_len, List.take_length] at h1
    refine ⟨s1 _ _ hf, ?_⟩
    have s2 := back _ s1
    have h2 : upd H1 d (.dK (dic st)) D = some (.dK (dic st)) := by rw [upd_ne hDd]; exact h1
    have nD := none0 _ hD
    generalize upd H1 d (.dK (dic st)) = H2 at s2 h2 ⊢
    refine ⟨_, rfl, _, rfl, _, rfl, D, _, rfl, DPut.k (k := .inl b) (v := .int sg) h2 (by rw [dic_len]; exact sm (by omega)), ?_⟩
    rw [dic_put nb]
    refine ⟨_, rfl, k D _ (s2.mut nD) upd_same⟩
end
end K
namespace K
open PySem L2 Rg LamX
open Evl (pss_cut)
/-! ### what choices makes of a lot and single bars -/
def onesL (n : Nat) (lot : List Int) : List (List Int) := lot :: (restN n lot n).map fun b => [b]
def fsL (h : Int) (rest : List Int) : Strd := (h :: rest).map fun b => (b, (1 : Int))
theorem way_lots {n : Nat} {lot row : List Int} (e : lot.length = ((1 : Int) :: row).length) : (wayL n lot row).map lotI = onesL n lot := by
  unfold wayL onesL
  rw [List.map_cons, List.map_map]
  congr 1
  exact zip_fst e
theorem way_in {n : Nat} {h : Int} {t row : List Int} : ∀ st ∈ wayL n (h :: t) row, ∀ q ∈ st, q ∈ fsL h (restN n (h :: t) n) ++ t.zip row := by
  intro st m q hq
  unfold wayL at m
  rcases List.mem_cons.mp m with rfl | m
  · rw [List.zip_cons_cons] at hq
    rcases List.mem_cons.mp hq with rfl | hq
    · exact List.mem_append_left _ (List.mem_cons_self ..)
    · exact List.mem_append_right _ hq
  · obtain ⟨b, hb, rfl⟩ := List.mem_map.mp m
    rw [List.mem_singleton.mp hq]
    exact List.mem_append_left _ (List.mem_map.mpr ⟨b, List.mem_cons_of_mem _ hb, rfl⟩)
theorem fs_fst (h : Int) (rest : List Int) : (fsL h rest).map (·.1) = h :: rest := by
  unfold fsL
  rw [List.map_map]
  exact List.map_id'' (fun _ => rfl) _
theorem zip_sub : ∀ (a b : List Int), ((a.zip b).map (·.1)).Sublist a
  | [], _ => by simp
  | x :: a, [] => by simp
  | x :: a, y :: b => by
    rw [List.zip_cons_cons, List.map_cons]
    exact (zip_sub a b).cons_cons _
theorem nd_all {n : Nat} {h : Int} {t : List Int} (lt : Lot n (h :: t)) : (h :: restN n (h :: t) n ++ t).Nodup := by
  have p := rest_perm lt
  refine (List.Perm.nodup_iff ?_).mp (p.nodup_iff.mpr (lot_rng n).1)
  rw [List.cons_append, List.cons_append]
  exact List.Perm.cons _ List.perm_append_comm
theorem nd_part {n : Nat} {h : Int} {t row : List Int} (lt : Lot n (h :: t)) (i : Nat) : ((fsL h (restN n (h :: t) n) ++ (t.take i).zip row).map (·.1)).Nodup := by
  rw [List.map_append, fs_fst]
  refine (nd_all lt).sublist (List.Sublist.append (List.Sublist.refl _) ((zip_sub _ _).trans (List.take_sublist ..)))
theorem nin_part {n : Nat} {h : Int} {t row : List Int} (lt : Lot n (h :: t)) {i : Nat} {b : Int} (hb : t[i]? = some b) : b ∉ (fsL h (restN n (h :: t) n) ++ (t.take i).zip row).map (·.1) := by
  rw [List.map_append, fs_fst]
  intro m
  have nd := nd_all lt
  obtain ⟨hi, e⟩ := List.getElem?_eq_some_iff.mp hb
  have et : t = t.take i ++ b :: t.drop (i + 1) := by rw [← e, List.getElem_cons_drop, List.take_append_drop]
  rw [et, ← List.append_assoc] at nd
  rw [← et] at nd
  refine (List.nodup_append.mp nd).2.2 b ?_ b (List.mem_cons_self ..) rfl
  rcases List.mem_append.mp m with m | m
  · exact List.mem_append_left _ m
  · exact List.mem_append_right _ ((zip_sub _ _).subset m)
/-! ### lots of the law and of the program ascend -/
def Asc (l : List Int) : Prop := l.Pairwise (· ≤ ·)
theorem lotsN_asc : ∀ n, ∀ l ∈ lotsN n, Asc l
  | 0, l, h => by
    rw [List.mem_singleton.mp h]
    exact .nil
  | n + 1, l, h => by
    rw [lotsN_succ] at h
    rcases List.mem_append.mp h with h | h
    · exact lotsN_asc n l h
    · obtain ⟨m, hm, rfl⟩ := List.mem_map.mp h
      refine List.pairwise_append.mpr ⟨lotsN_asc n m hm, List.pairwise_singleton .., fun a ha b hb => ?_⟩
      have := (lotsN_in n m hm a ha).2
      rw [List.mem_singleton.mp hb]
      omega
theorem drop_ones (n : Nat) (lot : List Int) : (onesL n lot).flatMap (fun l => l.drop 1) = lot.drop 1 := by
  unfold onesL
  rw [List.flatMap_cons]
  have : ((restN n lot n).map fun b => [b]).flatMap (fun l : List Int => l.drop 1) = [] := by
    rw [List.flatMap_eq_nil_iff]
    intro l m
    obtain ⟨b, _, rfl⟩ := List.mem_map.mp m
    rfl
  rw [this, List.append_nil]
theorem ones_len {n : Nat} {lot : List Int} (lt : Lot n lot) (k1 : 1 ≤ lot.length) : (onesL n lot).length ≤ n := by
  have := rest_length lt
  unfold onesL
  rw [List.length_cons, List.length_map]
  omega
/-- strands, ways whose lists stand off some addresses -/
def LStN (N : Addr → Prop) (H : Hp) (v : V) (s : Strd) : Prop := ∃ a xs, v = V.ref a ∧ ¬ N a ∧ H a = some (.lst xs) ∧ Paired (SPat H) xs s
def LWyN (N : Addr → Prop) (H : Hp) (v : V) (w : List Strd) : Prop := ∃ a xs, v = V.ref a ∧ ¬ N a ∧ H a = some (.lst xs) ∧ Paired (LStN N H) xs w
theorem LStN.same {N : Addr → Prop} {H H' : Hp} {v : V} {q : Strd} (h : LStN N H v q) (s : Same H H') : LStN N H' v q := let ⟨a, xs, e, n, z, p⟩ := h; ⟨a, xs, e, n, s _ _ z, par_imp (fun _ _ k => k.same s) p⟩
theorem LWyN.same {N : Addr → Prop} {H H' : Hp} {v : V} {q : List Strd} (h : LWyN N H v q) (s : Same H H') : LWyN N H' v q := let ⟨a, xs, e, n, z, p⟩ := h; ⟨a, xs, e, n, s _ _ z, par_imp (fun _ _ k => k.same s) p⟩
theorem LStN.mut {N : Addr → Prop} {H : Hp} {D : Addr} {us ws : List V} {v : V} {q : Strd} (h : LStN N H v q) (n : N D) (hD : H D = some (.lst us)) : LStN N (upd H D (.lst ws)) v q := by
  obtain ⟨a, xs, e, na, z, p⟩ := h
  exact ⟨a, xs, e, na, by rw [upd_ne fun k => na (by rw [k]; exact n)]; exact z, par_imp (fun _ _ k => k.mut hD) p⟩
theorem LWyN.mut {N : Addr → Prop} {H : Hp} {D : Addr} {us ws : List V} {v : V} {q : List Strd} (h : LWyN N H v q) (n : N D) (hD : H D = some (.lst us)) : LWyN N (upd H D (.lst ws)) v q := by
  obtain ⟨a, xs, e, na, z, p⟩ := h
  exact ⟨a, xs, e, na, by rw [upd_ne fun k => na (by rw [k]; exact n)]; exact z, par_imp (fun _ _ k => k.mut n hD) p⟩
theorem LStN.imp {N N' : Addr → Prop} {H : Hp} {v : V} {q : Strd} (h : LStN N H v q) (i : ∀ a, N' a → N a) : LStN N' H v q := let ⟨a, xs, e, n, z, p⟩ := h; ⟨a, xs, e, fun m => n (i _ m), z, p⟩
theorem LWyN.imp {N N' : Addr → Prop} {H : Hp} {v : V} {q : List Strd} (h : LWyN N H v q) (i : ∀ a, N' a → N a) : LWyN N' H v q := let ⟨a, xs, e, n, z, p⟩ := h; ⟨a, xs, e, fun m => n (i _ m), z, par_imp (fun _ _ k => k.imp i) p⟩
theorem LStN.st {N : Addr → Prop} {H : Hp} {v : V} {q : Strd} (h : LStN N H v q) : LSt H v q := let ⟨a, xs, e, _, z, p⟩ := h; ⟨a, xs, e, z, p⟩
theorem LWyN.wy {N : Addr → Prop} {H : Hp} {v : V} {q : List Strd} (h : LWyN N H v q) : LWy H v q := let ⟨a, xs, e, _, z, p⟩ := h; ⟨a, xs, e, z, par_imp (fun _ _ k => k.st) p⟩
theorem slFromZ {a : Addr} {xs : List V} {z : Int} {i : Nat} {H : Hp} {Q : VK} (hz : z = (i : Int)) (ha : H a = some (.tup xs)) (k : ∀ t H', H' t = some (.tup (xs.drop i)) → Same H H' → Q (.ref t) H') : rSlA K (.ref a) (some z) none H Q := by
  subst hz
  exact slFrom ha k
theorem nin_take {st : Strd} (nd : (st.map (·.1)).Nodup) {i : Nat} {q : Int × Int} (hq : st[i]? = some q) : q.1 ∉ (st.take i).map (·.1) := fun m => by
  obtain ⟨hi, e⟩ := List.getElem?_eq_some_iff.mp hq
  have et : st = st.take i ++ q :: st.drop (i + 1) := by rw [← e, List.getElem_cons_drop, List.take_append_drop]
  rw [et, List.map_append, List.map_cons, List.nodup_append] at nd
  exact nd.2.2 _ m _ (List.mem_cons_self ..) rfl
theorem ones_first {n : Nat} {h : Int} {t l : List Int} {i : Nat} (e : (onesL n (h :: t))[i]? = some l) : ∃ y r, l = y :: r ∧ (fsL h (restN n (h :: t) n))[i]? = some (y, 1) := by
  unfold onesL at e
  unfold fsL
  cases i with
  | zero =>
    cases e
    exact ⟨h, t, rfl, rfl⟩
  | succ i =>
    rw [List.getElem?_cons_succ, List.getElem?_map] at e
    rw [List.map_cons, List.getElem?_cons_succ, List.getElem?_map]
    cases q : (restN n (h :: t) n)[i]? with
    | none => rw [q] at e; cases e
    | some b =>
      rw [q] at e
      cases e
      exact ⟨b, [], rfl, rfl⟩
theorem fs_len {n : Nat} {h : Int} {t : List Int} : (fsL h (restN n (h :: t) n)).length = (onesL n (h :: t)).length := by
  unfold fsL onesL
  rw [List.length_map, List.length_cons, List.length_cons, List.length_map]
section
variable {P : Program} {w : World} {K : PySem.W.Frag} {mg : Str → Option Value} {base : Heap}
def spCh : Sp := fun vs H Q _ => ∃ (a : Addr) (xs : List V) (n : Nat) (lot : List Int), vs = [.ref a] ∧ H a = some (.lst xs) ∧ TL H xs (onesL n lot) ∧ Lot n lot ∧ 1 ≤ lot.length ∧ n ≤ 8 ∧ Asc lot ∧
  ∀ p ys H', Same H H' → H p = none → H' p = some (.lst ys) → Paired (LWyN (fun a => H a ≠ none) H') ys (waysL n lot) → Q (.ref p) H'
abbrev nCh : List Str := ["lots", "rows", "bar", "lot", "row", "sign"]
theorem scCh : FnScope nCh ["lots"] (defScope sChoices) := ⟨rfl, rfl, rfl, by decide +kernel, rfl, by decide +kernel, by decide +kernel⟩
def scC1 : Scope := { kind := .function, names := [(Str.ofString ".0", .local), (Str.ofString "row", .cell), (Str.ofString "lots", .free)], isGenerator := false, isCoroutine := false }
def scC2 : Scope := { kind := .function, names := [(Str.ofString ".0", .local), (Str.ofString "lot", .local), (Str.ofString "row", .free)], isGenerator := false, isCoroutine := false }
abbrev teC2 (K : PySem.W.Frag) : TE := tTup (tCons (tVar 2) (tCons (tDGet (tVar 4) (tVar 2)) tNil))
abbrev teC1 (K : PySem.W.Frag) : TE := tLc (iTup K (tVar 3)) (gName 2) tYes (teC2 K) [2]
theorem ok_ch {f fW : Addr} {fd fdW : FuncData} (F : Fun K "choices" "choices" sChoices f fd) (T : Bi mg) (WS : DefAt P w K mg base CX0 1 "with_sign" ["row", "bar", "sign"] spWS fW fdW) : FnOk P w K mg base CX0 2 f fd ["lots"] spCh := by
  refine F.ok scCh (fun vs H Q E h => ?_) (fun cdv A outer s H vs Q E hr h => ?_)
  · obtain ⟨a, xs, n, lot, rfl, _⟩ := h
    rfl
  · have nd := scCh.nd
    have hu1 : (A.deeper (PyProof.Rows.envOfC "choices" (defScope sChoices) s.heap.objs.size f cdv)).units + 1 < cLine := by have := hr.un; omega
    refine ⟨_, pss_cons (ps_set (i := 1) nd rfl (Or.inl rfl) (pe_lst (pa_cons (pe_dc (own := [("lot", 3)]) (g := gName 3) (tt := tYes) (tk := tOp (rIxT K) (tVar 3) (tC (.int 0))) (tv := tC (.int 1)) rfl nd (pi_list (pv 0)) (blkOk_by (N := nCh) (sc := defScope sChoices) (by decide +kernel)) (fun _ _ _ _ _ => pg_name (i := 3) nd rfl (Or.inl rfl)) (fun _ _ _ _ _ => pts_nil) (fun _ _ _ _ _ => pe_ix (r := rIxT K) ix_tup (pv 3) pe_int (fun _ _ => rfl)) (fun _ _ _ _ _ => pe_int)) pa_nil)))
      (pss_cons (ps_for PassesOwn.never rfl (pi_list (pe_callB cr_sortedI (by rfl) T.sorted (by decide +kernel) (pa_cons (pe_lc2 (own := [("lot", 3), ("bar", 2)]) (vs1 := [2]) (g := gName 3) (g1 := gName 2) (tt := tYes) (tt1 := tYes) (wi1 := iTup K (tSl (rSlA K) (tVar 3) (tPart (tC (.int 1))) tNoPart)) (te := tVar 2) rfl nd (pi_list (pv 0)) (blkOk_by (N := nCh) (sc := defScope sChoices) (by decide +kernel)) (by decide)
            (fun _ _ _ _ _ => pg_name (i := 3) nd rfl (Or.inl rfl)) (fun _ _ _ _ _ => pts_nil) (fun _ _ _ _ _ => pi_tup (pe_slice sl_tupA (pv 3) (po_some pe_int) po_none)) (fun _ _ _ _ _ => pg_name (i := 2) nd rfl (Or.inl rfl)) (fun _ _ _ _ _ => pts_nil) (fun _ _ _ _ _ => pv 2)) pa_nil))) (pg_name (i := 2) nd rfl (Or.inr rfl))
        (pss_one (ps_setLc2 (i := 1) (own := [("row", 4), ("sign", 5)]) (vs1 := [5]) (g := gName 4) (g1 := gName 5) (tt := tYes) (tt1 := tYes) (wi1 := iTup K (tTup (tCons (tC (.int 1)) (tCons (tUn (rU fun i => .int (-i)) (tC (.int 1))) tNil)))) (te := tCall spWS [] E0 (tCons (tVar 4) (tCons (tVar 2) (tCons (tVar 5) tNil)))) rfl nd rfl rfl (sw_true rfl rfl rfl (by decide +kernel)) (pi_list (pv 1)) (blkOk_by (N := nCh) (sc := defScope sChoices) (by decide +kernel)) (by decide)
            (fun _ _ _ _ _ => pg_name (i := 4) nd rfl (Or.inl rfl)) (fun _ _ _ _ _ => pts_nil) (fun _ _ _ _ _ => pi_tup (pe_tup (pa_cons pe_int (pa_cons (pe_un un_neg pe_int) pa_nil)))) (fun _ _ _ _ _ => pg_name (i := 5) nd rfl (Or.inl rfl)) (fun _ _ _ _ _ => pts_nil) (fun _ _ _ _ _ => pe_call WS.ok hr rfl WS.g WS.kp WS.b .nil pass0 (pa_cons (pv 4) (pa_cons (pv 2) (pa_cons (pv 5) pa_nil)))))))
      (pss_one (ps_ret (pe_lc (own := [("row", 4)]) (g := gName 4) (tt := tYes) (te := tLc (iList K (tVar 0)) (gName 3) tYes (teC1 K) [3]) rfl nd (pi_list (pv 1)) (blkOk_by (N := nCh) (sc := defScope sChoices) (by decide +kernel)) (fun _ _ _ _ _ => pg_name (i := 4) nd rfl (Or.inr rfl)) (fun _ _ _ _ _ => pts_nil)
        (fun _ _ _ _ _ => pe_lc (own := [("lot", 3)]) (g := gName 3) (tt := tYes) (te := teC1 K) rfl nd (pi_list (pv 0)) (blkOk_by (N := nCh) (sc := relS scC1 (defScope sChoices)) (by decide +kernel)) (fun _ _ _ _ _ => pg_name (i := 3) nd rfl (Or.inl rfl)) (fun _ _ _ _ _ => pts_nil)
          (fun _ _ _ _ _ => pe_lc (own := [("bar", 2)]) (g := gName 2) (tt := tYes) (te := teC2 K) rfl nd (pi_tup (pv 3)) (blkOk_by (N := nCh) (sc := relS scC2 (relS scC1 (defScope sChoices))) (by decide +kernel)) (fun _ _ _ _ _ => pg_name (i := 2) nd rfl (Or.inl rfl)) (fun _ _ _ _ _ => pts_nil)
            (fun _ _ _ _ _ => pe_tup (pa_cons (pv 2) (pa_cons (pe_dget hu1 (pv 4) (pv 2) (fun _ _ => rfl)) pa_nil))))))))), ?_⟩
    obtain ⟨a, xs, n, lot, rfl, ha, tl, lt, k1, n8, asc, k⟩ := h
    obtain ⟨h, t, rfl⟩ : ∃ h t, lot = h :: t := by
      cases lot with
      | nil => simp at k1
      | cons h t => exact ⟨h, t, rfl⟩
    have xl : xs.length = (onesL n (h :: t)).length := par_len tl
    have ol := ones_len lt k1
    have tl8 : t.length ≤ 7 := by
      have := lot_len lt
      rw [List.length_cons] at this
      omega
    -- the dict of the first bars
    have fl := fs_len (n := n) (h := h) (t := t)
    have ndf : ((fsL h (restN n (h :: t) n)).map (·.1)).Nodup := by
      simpa using nd_part (row := []) lt 0
    refine ⟨_, rfl, a, rfl, ⟨_, SqL.of ha⟩, fun D hD => ?_⟩
    refine walk_any walk_list (fun i H' => Same H H' ∧ H' D = some (.dK (dic ((fsL h (restN n (h :: t) n)).take i)))) ⟨(Same.refl H).new hD, upd_same⟩ (fun i H' _ q => SqL.of (q.1 _ _ ha)) ?_ ?_
    · rintro i x H1 H2 hi ⟨s1, h1⟩ ⟨rfl, hx⟩
      obtain ⟨l, hl, b, rfl, hb⟩ := par_get tl hx
      obtain ⟨y, r, rfl, hy⟩ := ones_first hl
      refine ⟨rfl, _, rfl, b, _, _, _, rfl, rfl, .inl (.inl (s1 _ _ hb)), at_of (j := 0) rfl rfl, _, .inl y, rfl, h1, ?_, s1.mut hD, ?_⟩
      · rw [dic_len, List.length_take]
        exact sm (by omega)
      · rw [upd_same, dic_put (nin_take ndf hy), take_snoc hy]
    rintro H1 ⟨s1, h1⟩
    rw [xl, ← fl, List.take_length] at h1
    refine ⟨(by show 1 ≤ sizeLine; decide), fun rp nrp => ?_⟩
    have dD : DicAt H1 (.ref D) (fsL h (restN n (h :: t) n)) := ⟨D, rfl, h1⟩
    have s2 : Same H1 (upd H1 rp (.lst [.ref D])) := (Same.refl H1).new nrp
    have hrp : upd H1 rp (.lst [.ref D]) rp = some (.lst [.ref D]) := upd_same
    generalize upd H1 rp (.lst [.ref D]) = H2 at s2 hrp ⊢
    have d2 := dD.same s2
    have s02 := s1.trans s2
    have ha2 := s02 _ _ ha
    -- the other bars of the lot
    refine ⟨_, rfl, a, rfl, ⟨_, SqL.of ha2⟩, fun D3 hD3 => ?_⟩
    refine walk_any walk_list (fun j H' => Same H2 H' ∧ H' D3 = some (.lst ((((onesL n (h :: t)).take j).flatMap fun l => l.drop 1).map V.int))) ⟨(Same.refl H2).new hD3, upd_same⟩ (fun j H' _ q => SqL.of (q.1 _ _ ha2)) ?_ ?_
    · rintro j x H3 H4 hj ⟨s3, h3⟩ ⟨rfl, hx⟩
      obtain ⟨l, hl, b, rfl, hb⟩ := par_get tl hx
      have hb3 := s3 _ _ (s02 _ _ hb)
      have l8 : l.length ≤ 8 := by
        cases j with
        | zero => cases hl; exact Nat.le_trans (lot_len lt) n8
        | succ j =>
          unfold onesL at hl
          rw [List.getElem?_cons_succ, List.getElem?_map] at hl
          cases q : (restN n (h :: t) n)[j]? with
          | none => rw [q] at hl; cases hl
          | some b => rw [q] at hl; cases hl; exact (by show 1 ≤ 8; decide)
      refine ⟨rfl, _, rfl, _, rfl, ?_⟩
      dsimp only [tNoPart]
      refine slFromZ (i := 1) rfl hb3 fun c H5 hc s5 => ⟨c, rfl, ⟨_, .inl (.inl hc)⟩, ?_⟩
      have pre : (((onesL n (h :: t)).take j).flatMap fun l => l.drop 1).length ≤ 8 := by
        have e := drop_ones n (h :: t)
        have e2 : (onesL n (h :: t)).flatMap (fun l => l.drop 1) = ((onesL n (h :: t)).take j).flatMap (fun l => l.drop 1) ++ ((onesL n (h :: t)).drop j).flatMap fun l => l.drop 1 := by
          rw [← List.flatMap_append, List.take_append_drop]
        rw [e2] at e
        have := congrArg List.length e
        rw [List.length_append, List.drop_one, List.tail_cons] at this
        omega
      rw [← List.map_drop] at hc
      refine walk_any walk_tup (fun i H6 => Same H2 H6 ∧ H6 c = some (.tup ((l.drop 1).map V.int)) ∧ H6 D3 = some (.lst ((((((onesL n (h :: t)).take j).flatMap fun l => l.drop 1) ++ (l.drop 1).take i)).map V.int))) ⟨s3.trans s5, hc, by rw [List.take_zero, List.append_nil]; exact s5 _ _ h3⟩ (fun i H6 _ q => .inl (.inl q.2.1)) ?_ ?_
      · rintro i y H6 H7 hi ⟨s6, hc6, h6⟩ ⟨rfl, hy⟩
        rw [List.length_map] at hi
        obtain ⟨z, hz, rfl⟩ := int_at hy
        have cD : c ≠ D3 := fun e => by rw [e, h6] at hc6; cases hc6
        refine ⟨rfl, _, rfl, _, h6, ?_, s6.mut hD3, by rw [upd_ne cD]; exact hc6, ?_⟩
        · rw [List.length_map, List.length_append, List.length_take, List.length_drop]
          exact sm (by omega)
        · rw [upd_same, ← take_snoc hz, ← List.append_assoc]
          simp only [List.map_append]
          rfl
      · rintro H6 ⟨s6, hc6, h6⟩
        rw [List.length_map, List.take_length] at h6
        refine ⟨s6, ?_⟩
        rw [h6, ← take_snoc hl, List.flatMap_append]
        simp
    rintro H3 ⟨s3, h3⟩
    rw [xl, List.take_length, drop_ones] at h3
    refine ⟨D3, _, rfl, SqL.of h3, fun ns p pmN odN np => ?_⟩
    have e : ns = t := sorted_eqI pmN odN (List.pairwise_cons.mp asc).2
    subst e
    have nD3 := hD3
    have s4 : Same H3 (upd H3 p (.lst (ns.map V.int))) := (Same.refl H3).new np
    have hp : upd H3 p (.lst (ns.map V.int)) p = some (.lst (ns.map V.int)) := upd_same
    generalize upd H3 p (.lst (ns.map V.int)) = H4 at s4 hp ⊢
    refine ⟨p, rfl, ⟨_, SqL.of hp⟩, ?_⟩
    have s24 := s3.trans s4
    refine for_list (K := K) (a := p) (xs := ns.map V.int) (fun i σ H' => ∃ (rl : Addr) (rs : List V) (z : Option V), σ = [some (.ref a), some (.ref rl), z, none, none, none] ∧ Same H H' ∧ H' p = some (.lst (ns.map V.int)) ∧ H' rl = some (.lst rs) ∧ Paired (DicAt H') rs ((sgnR i).map fun r => fsL h (restN n (h :: ns) n) ++ (ns.take i).zip r))
      ⟨rp, [.ref D], none, rfl, s02.trans s24, hp, s24 _ _ hrp, .cons (by simpa using d2.same s24) .nil⟩ (fun i σ H' _ ⟨_, _, _, _, _, q, _⟩ => SqL.of q) ?_ ?_
    · rintro i x σ H5 hi ⟨rl, rs, z, rfl, s5, hp5, h5, prs⟩
      obtain ⟨b, hb, rfl⟩ := int_at hi
      have hil : i < ns.length := (List.getElem?_eq_some_iff.mp hb).1
      have rl2 : rs.length = 2 ^ i := by rw [par_len prs, List.length_map, sgnR_length]
      have p2 : 2 ^ i ≤ 2 ^ 6 := Nat.pow_le_pow_right (by decide) (by omega)
      have fl8 : (fsL h (restN n (h :: ns) n)).length ≤ 8 := by omega
      refine ⟨_, rfl, rl, rfl, ⟨_, SqL.of h5⟩, fun D5 hD5 => ?_⟩
      have hD50 := s5.free hD5
      refine walk_any walk_list (fun j H' => Same H5 H' ∧ ∃ us, H' D5 = some (.lst us) ∧ Paired (DicAt H') us ((((sgnR i).take j).flatMap fun r => [r ++ [1], r ++ [-1]]).map fun r => fsL h (restN n (h :: ns) n) ++ (ns.take (i + 1)).zip r)) ⟨(Same.refl H5).new hD5, [], upd_same, .nil⟩ (fun j H' _ q => q.1.seq (SqL.of h5)) ?_ ?_
      · rintro j x H6 H7 hj ⟨s6, us, h6, pu⟩ ⟨rfl, hx⟩
        obtain ⟨st, hst, dr⟩ := par_get prs hx
        rw [List.getElem?_map] at hst
        obtain ⟨r, hr, rfl⟩ : ∃ r, (sgnR i)[j]? = some r ∧ fsL h (restN n (h :: ns) n) ++ (ns.take i).zip r = st := by
          cases q : (sgnR i)[j]? with
          | none => rw [q] at hst; cases hst
          | some r => rw [q] at hst; exact ⟨r, rfl, Option.some.inj hst⟩
        have rlen := (sgnR_mem.mp (List.mem_of_getElem? hr)).1
        have zl : ((ns.take i).zip r).length ≤ 8 := by
          rw [List.length_zip, List.length_take]
          omega
        have ext : ∀ sg : Int, fsL h (restN n (h :: ns) n) ++ (ns.take i).zip r ++ [(b, sg)] = fsL h (restN n (h :: ns) n) ++ (ns.take (i + 1)).zip (r ++ [sg]) := fun sg => by
          rw [← take_snoc hb, List.zip_append (by rw [List.length_take, rlen]; omega), ← List.append_assoc]
          rfl
        obtain ⟨d, rfl, hd⟩ := dr
        have hd6 := s6 _ _ hd
        have pul : us.length ≤ 200 := by
          rw [par_len pu, List.length_map, fm2_len _ (fun _ => rfl), List.length_take, sgnR_length]
          omega
        refine ⟨rfl, _, rfl, (by show 2 ≤ sizeLine; decide), fun tp ntp => ⟨tp, rfl, ⟨_, .inl (.inl upd_same)⟩, ?_⟩⟩
        have s7 : Same H7 (upd H7 tp (.tup [.int 1, .int (-1)])) := (Same.refl H7).new ntp
        have htp : upd H7 tp (.tup [.int 1, .int (-1)]) tp = some (.tup [.int 1, .int (-1)]) := upd_same
        generalize upd H7 tp (.tup [.int 1, .int (-1)]) = H71 at s7 htp ⊢
        refine walk_any walk_tup (fun m H' => Same H5 H' ∧ H' tp = some (.tup [.int 1, .int (-1)]) ∧ ∃ us, us.length ≤ 200 + m ∧ H' D5 = some (.lst us) ∧ Paired (DicAt H') us (((((sgnR i).take j).flatMap fun r => [r ++ [1], r ++ [-1]]) ++ ([r ++ [1], r ++ [-1]] : List (List Int)).take m).map fun r => fsL h (restN n (h :: ns) n) ++ (ns.take (i + 1)).zip r)) ⟨s6.trans s7, htp, us, pul, s7 _ _ h6, by rw [List.take_zero, List.append_nil]; exact par_imp (fun _ _ z => z.same s7) pu⟩ (fun m H' _ q => .inl (.inl q.2.1)) ?_ ?_
        · rintro m y H8 H9 hm ⟨s8, ht8, us8, ul8, h8, pu8⟩ ⟨rfl, hy⟩
          obtain ⟨sg, rfl, hsg⟩ : ∃ sg : Int, y = .int sg ∧ ([r ++ [1], r ++ [-1]] : List (List Int))[m]? = some (r ++ [sg]) := by
            match m, hy with
            | 0, hy => exact ⟨1, (Option.some.inj hy).symm, rfl⟩
            | 1, hy => exact ⟨-1, (Option.some.inj hy).symm, rfl⟩
            | m + 2, hy => cases hy
          have m2 : m < 2 := hm
          refine ⟨rfl, _, rfl, _, rfl, _, rfl, d, _, b, sg, rfl, s8 _ _ hd, nd_part lt i, nin_part lt hb, ?_, fun pp H10 s10 hpp => ?_⟩
          · rw [List.length_append]
            omega
          · have h10 := s10 _ _ h8
            have ne : tp ≠ D5 := fun e => by rw [e, h8] at ht8; cases ht8
            refine ⟨us8, h10, sm (by omega), (s8.trans s10).mut hD5, by rw [upd_ne ne]; exact s10 _ _ ht8, us8 ++ [.ref pp], by rw [List.length_append]; exact Nat.succ_le_succ ul8, upd_same, ?_⟩
            rw [← take_snoc hsg, ← List.append_assoc, List.map_append]
            refine par_app (par_imp (fun _ _ z => (z.same s10).mut h10) pu8) (.cons ?_ .nil)
            have dz : DicAt H10 (.ref pp) (fsL h (restN n (h :: ns) n) ++ (ns.take (i + 1)).zip (r ++ [sg])) := ⟨pp, rfl, by rw [← ext]; exact hpp⟩
            exact dz.mut h10
        · rintro H8 ⟨s8, ht8, us8, ul8, h8, pu8⟩
          refine ⟨s8, us8, h8, ?_⟩
          rw [← take_snoc hr, List.flatMap_append]
          simpa using pu8
      · rintro H6 ⟨s6, us, h6, pu⟩
        rw [show rs.length = (sgnR i).length by rw [par_len prs, List.length_map], List.take_length, ← sgnR_succ] at pu
        exact ⟨D5, us, _, rfl, s5.trans s6, s6 _ _ hp5, h6, pu⟩
    · rintro σ H5 ⟨rl, rs, z, rfl, s5, hp5, h5, prs⟩
      rw [List.length_map, List.take_length] at prs
      have lw : ∀ r ∈ sgnR ns.length, (h :: ns).length = ((1 : Int) :: r).length := fun r m => by
        rw [List.length_cons, List.length_cons, (sgnR_mem.mp m).1]
      have rl2 : rs.length ≤ 128 := by
        rw [par_len prs, List.length_map, sgnR_length]
        exact Nat.pow_le_pow_right (by decide) (show ns.length ≤ 7 from tl8)
      -- the strands of each row
      refine ⟨_, rfl, rl, rfl, ⟨_, SqL.of h5⟩, fun D6 hD6 => ?_⟩
      refine lc_list (K := K) (a := rl) (xs := rs) (fun j H' => Same H5 H' ∧ ∃ us, H' D6 = some (.lst us) ∧ Paired (LWyN (fun a => a = D6 ∨ H a ≠ none) H') us ((waysL n (h :: ns)).take j)) ⟨(Same.refl H5).new hD6, [], upd_same, .nil⟩ (fun j H' _ q => q.1.seq (SqL.of h5)) ?_ ?_
      · rintro j x H6 hj ⟨s6, us, h6, pu⟩
        have hjl : j < rs.length := (List.getElem?_eq_some_iff.mp hj).1
        obtain ⟨st, hst, dr⟩ := par_get prs hj
        rw [List.getElem?_map] at hst
        obtain ⟨r, hr, rfl⟩ : ∃ r, (sgnR ns.length)[j]? = some r ∧ fsL h (restN n (h :: ns) n) ++ ns.zip r = st := by
          cases q : (sgnR ns.length)[j]? with
          | none => rw [q] at hst; cases hst
          | some r => rw [q] at hst; exact ⟨r, rfl, Option.some.inj hst⟩
        have hrm := List.mem_of_getElem? hr
        have hw0 : (waysL n (h :: ns))[j]? = some (wayL n (h :: ns) r) := by
          unfold waysL
          rw [List.getElem?_map, show (h :: ns).length - 1 = ns.length from rfl, hr]
          rfl
        obtain ⟨d, rfl, hd⟩ := dr
        have ndd : ((fsL h (restN n (h :: ns) n) ++ ns.zip r).map (·.1)).Nodup := by
          have := nd_part (row := r) lt ns.length
          rwa [List.take_length] at this
        have wls := way_lots (n := n) (lw r hrm)
        have inn := way_in (n := n) (h := h) (t := ns) (row := r)
        have gw := wayL_good n8 lt k1 (row := r) (by rw [show (h :: ns).length - 1 = ns.length from rfl]; exact hrm)
        have ha6 := (s5.trans s6) _ _ ha
        refine ⟨rfl, _, rfl, a, rfl, ⟨_, SqL.of ha6⟩, fun D7 hD7 => ?_⟩
        have n67 : D7 ≠ D6 := fun z => by rw [z, h6] at hD7; cases hD7
        refine lc_list (K := K) (a := a) (xs := xs) (fun i H' => Same H6 H' ∧ ∃ vs, H' D7 = some (.lst vs) ∧ Paired (LStN (fun a => (a = D6 ∨ H a ≠ none) ∨ a = D7) H') vs ((wayL n (h :: ns) r).take i)) ⟨(Same.refl H6).new hD7, [], upd_same, .nil⟩ (fun i H' _ q => q.1.seq (SqL.of ha6)) ?_ ?_
        · rintro i y H7 hi ⟨s7, vs, h7, pvs⟩
          obtain ⟨l, hl, b, rfl, hb⟩ := par_get tl hi
          rw [← wls, List.getElem?_map] at hl
          obtain ⟨st, hst2, rfl⟩ : ∃ st, (wayL n (h :: ns) r)[i]? = some st ∧ lotI st = l := by
            cases q : (wayL n (h :: ns) r)[i]? with
            | none => rw [q] at hl; cases hl
            | some st => rw [q] at hl; exact ⟨st, rfl, Option.some.inj hl⟩
          have stm := List.mem_of_getElem? hst2
          have st8 := (gw.st st stm).2.1
          have hb7 := ((s5.trans s6).trans s7) _ _ hb
          refine ⟨rfl, _, rfl, b, rfl, ⟨_, .inl (.inl hb7)⟩, fun D8 hD8 => ?_⟩
          have n78 : D8 ≠ D7 := fun z => by rw [z, h7] at hD8; cases hD8
          have n68 : D8 ≠ D6 := fun z => by rw [z, s7 _ _ h6] at hD8; cases hD8
          refine lc_tup (K := K) (a := b) (xs := (lotI st).map V.int) (fun m H' => Same H7 H' ∧ ∃ ws, H' D8 = some (.lst ws) ∧ Paired (SPat H') ws (st.take m)) ⟨(Same.refl H7).new hD8, [], upd_same, .nil⟩ (fun m H' _ q => .inl (.inl (q.1 _ _ hb7))) ?_ ?_
          · rintro m z H8 hm ⟨s8, ws, h8, pws⟩
            obtain ⟨zz, hz, rfl⟩ := int_at hm
            unfold lotI at hz
            rw [List.getElem?_map] at hz
            obtain ⟨q, hq, rfl⟩ : ∃ q, st[m]? = some q ∧ q.1 = zz := by
              cases e : st[m]? with
              | none => rw [e] at hz; cases hz
              | some q => rw [e] at hz; exact ⟨q, rfl, Option.some.inj hz⟩
            have dv := dic_val ndd (inn st stm q (List.mem_of_getElem? hq))
            have hd8 := ((s6.trans s7).trans s8) _ _ hd
            have dg := DGet.k (k := (.inl q.1 : Key)) hd8
            rw [dv] at dg
            refine ⟨rfl, _, rfl, _, rfl, _, rfl, d, _, rfl, dg, (by show 2 ≤ sizeLine; decide), fun tt ntt => ?_⟩
            have hD8' : upd H8 tt (.tup [.int q.1, .int q.2]) D8 = some (.lst ws) := by rw [upd_ne (ne_of_none h8 ntt)]; exact h8
            refine ⟨ws, hD8', ?_, (s8.new ntt).mut hD8, _, upd_same, ?_⟩
            · rw [par_len pws, List.length_take]
              exact sm (by omega)
            · rw [← take_snoc hq]
              have sp : SPat (upd H8 tt (.tup [.int q.1, .int q.2])) (.ref tt) q := ⟨tt, rfl, upd_same⟩
              exact par_app (par_imp (fun _ _ z => (z.same ((Same.refl H8).new ntt)).mut hD8') pws) (.cons (sp.mut hD8') .nil)
          · rintro H8 ⟨s8, ws, h8, pws⟩
            rw [show ((lotI st).map V.int).length = st.length by unfold lotI; rw [List.length_map, List.length_map], List.take_length] at pws
            have h78 := s8 _ _ h7
            refine ⟨vs, h78, ?_, (s7.trans s8).mut hD7, _, upd_same, ?_⟩
            · have := gw.ln
              rw [par_len pvs, List.length_take]
              exact sm (by omega)
            · rw [← take_snoc hst2]
              have f8 : H D8 = none := ((s5.trans s6).trans s7).free hD8
              have sN : LStN (fun a => (a = D6 ∨ H a ≠ none) ∨ a = D7) H8 (.ref D8) st := ⟨D8, ws, rfl, fun q => q.elim (fun q => q.elim n68 fun q => q f8) n78, h8, pws⟩
              exact par_app (par_imp (fun _ _ z => (z.same s8).mut (.inr rfl) h78) pvs) (.cons (sN.mut (.inr rfl) h78) .nil)
        · rintro H7 ⟨s7, vs, h7, pvs⟩
          rw [show xs.length = (wayL n (h :: ns) r).length by rw [xl, ← wls, List.length_map], List.take_length] at pvs
          have h67 := s7 _ _ h6
          refine ⟨us, h67, ?_, (s6.trans s7).mut hD6, _, upd_same, ?_⟩
          · rw [par_len pu, List.length_take]
            exact sm (by omega)
          · rw [← take_snoc hw0]
            have f7 : H D7 = none := (s5.trans s6).free hD7
            have wN : LWyN (fun a => a = D6 ∨ H a ≠ none) H7 (.ref D7) (wayL n (h :: ns) r) := ⟨D7, vs, rfl, fun q => q.elim n67 fun q => q f7, h7, par_imp (fun _ _ z => z.imp fun a e => .inl e) pvs⟩
            exact par_app (par_imp (fun _ _ z => (z.same s7).mut (.inl rfl) h67) pu) (.cons (wN.mut (.inl rfl) h67) .nil)
      · rintro H6 ⟨s6, us, h6, pu⟩
        have wl : rs.length = (waysL n (h :: ns)).length := by
          unfold waysL
          rw [par_len prs, List.length_map, List.length_map]
          rfl
        rw [wl, List.take_length] at pu
        exact k D6 us H6 (s5.trans s6) (s5.free hD6) h6 (par_imp (fun _ _ z => z.imp fun a e => .inr e) pu)
end
end K
namespace K
open PySem L2 Rg LamX
open Evl (pss_cut)
theorem head_filter {α : Type} {p : α → Bool} : ∀ {l : List α} {i : Nat} {x : α}, l[i]? = some x → p x = true → (∀ (j : Nat) y, j < i → l[j]? = some y → p y = false) → (l.filter p).head? = some x
  | a :: l, 0, x, e, h, _ => by
    cases e
    rw [List.filter_cons_of_pos h]
    rfl
  | a :: l, i + 1, x, e, h, n => by
    rw [List.filter_cons_of_neg (by rw [n 0 a (Nat.succ_pos _) rfl]; exact Bool.false_ne_true)]
    exact head_filter (by simpa using e) h fun j y hj hy => n (j + 1) y (by omega) (by simpa using hy)
theorem filter_none {α : Type} {p : α → Bool} {l : List α} (n : ∀ (j : Nat) y, j < l.length → l[j]? = some y → p y = false) : l.filter p = [] := by
  rw [List.filter_eq_nil_iff]
  intro a m h
  obtain ⟨j, hj⟩ := List.mem_iff_getElem?.mp m
  have := n j a (List.getElem?_eq_some_iff.mp hj).1 hj
  rw [this] at h
  cases h
section
variable {P : Program} {w : World} {K : PySem.W.Frag} {mg : Str → Option Value} {base : Heap}
/-! ### is_had -/
def spIH (K : PySem.W.Frag) (CR CL : Addr) : Sp := fun vs H Q _ => ∃ (r l : Addr) (ls : List Int) (W : List Strd), vs = [.ref r, .ref l] ∧ RingAt K CR H r ls ∧ LineF CL H l W ∧ goodV ls.length W ∧ 0 < ls.length ∧ ∀ H', Same H H' → Q (.bl (hadN (netsW ls W))) H'
theorem scIH : FnScope ["ring", "lineup"] ["ring", "lineup"] (defScope sIsHad) := ⟨rfl, rfl, rfl, by decide +kernel, rfl, by decide +kernel, by decide +kernel⟩
theorem ok_ih {CR CL f fN fT : Addr} {fd fdN fdT : FuncData} (F : Fun K "is_had" "is_had" sIsHad f fd) (T : Bi mg)
    (NE : DefAt P w K mg base CX0 1 "nets_of" ["ring", "lineup"] (spNets K CR CL) fN fdN) (TG : DefAt P w K mg base CX0 1 "too_great" ["nets"] (spTG K) fT fdT) : FnOk P w K mg base CX0 2 f fd ["ring", "lineup"] (spIH K CR CL) := by
  refine F.ok scIH (fun vs H Q E h => ?_) (fun cdv A outer s H vs Q E hr h => ?_)
  · obtain ⟨r, l, ls, W, rfl, _⟩ := h
    rfl
  · refine ⟨_, pss_one (ps_ret (pe_cmpR op_isN (pe_call TG.ok (hr.mono (by decide)) rfl TG.g TG.kp TG.b .nil pass0 (pa_cons (pe_call NE.ok (hr.mono (by decide)) rfl NE.g NE.kp NE.b .nil pass0 (pa_cons (pv 0) (pa_cons (pv 1) pa_nil))) pa_nil)) pe_non (nomark _))), ?_⟩
    obtain ⟨r, l, ls, W, rfl, ra, lf, gw, l0, k⟩ := h
    have fit := good_fit gw
    have pos := good_pos gw l0
    have w8 := fit.1
    have nl : (netsW ls W).length = W.length := by
      unfold netsW
      rw [List.length_map]
    refine ⟨_, rfl, _, rfl, r, l, ls, W, rfl, ra, lf.w, fit, fun p H1 s1 np h1 => ?_⟩
    have h1 : H1 p = some (.lst ((netsW ls W).map V.int)) := h1
    refine ⟨p, netsW ls W, rfl, h1, by omega, by omega, netsW_nn ls W, fun e1 => ?_, fun e1 => ?_⟩
    · have z := k H1 s1
      rw [e1] at z
      exact ⟨rfl, z⟩
    · have z := k H1 s1
      rw [e1] at z
      exact ⟨rfl, z⟩
/-! ### first_signs -/
def spFS (K : PySem.W.Frag) (CR CL : Addr) : Sp := fun vs H Q _ => ∃ (r a : Addr) (ls : List Int) (xs : List V) (lot : List Int), vs = [.ref r, .ref a] ∧ RingAt K CR H r ls ∧ 3 ≤ ls.length ∧ ls.length ≤ 8 ∧ H a = some (.lst xs) ∧ TL H xs (onesL ls.length lot) ∧ Lot ls.length lot ∧ 1 ≤ lot.length ∧ Asc lot ∧
  ∀ t x g H', Same H H' → H' t = some (.tup [x, .ref g]) → ((hw ls lot = [] ∧ x = .non) ∨ ∃ wy u, (hw ls lot).head? = some wy ∧ x = .ref u ∧ LineF CL H' u (dueW wy)) → Q (.ref t) H'
abbrev nFS : List Str := ["ring", "lots", "great", "strands", "lineup", "at"]
theorem scFS : FnScope nFS ["ring", "lots"] (defScope sFirstSigns) := ⟨rfl, rfl, rfl, by decide +kernel, rfl, by decide +kernel, by decide +kernel⟩
theorem ok_fs {CR CL f fC fL fN fT : Addr} {fd fdC fdL fdN fdT : FuncData} (F : Fun K "first_signs" "first_signs" sFirstSigns f fd) (T : Bi mg) (LP : LineP P w K mg base CL fL fdL) (RL : LineC K mg CL) (CH : DefAt P w K mg base CX0 2 "choices" ["lots"] spCh fC fdC)
    (NE : DefAt P w K mg base CX0 1 "nets_of" ["ring", "lineup"] (spNets K CR CL) fN fdN) (TG : DefAt P w K mg base CX0 1 "too_great" ["nets"] (spTG K) fT fdT) : FnOk P w K mg base CX0 7 f fd ["ring", "lots"] (spFS K CR CL) := by
  refine F.ok scFS (fun vs H Q E h => ?_) (fun cdv A outer s H vs Q E hr h => ?_)
  · obtain ⟨r, a, ls, xs, lot, rfl, _⟩ := h
    rfl
  · have nd := scFS.nd
    refine ⟨_, pss_cons (ps_set (i := 2) nd rfl (Or.inl rfl) (pe_lst pa_nil))
      (pss_cons (ps_for PassesOwn.never rfl (pi_list (pe_call CH.ok (hr.mono (by decide)) rfl CH.g CH.kp CH.b .nil pass0 (pa_cons (pv 1) pa_nil))) (pg_name (i := 3) nd rfl (Or.inl rfl))
        (pss_cons (ps_set (i := 4) nd rfl (Or.inl rfl) (pe_make LP.made LP.ok (hr.mono (by decide)) (by rfl) RL.g LP.b .nil pass0 (pa_cons (pv 3) pa_nil)))
        (pss_cons (ps_set (i := 5) nd rfl (Or.inl rfl) (pe_call TG.ok (hr.mono (by decide)) rfl TG.g TG.kp TG.b .nil pass0 (pa_cons (pe_call NE.ok (hr.mono (by decide)) rfl NE.g NE.kp NE.b .nil pass0 (pa_cons (pv 0) (pa_cons (pv 4) pa_nil))) pa_nil)))
        (pss_cons (ps_if (pt_cmpR op_isN (pv 5) pe_non (nomark _)) (pss_one (ps_ret (pe_tup (pa_cons (pv 4) (pa_cons (pv 2) pa_nil))))) pss_nil)
        (pss_one (ps_expr (pe_bm PySem.F.plainAttrs_list PySem.F.slot_list_append PySem.F.type_list_append mt_append (pv 2) (pa_cons (pe_ix (r := rIxT K) ix_tup (pe_fld (pv 4) rfl) (pv 5) (fun _ _ => rfl)) pa_nil))))))))
      (pss_one (ps_ret (pe_tup (pa_cons pe_non (pa_cons (pv 2) pa_nil)))))), ?_⟩
    obtain ⟨r, a, ls, xs, lot, rfl, ra, l3, l8, ha, tl, lt, k1, asc, k⟩ := h
    refine ⟨(by show 0 ≤ sizeLine; decide), fun g ng => ?_⟩
    have s1 : Same H (upd H g (.lst [])) := (Same.refl H).new ng
    have hg : upd H g (.lst []) g = some (.lst []) := upd_same
    generalize upd H g (.lst []) = H1 at s1 hg ⊢
    refine ⟨_, rfl, a, xs, ls.length, lot, rfl, s1 _ _ ha, tl.same s1, lt, k1, l8, asc, fun p ys H2 s2 np hp py => ⟨p, rfl, ⟨_, SqL.of hp⟩, ?_⟩⟩
    have s02 := s1.trans s2
    have yl : ys.length ≤ 128 := by
      rw [par_len py]
      unfold waysL
      rw [List.length_map, sgnR_length]
      have := lot_len lt
      exact Nat.pow_le_pow_right (by decide) (show lot.length - 1 ≤ 7 by omega)
    have way : ∀ w ∈ waysL ls.length lot, goodV ls.length w := fun w m => by
      unfold waysL at m
      obtain ⟨row, hr, rfl⟩ := List.mem_map.mp m
      exact wayL_good l8 lt k1 hr
    have gp : p ≠ g := fun z => by
      rw [z, hg] at np
      cases np
    have Ng : H1 g ≠ none := fun z => by rw [hg] at z; cases z
    refine for_list (K := K) (a := p) (xs := ys) (fun i σ H' => ∃ (gs : List V) (z3 z4 z5 : Option V), σ = [some (.ref r), some (.ref a), some (.ref g), z3, z4, z5] ∧ Same H H' ∧ H' p = some (.lst ys) ∧ Paired (LWyN (fun a => H1 a ≠ none) H') ys (waysL ls.length lot) ∧ H' g = some (.lst gs) ∧ gs.length ≤ i ∧ ∀ (j : Nat) y, j < i → (waysL ls.length lot)[j]? = some y → hadW ls y = false)
      ⟨[], none, none, none, rfl, s02, hp, py, s2 _ _ hg, Nat.le_refl _, fun j _ hj => absurd hj (Nat.not_lt_zero _)⟩ (fun i σ H' _ ⟨_, _, _, _, _, _, q, _⟩ => SqL.of q) ?_ ?_
    · rintro i x σ H3 hi ⟨gs, z3, z4, z5, rfl, s3, hp3, py3, hg3, gl, no⟩
      obtain ⟨wy, hwy, lw⟩ := par_get py3 hi
      have gw := way wy (List.mem_of_getElem? hwy)
      have il : i < ys.length := (List.getElem?_eq_some_iff.mp hi).1
      refine ⟨_, rfl, madeU lw.wy gw l3 l8 fun u H4 lf s4 => ⟨rfl, ?_⟩⟩
      have gd := due_good gw
      have fit := good_fit gd
      have pos := good_pos gd (by omega)
      have w8 := fit.1
      have nl : (netsW ls (dueW wy)).length = (dueW wy).length := by
        unfold netsW
        rw [List.length_map]
      refine ⟨_, rfl, _, rfl, r, u, ls, dueW wy, rfl, ra.same (s3.trans s4), lf.w, fit, fun q H5 s5 nq h5 => ?_⟩
      have h5 : H5 q = some (.lst ((netsW ls (dueW wy)).map V.int)) := h5
      have lf5 := lf.same s5
      have s35 := s4.trans s5
      refine ⟨q, netsW ls (dueW wy), rfl, h5, by omega, by omega, netsW_nn _ _, fun e1 => ?_, fun e1 => ?_⟩
      · refine ⟨_, rfl, rfl, _, rfl, iteDT rfl ?_⟩
        refine ⟨_, rfl, _, rfl, (by show 2 ≤ sizeLine; decide), fun t nt => ?_⟩
        have s6 : Same H5 (upd H5 t (.tup [.ref u, .ref g])) := (Same.refl H5).new nt
        have ht : upd H5 t (.tup [.ref u, .ref g]) t = some (.tup [.ref u, .ref g]) := upd_same
        generalize upd H5 t (.tup [.ref u, .ref g]) = H6 at s6 ht ⊢
        rw [had_due gw] at e1
        refine k t _ g H6 ((s3.trans s35).trans s6) ht (.inr ⟨wy, u, ?_, rfl, lf5.same s6⟩)
        exact head_filter hwy e1 no
      · obtain ⟨lt1, _⟩ := atN_lt e1
        refine ⟨_, rfl, rfl, _, rfl, iteDF (fun z => nomatch z) ?_⟩
        obtain ⟨dl, t2, l2, zs, nn, hl1, en, sw, hl2, px⟩ := id lf5
        obtain ⟨y, hy, la⟩ := lot_at (i := atN (netsW ls (dueW wy))) px (by omega)
        have hg5 := s35 _ _ hg3
        refine ⟨_, rfl, .inl ⟨rfl, _, SqL.of hg5⟩, _, rfl, u, CL, dl, _, _, rfl, hl1, RL.cl, RL.nL, rfl, _, rfl, l2, zs, (atN (netsW ls (dueW wy)) : Nat), y, rfl, rfl, .inl (.inl hl2), atI_nat hy, g, gs, _, rfl, rfl, hg5, szl (by omega), ?_⟩
        have s3' := (s3.trans s35).mut ng (o := .lst (gs ++ [y]))
        rw [had_due gw] at e1
        refine ⟨gs ++ [y], _, _, _, rfl, s3', by rw [upd_ne gp]; exact s35 _ _ hp3, par_imp (fun _ _ z => (z.same s35).mut Ng hg5) py3, upd_same, by rw [List.length_append]; exact Nat.succ_le_succ gl, fun j y hj hy => ?_⟩
        by_cases c : j = i
        · subst c
          rw [hwy] at hy
          cases hy
          exact e1
        · exact no j y (by omega) hy
    · rintro σ H3 ⟨gs, z3, z4, z5, rfl, s3, hp3, py3, hg3, gl, no⟩
      refine ⟨_, rfl, (by show 2 ≤ sizeLine; decide), fun t nt => ?_⟩
      have s4 : Same H3 (upd H3 t (.tup [.non, .ref g])) := (Same.refl H3).new nt
      have ht : upd H3 t (.tup [.non, .ref g]) t = some (.tup [.non, .ref g]) := upd_same
      generalize upd H3 t (.tup [.non, .ref g]) = H4 at s4 ht ⊢
      refine k t _ g H4 (s3.trans s4) ht (.inl ⟨filter_none fun j y hj hy => no j y (by rw [par_len py3]; exact hj) hy, rfl⟩)
end
end K
namespace K
open PySem L2 Rg LamX
open Evl (pss_cut)
/-! ### the order of the program's lots -/
theorem lotN_lt (a b : List Int) : PySem.W.dataLt (lotKeyN a) (lotKeyN b) = HT.lexLt (lotKN a) (lotKN b) := by
  unfold lotKeyN lotKN
  rw [PySem.W.dataLt_pair (by simp [PySem.W.alike]) (by simp [PySem.W.alike, PySem.W.alike_ints]), HT.lexLt_cons, PySem.W.dataLt_int, PySem.W.dataLt_tuple, ints_lt]
  by_cases e : -(a.length : Int) = -(b.length : Int)
  · rw [if_pos (by simp only [PyData.eqv]; exact beq_iff_eq.mpr e), if_pos e]
    by_cases c : a = b
    · subst c
      rw [if_pos (by simp [PyData.eqv, Rg.eqvA_ints8])]
      rw [← ints_lt]
      exact (PyProof.Rows.lex_irrefl _).symm
    · rw [if_neg (by simp [PyData.eqv, Rg.eqvA_ints8, c])]
  · rw [if_neg (by simp only [PyData.eqv]; exact fun z => e (eq_of_beq z)), if_neg e]
theorem lotLeN_iff {u v : List Int} : lotLeN u v = true ↔ NLe u v := by
  unfold lotLeN NLe
  rw [lotN_lt]
  cases HT.lexLt (lotKN v) (lotKN u) <;> simp
theorem AllL.first {n : Nat} {L : List (List Int)} (a : AllL n L) : ∃ M, L = [] :: M := by
  have m := a.pm.mem_iff.mpr (lotsN_nil n)
  cases L with
  | nil => cases m
  | cons x M =>
    refine ⟨M, ?_⟩
    rcases List.mem_cons.mp m with e | e
    · rw [← e]
    · have h := (List.pairwise_cons.mp a.od).1 [] e
      unfold LLe lotK at h
      rw [HT.lexLt_cons] at h
      by_cases c : (([] : List Int).length : Int) = (x.length : Int)
      · have : x = [] := List.eq_nil_of_length_eq_zero (by simp at c; omega)
        rw [this]
      · rw [if_neg c] at h
        have h2 := of_decide_eq_false h
        rw [show (([] : List Int).length : Int) = 0 from rfl] at h2 c
        omega
theorem nil_one : ∀ n, ((lotsN n).filter fun l => decide (l = [])) = [[]]
  | 0 => rfl
  | n + 1 => by
    rw [lotsN_succ, List.filter_append, nil_one n]
    have : (((lotsN n).map (· ++ [(n : Int)])).filter fun l => decide (l = [])) = [] := by
      rw [List.filter_eq_nil_iff]
      intro a m z
      obtain ⟨l, _, rfl⟩ := List.mem_map.mp m
      have := of_decide_eq_true z
      simp at this
    rw [this]
    rfl
theorem AllL.rest {n : Nat} {M : List (List Int)} (a : AllL n ([] :: M)) : M.Perm ((lotsN n).filter fun l => decide (l ≠ [])) := by
  have p1 := a.pm.filter fun l => decide (l = [])
  rw [nil_one, List.filter_cons_of_pos (by simp)] at p1
  have e1 : (M.filter fun l => decide (l = [])) = [] := by
    have := p1.length_eq
    simp only [List.length_cons, List.length_nil] at this
    exact List.eq_nil_of_length_eq_zero (by omega)
  have p2 := a.pm.filter fun l => decide (l ≠ [])
  rw [List.filter_cons_of_neg (by simp)] at p2
  have e2 : (M.filter fun l => decide (l ≠ [])) = M := by
    rw [List.filter_eq_self]
    intro l m
    rw [List.filter_eq_nil_iff] at e1
    exact decide_eq_true fun z => e1 l m (decide_eq_true z)
  rw [e2] at p2
  exact p2
theorem find_head {α β : Type} {f : α → List β} : ∀ {L : List α} {i : Nat} {x : α} {b : β}, L[i]? = some x → (f x).head? = some b → (∀ (j : Nat) y, j < i → L[j]? = some y → f y = []) → (L.flatMap f).head? = some b
  | a :: L, 0, x, b, e, h, _ => by
    cases e
    rw [List.flatMap_cons, List.head?_append, h]
    rfl
  | a :: L, i + 1, x, b, e, h, n => by
    rw [List.flatMap_cons, n 0 a (Nat.succ_pos _) rfl, List.nil_append]
    exact find_head (by simpa using e) h fun j y hj hy => n (j + 1) y (by omega) (by simpa using hy)
theorem flat_nil {α β : Type} {f : α → List β} {L : List α} (n : ∀ (j : Nat) y, j < L.length → L[j]? = some y → f y = []) : L.flatMap f = [] := by
  rw [List.flatMap_eq_nil_iff]
  intro a m
  obtain ⟨j, hj⟩ := List.mem_iff_getElem?.mp m
  exact n j a (List.getElem?_eq_some_iff.mp hj).1 hj
theorem RingAt.ext {K : PySem.W.Frag} {C : Addr} {H H' : Hp} {r : Addr} {ls : List Int} (h : RingAt K C H r ls) (s : ExtN H H') : RingAt K C H' r ls := by
  obtain ⟨dx, t, h1, h2, o, h3, h4⟩ := h
  refine ⟨dx, t, s _ _ h1 (fun _ z => nomatch z), ?_, o, s _ _ h3 (fun _ z => nomatch z), h4⟩
  rcases h2 with (z | ⟨o, z⟩) | z
  · exact .inl (.inl (s _ _ z (fun _ z => nomatch z)))
  · exact .inl (.inr ⟨o, s _ _ z (fun _ z => nomatch z)⟩)
  · exact .inr z
theorem slL1 (xs : List V) : cutV xs (some 1) none = xs.drop 1 := cut_from xs (k := 1) rfl
section
variable {P : Program} {w : World} {K : PySem.W.Frag} {mg : Str → Option Value} {base : Heap}
theorem FunC.okX {x qual : Str} {st : Stmt} {f c : Addr} {fd : FuncData} {N ps : List Str} {k : Nat} {sp : Sp} (F : FunC K x qual st f fd c) (S : FnScope N ps (defScope st)) (len : ∀ vs H Q E, sp vs H Q E → vs.length = ps.length)
    (hbody : ∀ (A : Around) (outer : List Env) (s : Shared) (H : Hp) (vs : List V) (Q : VK) (E : XK), Room k (A.deeper (PyProof.Rows.envOfC qual (defScope st) s.heap.objs.size f (.ref c))) → sp vs H Q E →
      ∃ t, PSs (cxOf (L2.CX P w) P w K mg base N qual (defScope st) f (.ref c) A outer s H E) (defBody st) t ∧ t { nx := fun _ H' => Q .non H', rt := Q } (L2.start N vs) H) : FnOk P w K mg base (L2.CX P w) (k + 1) f fd ps sp := by
  obtain ⟨oc, od, kV, doc, pm, an, ct, osl, rfl, lk, hcd⟩ := F.ex
  exact fn_of lk hcd S len fun A outer s H vs Q E hr hsp => hbody A outer s H vs Q E hr hsp
/-! ### most_on_one -/
/-- a ring that closes, or the error that is due -/
def AskC (K : PySem.W.Frag) (CR cR cT : Addr) (T : List (Addr × Str)) (H : Hp) (E : XK) (v : V) (q : Addr → List Int → Prop) : Prop :=
  (∃ (r : Addr) (ls : List Int), v = .ref r ∧ RingAt K CR H r ls ∧ 3 ≤ ls.length ∧ ls.length ≤ 8 ∧ Bd 1000000 ls ∧ Tabs T H ∧ ((closesB ls = true ∧ q r ls) ∨ (closesB ls = false ∧ ∀ j : Nat, FirstL ls j → Errs E cT "bar" (.int (j : Nat)) H))) ∨ (NoR K CR H v ∧ Errs E cR "part" (.str "ring") H)
def spMO (K : PySem.W.Frag) (CR CL CM cR cT : Addr) (T : List (Addr × Str)) : Sp := fun vs H Q E => ∃ v : V, vs = [v] ∧ AskC K CR cR cT T H E v fun r ls =>
  ∀ q H' wy, ExtN H H' → Tabs T H' → MostR CM CL H' q (dueW wy) → (wide ls (mostK ls)).head? = some wy → Q (.ref q) H'
abbrev nMO : List Str := ["ring", "lots", "found", "alone", "bar"]
theorem scMO : FnScope nMO ["ring"] (defScope sMostOnOne) := ⟨rfl, rfl, rfl, by decide +kernel, rfl, by decide +kernel, by decide +kernel⟩
theorem ok_mo {CR CL CM cR cT cd P0 P1 P2 f fW fO fS fIM fN : Addr} {fd fdW fdO fdS fdIM fdN : FuncData} (F : FunC K "most_on_one" "most_on_one" sMostOnOne f fd cd) (T : Bi mg) (TB : TabB base mg cd P0) (hmT : (P0, qMo) ∈ T2 P0 P1 P2) (hu : ∀ p ∈ T2 P0 P1 P2, p.1 = P0 → p.2 = qMo) (RC : MostC K mg CM) (MP : MostP P w K mg base CM CL fIM fdIM)
    (WC : DefAt P w K mg base (L2.CX P w) 5 "want_closed" ["ring"] (spWC K CR cR cT) fW fdW) (LO : DefAt P w K mg base CX0 4 "lots_of" ["many"] (spLotsOf K (T2 P0 P1 P2)) fO fdO) (FS : DefAt P w K mg base CX0 7 "first_signs" ["ring", "lots"] (spFS K CR CL) fS fdS)
    (NM : Meth K CR "__len__" fN) (NL : FnOk P w K mg base CX0 1 fN fdN ["self"] (spRLen K CR)) (NB : Binds K fdN ["self"] []) : FnOk P w K mg base (L2.CX P w) 8 f fd ["ring"] (spMO K CR CL CM cR cT (T2 P0 P1 P2)) := by
  refine F.okX scMO (fun vs H Q E h => ?_) (fun A outer s H vs Q E hr h => ?_)
  · obtain ⟨v, rfl, _⟩ := h
    rfl
  · have nd := scMO.nd
    refine ⟨_, pss_cons (ps_expr (pe_call WC.ok (hr.mono (by decide)) rfl WC.g WC.kp WC.b .nil (passes_call (takes_of rfl rfl rfl rfl) (fun _ _ _ _ h => h)) (pa_cons (pv 0) pa_nil)))
      (pss_cons (ps_set (i := 1) nd rfl (Or.inr rfl) (pe_sortLotsN hr.depth hr.units (by rfl) T.sorted T.len (pe_slice sl_tupA (pe_call LO.ok (hr.mono (by decide)) rfl LO.g LO.kp LO.b .nil pass0 (pa_cons (pe_callB (call_lenO NL (hr.mono (by decide)) NB) (by rfl) T.len PySem.boot_len (pa_cons (pv 0) pa_nil)) pa_nil)) (po_some pe_int) po_none) TB rfl hmT hu rfl rfl rfl rfl (by decide +kernel) rfl rfl rfl (fun _ _ _ _ _ => rfl)))
      (pss_cons (ps_set (i := 2) nd rfl (Or.inl rfl) pe_non)
      (pss_cons (ps_while (passes_of rfl) (pt_cmpR op_isN (pv 2) pe_non (nomark _))
        (pss_cons (ps_setLc (i := 3) (own := [("bar", 4)]) (g := gName 4) (tt := tTest (tOp (rIn K true) (tVar 4) (tOp (rIxL K) (tVar 1) (tC (.int 0))))) (te := tTup (tCons (tVar 4) tNil)) rfl nd rfl rfl (sw_true rfl rfl rfl (by decide +kernel)) (pi_range1 (by rfl) T.range (pa_cons (pe_callB (call_lenO NL (hr.mono (by decide)) NB) (by rfl) T.len PySem.boot_len (pa_cons (pv 0) pa_nil)) pa_nil)) (blkOk_by (N := nMO) (sc := defScope sMostOnOne) (by decide +kernel)) (fun _ _ _ _ _ => pg_name (i := 4) nd rfl (Or.inl rfl)) (fun _ _ _ _ _ => pts_one (pt_cmpR op_notIn_seq (pv 4) (pe_ix (r := rIxL K) ix_list (pv 1) pe_int (fun _ _ => rfl)) (by rfl))) (fun _ _ _ _ _ => pe_tup (pa_cons (pv 4) pa_nil)))
        (pss_cons (ps_set (i := 2) nd rfl (Or.inl rfl) (pe_ix (r := rIxT K) ix_tup (pe_call FS.ok (hr.mono (by decide)) rfl FS.g FS.kp FS.b .nil pass0 (pa_cons (pv 0) (pa_cons (pe_op op_cat (pe_lst (pa_cons (pe_ix (r := rIxL K) ix_list (pv 1) pe_int (fun _ _ => rfl)) pa_nil)) (pv 3)) pa_nil))) pe_int (fun _ _ => rfl)))
        (pss_one (ps_set (i := 1) nd rfl (Or.inr rfl) (pe_slice sl_list (pv 1) (po_some pe_int) po_none))))))
      (pss_one (ps_ret (pe_make MP.made MP.ok (hr.mono (by decide)) (by rfl) RC.g MP.b .nil pass0 (pa_cons (pv 2) pa_nil))))))), ?_⟩
    obtain ⟨v, rfl, ask⟩ := h
    rcases ask with ⟨r, ls, rfl, ra, l3, l8, bd, tab, ask⟩ | ⟨no, er⟩
    · rcases ask with ⟨cl, q⟩ | ⟨cl, er⟩
      · refine ⟨_, rfl, _, rfl, .inl ⟨r, ls, rfl, ra, by omega, .inl ⟨cl, ?_⟩⟩⟩
        obtain ⟨dx, t, hr0, ht⟩ := id ra.weak
        refine ⟨_, rfl, r, CR, dx, _, rfl, hr0, NM.at_, NM.fn, r, ls, rfl, ra.weak, _, rfl, by omega, by omega, ?_⟩
        refine ⟨ls.length, rfl, by omega, l8, tab, fun p xs kf H1 e1 tab1 hp la pm pw => ⟨_, rfl, ?_⟩⟩
        dsimp only [tNoPart]
        refine slFromZ (i := 1) rfl hp fun c H2 hc s2 => ?_
        have aL : AllL ls.length (xs.map kf) := AllL.of_lots pm pw
        obtain ⟨M, eM⟩ := aL.first
        have eM1 : (xs.drop 1).map kf = M := by rw [List.map_drop, eM]; rfl
        rw [eM] at aL
        have la2 : ∀ x ∈ xs, ∃ t, x = V.ref t ∧ H2 t = some (.tup ((kf x).map V.int)) := fun x hx => let ⟨t, e, z⟩ := la x hx; ⟨t, e, s2 _ _ z⟩
        refine ⟨c, xs.drop 1, kf, rfl, .inl (.inl hc), fun x hx => la2 x (List.mem_of_mem_drop hx), tab1.ext s2, fun H3 L0 ys e3 tab3 pm3 pw3 nL0 => ?_⟩
        have aN : AllN ls.length (ys.map kf) := by
          refine ⟨(pm3.map kf).trans (by rw [eM1]; exact aL.rest), List.pairwise_map.mpr (pw3.imp fun h => lotLeN_iff.mp h)⟩
        have la3 : ∀ x ∈ ys, ∃ t, x = V.ref t ∧ H3 t = some (.tup ((kf x).map V.int)) := fun x hx => let ⟨t, e, z⟩ := la2 x (List.mem_of_mem_drop (pm3.mem_iff.mp hx)); ⟨t, e, e3 _ _ z (fun _ z => nomatch z)⟩
        have yl : ys.length ≤ 256 := by
          have e1 := pm3.length_eq
          have e2 := pm.length_eq
          rw [List.length_map, lotsN_length] at e2
          rw [e1, List.length_drop, e2]
          have : 2 ^ ls.length ≤ 2 ^ 8 := Nat.pow_le_pow_right (by decide) l8
          omega
        have srch := search aN l3 l8 bd cl
        have wne := wide_most l3 l8 bd cl
        have e13 : ExtN H H3 := (e1.trans (ExtN.of s2)).trans e3
        have s4 : Same H3 (upd H3 L0 (.lst ys)) := (Same.refl H3).new nL0
        have hL0 : upd H3 L0 (.lst ys) L0 = some (.lst ys) := upd_same
        generalize upd H3 L0 (.lst ys) = H4 at s4 hL0 ⊢
        have e14 := e13.trans (ExtN.of s4)
        refine ⟨fun m σ H' => ∃ (l : Addr) (z3 z4 : Option V), ExtN H H' ∧ Tabs (T2 P0 P1 P2) H' ∧ (∀ x ∈ ys, ∃ t, x = V.ref t ∧ H' t = some (.tup ((kf x).map V.int))) ∧
          ((∃ i, σ = [some (.ref r), some (.ref l), some .non, z3, z4] ∧ H' l = some (.lst (ys.drop i)) ∧ i ≤ ys.length ∧ (∀ (j : Nat) y, j < i → (ys.map kf)[j]? = some y → hw ls y = []) ∧ m = ys.length + 1 - i) ∨
           (∃ u wy, σ = [some (.ref r), some (.ref l), some (.ref u), z3, z4] ∧ ((ys.map kf).flatMap (hw ls)).head? = some wy ∧ LineF CL H' u (dueW wy) ∧ m = 0)),
          ⟨_, L0, none, none, e14, tab3.ext s4, fun x hx => let ⟨t, e, z⟩ := la3 x hx; ⟨t, e, s4 _ _ z⟩, .inl ⟨0, rfl, hL0, Nat.zero_le _, fun j _ hj => absurd hj (Nat.not_lt_zero _), rfl⟩⟩, ?_⟩
        rintro m σ H5 ⟨l, z3, z4, e5, tab5, la5, ⟨i, rfl, h5, i5, no, rfl⟩ | ⟨u, wy, rfl, hd, lf, rfl⟩⟩
        · refine ⟨_, rfl, rfl, _, rfl, iteDT rfl ?_⟩
          have ilt : i < ys.length := by
            by_cases c : i < ys.length
            · exact c
            · have z : (ys.map kf).flatMap (hw ls) = [] := flat_nil fun j y hj hy => no j y (by rw [List.length_map] at hj; omega) hy
              rw [z] at srch
              cases q : wide ls (mostK ls) with
              | nil => exact absurd q wne
              | cons a b => rw [q] at srch; cases srch
          obtain ⟨y0, hy0⟩ : ∃ y0, ys[i]? = some y0 := ⟨_, List.getElem?_eq_getElem ilt⟩
          have hd0 : (ys.drop i)[0]? = some y0 := by rw [List.getElem?_drop]; exact hy0
          obtain ⟨a0, rfl, ha0⟩ := la5 y0 (List.mem_of_getElem? hy0)
          have hk0 : (ys.map kf)[i]? = some (kf (.ref a0)) := by rw [List.getElem?_map, hy0]; rfl
          have lm := aN.len (List.mem_of_getElem? hk0)
          have lN : kf (.ref a0) ∈ lotsN ls.length := (List.mem_filter.mp (aN.pm.mem_iff.mp (List.mem_of_getElem? hk0))).1
          generalize kf (.ref a0) = lot at ha0 hk0 lm lN
          have ra5 := ra.ext e5
          obtain ⟨dx5, t5, hr5, _⟩ := id ra5.weak
          refine ⟨_, fun σ' H' h => h, ?_⟩
          refine ⟨_, rfl, r, CR, dx5, _, rfl, hr5, NM.at_, NM.fn, r, ls, rfl, ra5.weak, _, rfl, by omega, by omega, _, rfl, by omega, by omega, fun D hD => ?_⟩
          refine lc_range (lo := 0) (n := ((ls.length : Nat) : Int).toNat) (fun j H' => Same H5 H' ∧ ∃ us, H' D = some (.lst us) ∧ TL H' us ((restN ls.length lot j).map fun b => [b])) ⟨(Same.refl H5).new hD, [], upd_same, .nil⟩ ?_ ?_
          · rintro j H6 hj ⟨s6, us, h6, tl6⟩
            rw [Int.zero_add]
            refine ⟨rfl, _, rfl, _, rfl, l, _, _, _, rfl, rfl, SqL.of (s6 _ _ h5), at_of (j := 0) rfl hd0, a0, _, rfl, .inr (.inl (.inl (s6 _ _ ha0))), rfl, flat_ints _, _, rfl, ?_⟩
            have eb : inV (.int (j : Int)) (lot.map V.int) = hasB lot j := inV_int _ _
            show (if (!inV (.int (j : Int)) (lot.map V.int)) = true then _ else _)
            rw [eb]
            cases e : hasB lot j with
            | true => exact iteF ⟨s6, us, h6, by rw [rest_out e]; exact tl6⟩
            | false =>
              refine iteT ⟨_, rfl, (by show 1 ≤ sizeLine; decide), fun b nb => ?_⟩
              have h6b : upd H6 b (.tup [.int (j : Int)]) D = some (.lst us) := by rw [upd_ne (ne_of_none h6 nb)]; exact h6
              refine ⟨us, h6b, ?_, (s6.new nb).mut hD, _, upd_same, ?_⟩
              · have := rest_len (n := ls.length) (ns := lot) (i := j)
                rw [par_len tl6, List.length_map]
                exact sm (by omega)
              · rw [rest_in e, List.map_append]
                have nbD : b ≠ D := fun z => by rw [z, h6] at nb; cases nb
                refine par_app (TL.mut (tl6.same ((Same.refl H6).new nb)) h6b) (.cons ⟨b, rfl, by rw [upd_ne nbD, upd_same]; rfl⟩ .nil)
          · rintro H6 ⟨s6, us, h6, tl6⟩
            rw [Int.toNat_natCast] at tl6
            have h56 := s6 _ _ h5
            have asc := lotsN_asc _ _ lN
            have rl := rest_length lm.1
            have ul : us.length ≤ 8 := by
              rw [par_len tl6, List.length_map]
              omega
            refine ⟨_, rfl, _, rfl, l, _, _, _, rfl, rfl, SqL.of h56, at_of (j := 0) rfl hd0, (by show 1 ≤ sizeLine; decide), fun b nb => ?_⟩
            have s7 : Same H6 (upd H6 b (.lst [.ref a0])) := (Same.refl H6).new nb
            have h7 : upd H6 b (.lst [.ref a0]) b = some (.lst [.ref a0]) := upd_same
            generalize upd H6 b (.lst [.ref a0]) = H7 at s7 h7 ⊢
            refine ⟨_, rfl, b, D, [.ref a0], us, rfl, rfl, h7, s7 _ _ h6, (by show 1 + us.length ≤ sizeLine; exact Nat.le_of_lt (sm (by omega))), fun g ng => ?_⟩
            have s8 : Same H7 (upd H7 g (.lst ([.ref a0] ++ us))) := (Same.refl H7).new ng
            have h8 : upd H7 g (.lst ([.ref a0] ++ us)) g = some (.lst ([.ref a0] ++ us)) := upd_same
            generalize upd H7 g (.lst ([.ref a0] ++ us)) = H8 at s8 h8 ⊢
            have s58 := (s6.trans s7).trans s8
            have tlA : TL H8 ([.ref a0] ++ us) (onesL ls.length lot) := .cons ⟨a0, rfl, s58 _ _ ha0⟩ ((tl6.same s7).same s8)
            refine ⟨r, g, ls, _, lot, rfl, ra5.same s58, l3, l8, h8, tlA, lm.1, lm.2.1, asc, fun t x gg H9 s9 ht res => ?_⟩
            refine ⟨t, _, 0, x, rfl, rfl, .inl (.inl ht), rfl, ?_⟩
            have s59 := s58.trans s9
            refine ⟨_, rfl, _, rfl, l, _, rfl, SqL.of (s59 _ _ h5), fun c1 nc1 => ?_⟩
            rw [slL1, List.drop_drop]
            have s5c := s59.new nc1 (o := .lst (ys.drop (i + 1)))
            have e5c := e5.trans (ExtN.of s5c)
            have la5c : ∀ x ∈ ys, ∃ t, x = V.ref t ∧ upd H9 c1 (.lst (ys.drop (i + 1))) t = some (.tup ((kf x).map V.int)) := fun x hx => let ⟨t, e, z⟩ := la5 x hx; ⟨t, e, s5c _ _ z⟩
            rcases res with ⟨hn, rfl⟩ | ⟨wy, u, hh, rfl, lf⟩
            · refine ⟨ys.length + 1 - (i + 1), by omega, c1, _, _, e5c, tab5.ext s5c, la5c, .inl ⟨i + 1, rfl, upd_same, by omega, fun j y hj hy => ?_, rfl⟩⟩
              by_cases c : j = i
              · subst c
                rw [hk0] at hy
                cases hy
                exact hn
              · exact no j y (by omega) hy
            · exact ⟨0, by omega, c1, _, _, e5c, tab5.ext s5c, la5c, .inr ⟨u, wy, rfl, find_head hk0 hh no, lf.same ((Same.refl H9).new nc1), rfl⟩⟩
        · refine ⟨_, rfl, rfl, _, rfl, iteDF (fun z => nomatch z) ?_⟩
          refine ⟨_, rfl, madeM lf fun x H6 s6 pg => ⟨rfl, ?_⟩⟩
          rw [srch] at hd
          exact q x H6 wy (e5.trans (ExtN.of s6)) (tab5.ext s6) ⟨u, pg, lf.same s6⟩ hd
      · exact ⟨_, rfl, _, rfl, .inl ⟨r, ls, rfl, ra, by omega, .inr ⟨cl, er⟩⟩⟩
    · exact ⟨_, rfl, _, rfl, .inr ⟨no, er⟩⟩
end
end K
namespace Rg
open PySem PySem.Spec PyProof.Rows L2
/-! ### x != y of two tuples that hold one and the same thing -/
section
variable {X : Cx}
def rNeS1 (K : PySem.W.Frag) : R2 := fun x y H Q => ∃ a b u : Addr, x = .ref a ∧ y = .ref b ∧ SqT K H a [.ref u] ∧ SqT K H b [.ref u] ∧ Q (.bl false) H
theorem op_neS1 (hu : X.A.units + 64 < cLine) : OpR X (compareOp .NotEq) (rNeS1 X.K) := by
  intro pins s σ H x y v u Q I rx ry ⟨a, b, r, ex, ey, ha, hb, q⟩
  subst ex ey
  cases rx
  cases ry
  obtain ⟨its, r1, t1, z1⟩ := I.tuple ha
  obtain ⟨its2, r2, t2, z2⟩ := I.tuple hb
  rw [Vals.ref1 r1] at t1
  rw [Vals.ref1 r2] at t2
  show wpAny (model X.prog X.w) X.A (richCompare .NotEq (.ref a) (.ref b)) (EP X pins σ Q) X.xe s
  have z := SeqAt.RcNeAt.tuples (A := X.A) (e := fun _ => true) (isTuple_of t1) (isTuple_of t2) (by omega) (fun j h1 h2 => by
    have j0 : j = 0 := by
      have : j < 1 := h1
      omega
    subst j0
    exact SeqAt.EqAt.same _)
  exact z X.prog X.w X.xe _ ⟨.bl false, H, I, rfl, q⟩
end
end Rg
namespace K
open PySem L2 Rg LamX
open Evl (pss_cut)
theorem atm_good {v : V} {d : PyData} (h : Atm v d) : d.canLay0 = true ∧ d.depth = 0 ∧ PyData.eqv d d = true := by
  rcases h with ⟨i, _, rfl⟩ | ⟨_, rfl⟩ | ⟨z, _, rfl⟩
  · exact ⟨by simp [PyData.canLay0], by simp [PyData.depth], by simp [PyData.eqv]⟩
  · exact ⟨by simp [PyData.canLay0], by simp [PyData.depth], by simp [PyData.eqv]⟩
  · exact ⟨by simp [PyData.canLay0, z.2], by simp [PyData.depth], by simp [PyData.eqv]⟩
theorem fv_good {H : Hp} {f : Bool} : ∀ {n : Nat} {v : V} {d : PyData}, FV H f n v d → d.canLay0 = true ∧ d.depth ≤ n ∧ PyData.eqv d d = true
  | 0, v, d, h => by
    obtain ⟨a, b, c⟩ := atm_good h
    exact ⟨a, by omega, c⟩
  | n + 1, v, d, h => by
    rcases h with h | ⟨a, xs, ds, _, ha, rfl, hl, p⟩
    · obtain ⟨a, b, c⟩ := atm_good h
      exact ⟨a, by omega, c⟩
    · clear ha hl
      have go : PyData.canLayAll0 ds = true ∧ PyData.depthAll ds ≤ n ∧ PyData.eqvAll ds ds = true := by
        induction p with
        | nil => exact ⟨by simp [PyData.canLayAll0], by simp [PyData.depthAll], by simp [PyData.eqvAll]⟩
        | cons h t ih =>
          obtain ⟨b1, b2, b3⟩ := fv_good h
          obtain ⟨c1, c2, c3⟩ := ih
          exact ⟨by simp [PyData.canLayAll0, b1, c1], by simp only [PyData.depthAll]; omega, by simp [PyData.eqvAll, b3, c3]⟩
      obtain ⟨c1, c2, c3⟩ := go
      exact ⟨by simp [PyData.canLay0, c1], by simp only [PyData.depth]; omega, by simp [PyData.eqv, c3]⟩
theorem fv_shaped {H : Hp} {f : Bool} {n : Nat} {v : V} {d : PyData} (h : FV H f n v d) (hn : n ≤ 64) : SeqAt.shaped d = true := by
  obtain ⟨a, b, _⟩ := fv_good h
  simp [SeqAt.shaped, a]
  omega
theorem fv_dp {K : PySem.W.Frag} {H : Hp} : ∀ {n : Nat} {v : V} {d : PyData}, FV H false n v d → Dp K H v d := by
  have at_dp : ∀ {v : V} {d : PyData}, Atm v d → Dp K H v d := fun h => by
    rcases h with ⟨i, rfl, rfl⟩ | ⟨rfl, rfl⟩ | ⟨z, rfl, rfl⟩
    · exact .int i
    · exact .non
    · exact .str z.1
  intro n
  induction n with
  | zero => exact fun h => at_dp h
  | succ n ih =>
    intro v d h
    rcases h with h | ⟨a, xs, ds, rfl, ha, rfl, hl, p⟩
    · exact at_dp h
    · rcases ha with ha | ⟨z, _⟩
      · refine .tup (.inl (.inl ha)) ?_
        clear ha hl
        induction p with
        | nil => exact .nil
        | cons h t ih2 => exact .cons (ih h) ih2
      · cases z

theorem ss_fv {H : Hp} {v : V} {st : Strd} (h : SSat H v st) (l : st.length ≤ 8) : FV H false 2 v (strdD st) := by
  obtain ⟨a, xs, rfl, ha, px⟩ := h
  have xl := par_len px
  refine FV.tup ha (by omega) ?_
  clear ha xl l
  induction px with
  | nil => exact .nil
  | cons h _ ih =>
    obtain ⟨b, rfl, hb⟩ := h
    exact .cons (FV.tup hb (by show 2 ≤ 1000; decide) (.cons (FV.int _) (.cons (FV.int _) .nil))) ih
theorem sw_fv {H : Hp} {v : V} {W : List Strd} (h : SWat H v W) (l : ∀ st ∈ W, st.length ≤ 8) (lw : W.length ≤ 8) : FV H false 3 v (wayD W) := by
  obtain ⟨a, xs, rfl, ha, px⟩ := h
  have xl := par_len px
  refine FV.tup ha (by omega) ?_
  clear ha xl lw
  induction px with
  | nil => exact .nil
  | cons h _ ih => exact .cons (ss_fv h (l _ (List.mem_cons_self ..))) (ih fun st m => l st (List.mem_cons_of_mem _ m))
/-- two line-ups of the same strands -/
def LnR (CL : Addr) : Addr → Addr → Hp → Prop := fun a b H => ∃ W n, LineF CL H a W ∧ LineF CL H b W ∧ goodV n W
theorem LnR.mon {CL a b : Addr} {H H' : Hp} (e : Ext H H') (h : LnR CL a b H) : LnR CL a b H' := let ⟨W, n, x, y, g⟩ := h; ⟨W, n, x.same e, y.same e, g⟩
section
variable {P : Program} {w : World} {K : PySem.W.Frag} {mg : Str → Option Value} {base : Heap}
/-! ### == of line-ups -/
theorem scLQ : FnScope ["self", "other"] ["self", "other"] (defScope sLineUpEq) := ⟨rfl, rfl, rfl, by decide +kernel, rfl, by decide +kernel, by decide +kernel⟩
theorem ok_lq {CL f : Addr} {fd : FuncData} (F : Fun K "__eq__" "LineUp.__eq__" sLineUpEq f fd) (T : Bi mg) (RL : LineC K mg CL) (EI : C8.InsC K CL) : FnOk P w K mg base CX0 1 f fd ["self", "other"] (spEq (LnR CL)) := by
  refine F.ok scLQ (fun vs H Q E h => ?_) (fun cdv A outer s H vs Q E hr h => ?_)
  · obtain ⟨a, b, rfl, _⟩ := h
    rfl
  · have nd := scLQ.nd
    refine ⟨_, (pss_one (ps_ret (pe_and (pe_callB call_isi (by rfl) T.isinstance (by decide +kernel) (pa_cons (pv 1) (pa_cons (pe_glob (v := .ref CL) rfl RL.g rfl) pa_nil))) (pe_one (pe_cmpR (op_eqD hr.units) (pe_fld (pv 0) rfl) (pe_fld (pv 1) rfl) (nomark _)))))), ?_⟩
    obtain ⟨a, b, rfl, ⟨W, n, la, lb, gw⟩, q⟩ := h
    obtain ⟨dx, t, l, xs, k, ha, _, sa, _, _⟩ := id la
    obtain ⟨dy, t', l', xs', k', hb, _, sb, _, _⟩ := id lb
    refine ⟨_, rfl, .ref b, .ref CL, .ref CL, .ref CL, true, rfl, .own _, .base (.ins hb EI.cl EI.ha EI.hn EI.htk EI.hm), EI.me, _, rfl, iteT ?_⟩
    refine ⟨_, rfl, a, CL, dx, _, _, rfl, ha, RL.cl, RL.nS, rfl, _, rfl, b, CL, dy, _, _, rfl, hb, RL.cl, RL.nS, rfl, ?_⟩
    have w8 := gw.ln
    have g1 := sw_fv sa (fun st m => (gw.st st m).2.1) w8
    have g2 := sw_fv sb (fun st m => (gw.st st m).2.1) w8
    refine ⟨_, _, fv_dp g1, fv_dp g2, fv_shaped g1 (by decide), fv_shaped g2 (by decide), ?_⟩
    rw [(fv_good g1).2.2]
    exact q H (Same.refl H)
structure LineQ (P : Program) (w : World) (K : PySem.W.Frag) (mg : Str → Option Value) (base : Heap) (C fQ : Addr) (fdQ : FuncData) : Prop where
  ok : FnOk P w K mg base CX0 1 fQ fdQ ["self", "other"] (spEq (LnR C))
  ne : PySem.W.findIn K (.ref C) "__ne__" = some (some (.builtin "object.__ne__"))
  sub : PySem.W.subIn K (.ref C) (.type "object") = some true
  eq : PySem.W.findIn K (.ref C) "__eq__" = some (some (.ref fQ))
  fn : PySem.W.isFn K (.ref fQ) = true
  b : Binds K fdQ ["self", "other"] []
/-! ### == of papers of line-ups -/
def spAEm (CM CL : Addr) : Sp := fun vs H Q _ => ∃ (r s u v : Addr), vs = [.ref r, .ref s] ∧ PapG CM "most" (fsMI (.ref u)) H r ∧ PapG CM "most" (fsMI (.ref v)) H s ∧ LnR CL u v H ∧ ∀ H', Same H H' → Q (.bl true) H'
theorem scAE : FnScope ["one", "other"] ["one", "other"] (defScope sAreEqual) := ⟨rfl, rfl, rfl, by decide +kernel, rfl, by decide +kernel, by decide +kernel⟩
theorem ok_aem {CM CL f fQ : Addr} {fd fdQ : FuncData} (F : Fun K "are_equal" "are_equal" sAreEqual f fd) (RC : MostC K mg CM) (ic : C8.InsC K CM) (nc : NamC K CM "Most") (LQ : LineQ P w K mg base CL fQ fdQ) : FnOk P w K mg base CX0 4 f fd ["one", "other"] (spAEm CM CL) := by
  refine F.ok scAE (fun vs H Q E h => ?_) (fun cdv A outer s H vs Q E hr h => ?_)
  · obtain ⟨r, s, u, v, rfl, _⟩ := h
    rfl
  · have nd := scAE.nd
    refine ⟨_, (pss_cons (ps_if (pt_cmpR op_ne (pe_cname (pv 0)) (pe_cname (pv 1)) (nomark _)) (pss_one (ps_ret pe_bl)) pss_nil)
      (pss_one (ps_ret (pe_and (pe_cmpR op_eq (pe_fld (pv 0) rfl) (pe_fld (pv 1) rfl) (nomark _)) (pe_one (pe_cmpR (op_eqG (rcG_tup (n := 2) (mon_ins (C := CL) (R := LnR CL) fun a b H H' e h => h.mon e) ((eqG_ins LQ.ok LQ.eq LQ.fn LQ.b pass0).mono (by decide))) hr) (pe_fld (pv 0) rfl) (pe_fld (pv 1) rfl) (nomark _))))))), ?_⟩
    obtain ⟨r, s, u, v, rfl, ⟨dx, t, hr0, ht⟩, ⟨dy, t', hs0, ht'⟩, ln, q⟩ := h
    have pc := RC.pc
    refine ⟨_, rfl, r, CM, dx, _, "Most", rfl, hr0, ic, nc, _, rfl, s, CM, dy, _, "Most", rfl, hs0, ic, nc, rfl, _, rfl, ?_⟩
    rw [decide_eq_true rfl]
    refine iteF ?_
    refine ⟨_, rfl, r, CM, dx, _, _, rfl, hr0, pc.cl, pc.nw, rfl, _, rfl, s, CM, dy, _, _, rfl, hs0, pc.cl, pc.nw, rfl, rfl, _, rfl, ?_⟩
    rw [decide_eq_true rfl]
    refine iteT ?_
    refine ⟨_, rfl, r, CM, dx, _, _, rfl, hr0, pc.cl, pc.np, rfl, _, rfl, s, CM, dy, _, _, rfl, hs0, pc.cl, pc.np, rfl, ?_⟩
    obtain ⟨W, n, lu, lv, gw⟩ := id ln
    obtain ⟨ux, ufs, hu⟩ := lu.ins
    obtain ⟨vx, vfs, hv⟩ := lv.ins
    exact ⟨⟨t, t', [.ref u], [.ref v], rfl, rfl, .inl (.inl ht), .inl (.inl ht'), Prs.cons ⟨u, v, ux, vx, ufs, vfs, rfl, rfl, hu, hv, ln⟩ Prs.nil⟩, fun H' e => q H' e⟩
theorem scPE : FnScope ["self", "other"] ["self", "other"] (defScope sPaperEq) := ⟨rfl, rfl, rfl, by decide +kernel, rfl, by decide +kernel, by decide +kernel⟩
theorem ok_pem {CM CL aP f fA : Addr} {fd fdA : FuncData} (F : Fun K "__eq__" "Paper.__eq__" sPaperEq f fd) (T : Bi mg) (PG : mg "Paper" = some (.ref aP)) (SB : PySem.W.kitOne K (.ref CM) (.ref aP) = some true) (ic : C8.InsC K CM)
    (AE : DefAt P w K mg base CX0 4 "are_equal" ["one", "other"] (spAEm CM CL) fA fdA) : FnOk P w K mg base CX0 5 f fd ["self", "other"] (spAEm CM CL) := by
  refine F.ok scPE (fun vs H Q E h => ?_) (fun cdv A outer s H vs Q E hr h => ?_)
  · obtain ⟨r, s, u, v, rfl, _⟩ := h
    rfl
  · have nd := scPE.nd
    refine ⟨_, (pss_one (ps_ret (pe_and (pe_callB call_isi (by rfl) T.isinstance (by decide +kernel) (pa_cons (pv 1) (pa_cons (pe_glob (v := .ref aP) rfl PG rfl) pa_nil))) (pe_one (pe_call AE.ok (hr.mono (by decide)) rfl AE.g AE.kp AE.b .nil pass0 (pa_cons (pv 0) (pa_cons (pv 1) pa_nil))))))), ?_⟩
    obtain ⟨r, s, u, v, rfl, p1, p2, ln, q⟩ := h
    obtain ⟨dy, t', hs0, hu⟩ := id p2
    refine ⟨_, rfl, .ref s, .ref aP, .ref CM, .ref aP, true, rfl, .own _, .base (.ins hs0 ic.cl ic.ha ic.hn ic.htk ic.hm), SB, _, rfl, iteT ?_⟩
    exact ⟨_, rfl, _, rfl, r, s, u, v, rfl, p1, p2, ln, q⟩
structure MostQ (P : Program) (w : World) (K : PySem.W.Frag) (mg : Str → Option Value) (base : Heap) (C L fQ : Addr) (fdQ : FuncData) : Prop where
  ok : FnOk P w K mg base CX0 5 fQ fdQ ["self", "other"] (spAEm C L)
  ne : PySem.W.findIn K (.ref C) "__ne__" = some (some (.builtin "object.__ne__"))
  sub : PySem.W.subIn K (.ref C) (.type "object") = some true
  eq : PySem.W.findIn K (.ref C) "__eq__" = some (some (.ref fQ))
  fn : PySem.W.isFn K (.ref fQ) = true
  b : Binds K fdQ ["self", "other"] []
/-! ### is_called -/
def spIC (K : PySem.W.Frag) : Sp := fun vs H Q _ => ∃ (a C dx : Addr) (fs : List (Str × V)) (z : Str), vs = [.ref a, .str z] ∧ H a = some (.ins C dx fs) ∧ C8.InsC K C ∧ NamC K C z ∧ Q (.bl true) H
theorem scIC : FnScope ["value", "name"] ["value", "name"] (defScope sIsCalled) := ⟨rfl, rfl, rfl, by decide +kernel, rfl, by decide +kernel, by decide +kernel⟩
theorem ok_ic {f : Addr} {fd : FuncData} (F : Fun K "is_called" "is_called" sIsCalled f fd) : FnOk P w K mg base CX0 1 f fd ["value", "name"] (spIC K) := by
  refine F.ok scIC (fun vs H Q E h => ?_) (fun cdv A outer s H vs Q E hr h => ?_)
  · obtain ⟨a, C, dx, fs, z, rfl, _⟩ := h
    rfl
  · have nd := scIC.nd
    refine ⟨_, (pss_one (ps_ret (pe_cmpR op_eq (pe_cname (pv 0)) (pv 1) (nomark _)))), ?_⟩
    obtain ⟨a, C, dx, fs, z, rfl, ha, ic, nc, q⟩ := h
    refine ⟨_, rfl, a, C, dx, fs, z, rfl, ha, ic, nc, _, rfl, rfl, ?_⟩
    rw [decide_eq_true rfl]
    exact q
end
end K
namespace K
open PySem L2 Rg LamX
open Evl (pss_cut)
theorem allL_ex (n : Nat) : ∃ L, AllL n L := by
  have z := PySem.W.sortLe_total (PyProof.Rows.listOrd PyProof.Rows.itemOrd) false (fun x : List Int => PySem.W.keyToks (lotKey x))
  have pw := List.pairwise_mergeSort (le := PySem.W.dataLe false fun x : List Int => lotKey x) (fun a b c => z.trans a b c) (fun a b => Bool.or_eq_true _ _ |>.mpr (z.total a b)) (lotsN n)
  refine ⟨_, List.mergeSort_perm _ _, pw.imp fun {u v} h => ?_⟩
  have h2 : (!PySem.W.dataLt (lotKey v) (lotKey u)) = true := h
  rw [lot_lt] at h2
  show HT.lexLt (lotK v) (lotK u) = false
  simpa using h2
theorem levB_iff {ls l : List Int} : levB ls l = true ↔ 2 * lsum ls l = ls.sum := by
  unfold levB
  rw [decide_eq_true_eq]
  rcases sort_cases ls l with ⟨a, b⟩ | ⟨a, b⟩ | ⟨a, b⟩
  · exact ⟨fun _ => a, fun _ => b⟩
  · rw [b]
    exact ⟨fun z => absurd z ne_sv, fun z => by omega⟩
  · rw [b]
    exact ⟨fun z => absurd z ne_lv, fun z => by omega⟩
theorem levels_nil {ls : List Int} {L : List (List Int)} (a : AllL ls.length L) : (L.filter (levB ls)).isEmpty = !levelB ls := by
  cases e : levelB ls with
  | true =>
    rw [level_lots, List.any_eq_true] at e
    obtain ⟨l, hl, h⟩ := e
    have m : l ∈ L.filter (levB ls) := List.mem_filter.mpr ⟨a.pm.mem_iff.mpr hl, levB_iff.mpr (of_decide_eq_true h)⟩
    cases q : L.filter (levB ls) with
    | nil => rw [q] at m; cases m
    | cons x r => rfl
  | false =>
    have : L.filter (levB ls) = [] := by
      rw [List.filter_eq_nil_iff]
      intro l m h
      have z : levelB ls = true := by
        rw [level_lots, List.any_eq_true]
        exact ⟨l, a.pm.mem_iff.mp m, decide_eq_true (levB_iff.mp h)⟩
      rw [e] at z
      cases z
    rw [this]
    rfl
def sizesL (ls : List Int) : List Int := if levelB ls = true then [(ls.length : Int)] else [1, 1, (ls.length : Int) - 2]
def lensW (W : List Strd) : List Int := W.map fun st => (st.length : Int)
section
variable {P : Program} {w : World} {K : PySem.W.Frag} {mg : Str → Option Value} {base : Heap}
def spMS (K : PySem.W.Frag) (CR : Addr) (T : List (Addr × Str)) : Sp := fun vs H Q _ => ∃ (r : Addr) (ls : List Int), vs = [.ref r] ∧ RingAt K CR H r ls ∧ 3 ≤ ls.length ∧ ls.length ≤ 8 ∧ Tabs T H ∧ ∀ p H', ExtN H H' → Tabs T H' → H' p = some (.lst ((sizesL ls).map V.int)) → Q (.ref p) H'
theorem scMS : FnScope ["ring", "many"] ["ring"] (defScope sMostSizes) := ⟨rfl, rfl, rfl, by decide +kernel, rfl, by decide +kernel, by decide +kernel⟩
theorem ok_ms {CR cR f fV fN P0 P1 P2 : Addr} {fd fdV fdN : FuncData} (F : Fun K "most_sizes" "most_sizes" sMostSizes f fd) (T : Bi mg) (LV : DefAt P w K mg base CX0 8 "level_lots" ["ring"] (fun vs H Q _ => spTold K CR cR (T2 P0 P1 P2) (fun ls L => L.filter (levB ls)) vs H Q fun _ _ _ => False) fV fdV)
    (NM : Meth K CR "__len__" fN) (NL : FnOk P w K mg base CX0 1 fN fdN ["self"] (spRLen K CR)) (NB : Binds K fdN ["self"] []) : FnOk P w K mg base CX0 9 f fd ["ring"] (spMS K CR (T2 P0 P1 P2)) := by
  refine F.ok scMS (fun vs H Q E h => ?_) (fun cdv A outer s H vs Q E hr h => ?_)
  · obtain ⟨r, ls, rfl, _⟩ := h
    rfl
  · have nd := scMS.nd
    refine ⟨_, pss_cons (ps_set (i := 1) nd rfl (Or.inl rfl) (pe_callB (call_lenO NL (hr.mono (by decide)) NB) (by rfl) T.len PySem.boot_len (pa_cons (pv 0) pa_nil)))
      (pss_one (ps_ret (pe_ifExp (pt_cmpR (op_eqD hr.units) (pe_call LV.ok (hr.mono (by decide)) rfl LV.g LV.kp LV.b .nil pass0 (pa_cons (pv 0) pa_nil)) (pe_tup pa_nil) (nomark _)) (pe_lst (pa_cons pe_int (pa_cons pe_int (pa_cons (pe_op op_sub (pv 1) pe_int) pa_nil)))) (pe_lst (pa_cons (pv 1) pa_nil))))), ?_⟩
    obtain ⟨r, ls, rfl, ra, l3, l8, tab, k⟩ := h
    obtain ⟨dx, t, hr0, ht⟩ := id ra.weak
    refine ⟨_, rfl, r, CR, dx, _, rfl, hr0, NM.at_, NM.fn, r, ls, rfl, ra.weak, _, rfl, by omega, by omega, ?_⟩
    refine ⟨_, rfl, .ref r, rfl, .inl ⟨r, ls, rfl, ra.weak, l3, l8, tab, fun p xs nss H1 e1 tab1 hp tl al => ?_⟩⟩
    obtain ⟨L, aL⟩ := allL_ex ls.length
    have en : nss = L.filter (levB ls) := al L aL
    refine ⟨(by show 0 ≤ sizeLine; decide), fun z nz => ?_⟩
    have s2 : Same H1 (upd H1 z (.tup [])) := (Same.refl H1).new nz
    have hz : upd H1 z (.tup []) z = some (.tup []) := upd_same
    generalize upd H1 z (.tup []) = H2 at s2 hz ⊢
    have e2 := e1.trans (ExtN.of s2)
    have tab2 := tab1.ext s2
    refine ⟨_, _, .tup (.inl (.inl (s2 _ _ hp))) (tl_dp (tl.same s2)), .tup (.inl (.inl hz)) .nil, tl_shapedT nss, tl_shapedT [], _, rfl, ?_⟩
    have ev : PyData.eqv (.tuple (nss.map fun ns => PyData.tuple (ns.map PyData.int))) (.tuple []) = !levelB ls := by
      have := tl_eqT nss []
      rw [List.map_nil] at this
      rw [this, ← levels_nil aL, ← en]
      cases nss <;> simp
    rw [ev]
    cases e : levelB ls with
    | true =>
      refine iteF ⟨_, rfl, (by show 1 ≤ sizeLine; decide), fun q nq => ?_⟩
      have s3 : Same H2 (upd H2 q (.lst [.int (ls.length : Nat)])) := (Same.refl H2).new nq
      refine k q _ (e2.trans (ExtN.of s3)) (tab2.ext s3) ?_
      unfold sizesL
      rw [upd_same, if_pos e]
      rfl
    | false =>
      refine iteT ⟨_, rfl, _, _, rfl, rfl, (by show 3 ≤ sizeLine; decide), fun q nq => ?_⟩
      have s3 : Same H2 (upd H2 q (.lst [.int 1, .int 1, .int ((ls.length : Int) - 2)])) := (Same.refl H2).new nq
      refine k q _ (e2.trans (ExtN.of s3)) (tab2.ext s3) ?_
      unfold sizesL
      rw [upd_same, if_neg (by rw [e]; exact Bool.false_ne_true)]
      rfl
/-! ### shows_most -/
def spSM (K : PySem.W.Frag) (CR CL CM cR cT : Addr) (T : List (Addr × Str)) : Sp := fun vs H Q E => ∃ v u : V, vs = [v, u] ∧ AskC K CR cR cT T H E v fun r ls => ∃ (q : Addr) (W : List Strd), u = .ref q ∧ MostR CM CL H q W ∧ goodV ls.length W ∧
  ∀ H' S, ExtN H H' → Tabs T H' → S.Perm (lensW W) → S.Pairwise (· ≤ ·) → Q (.bl (decide (S = sizesL ls) && hadN (netsW ls W))) H'
abbrev nSM : List Str := ["ring", "value", "sizes", "lot"]
theorem scSM : FnScope nSM ["ring", "value"] (defScope sShowsMost) := ⟨rfl, rfl, rfl, by decide +kernel, rfl, by decide +kernel, by decide +kernel⟩
theorem LineW.ext {C : Addr} {H H' : Hp} {r : Addr} {way : List Strd} (h : LineW C H r way) (s : ExtN H H') : LineW C H' r way := by
  obtain ⟨dx, t, fs, h1, h2, h3⟩ := h
  exact ⟨dx, t, fs, s _ _ h1 (fun _ q => nomatch q), h2, h3.ext s⟩
theorem ok_sm {CR CL CM cR cT f fW fI fZ fH P0 P1 P2 : Addr} {fd fdW fdI fdZ fdH : FuncData} (F : Fun K "shows_most" "shows_most" sShowsMost f fd) (T : Bi mg) (RL : LineC K mg CL) (RC : MostC K mg CM) (MI : C8.InsC K CM) (MN : NamC K CM "Most") (LI : C8.InsC K CL)
    (WC : DefAt P w K mg base (L2.CX P w) 5 "want_closed" ["ring"] (spWC K CR cR cT) fW fdW) (IC : DefAt P w K mg base CX0 1 "is_called" ["value", "name"] (spIC K) fI fdI) (MS : DefAt P w K mg base CX0 9 "most_sizes" ["ring"] (spMS K CR (T2 P0 P1 P2)) fZ fdZ) (IH : DefAt P w K mg base CX0 2 "is_had" ["ring", "lineup"] (spIH K CR CL) fH fdH) :
    FnOk P w K mg base (L2.CX P w) 10 f fd ["ring", "value"] (spSM K CR CL CM cR cT (T2 P0 P1 P2)) := by
  refine F.okX scSM (fun vs H Q E h => ?_) (fun cdv A outer s H vs Q E hr h => ?_)
  · obtain ⟨v, u, rfl, _⟩ := h
    rfl
  · have nd := scSM.nd
    refine ⟨_, pss_cons (ps_expr (pe_call WC.ok (hr.mono (by decide)) rfl WC.g WC.kp WC.b .nil (passes_call (takes_of rfl rfl rfl rfl) (fun _ _ _ _ h => h)) (pa_cons (pv 0) pa_nil)))
      (pss_cons (ps_if (PW.pt (pw_or (pt_not (pt_val (pe_callB call_isi (by rfl) T.isinstance (by decide +kernel) (pa_cons (pv 1) (pa_cons (pe_glob (v := .ref CM) rfl RC.g rfl) pa_nil))))) (pw_or1 (pt_not (pt_val (pe_call IC.ok (hr.mono (by decide)) rfl IC.g IC.kp IC.b .nil pass0 (pa_cons (pv 1) (pa_cons pe_str pa_nil)))))))) (pss_one ps_never) pss_nil)
      (pss_cons (ps_if (pt_not (pt_val (pe_callB call_isi (by rfl) T.isinstance (by decide +kernel) (pa_cons (pe_fld (pv 1) rfl) (pa_cons (pe_glob (v := .ref CL) rfl RL.g rfl) pa_nil))))) (pss_one ps_never) pss_nil)
      (pss_cons (ps_set (i := 2) nd rfl (Or.inl rfl) (pe_callB cr_sortedI (by rfl) T.sorted (by decide +kernel) (pa_cons (pe_lc (own := [("lot", 3)]) (g := gName 3) (tt := tYes) (te := tCB (rLenS K) (tCons (tVar 3) tNil)) rfl nd (pi_tup (pe_fld (pe_fld (pv 1) rfl) rfl)) (blkOk_by (N := nSM) (sc := defScope sShowsMost) (by decide +kernel)) (fun _ _ _ _ _ => pg_name (i := 3) nd rfl (Or.inl rfl)) (fun _ _ _ _ _ => pts_nil) (fun _ _ _ _ _ => pe_callB (r := rLenS K) call_len_seq (by rfl) T.len PySem.boot_len (pa_cons (pv 3) pa_nil))) pa_nil)))
      (pss_one (ps_ret (pe_and (pe_cmpR (op_eqD hr.units) (pv 2) (pe_call MS.ok (hr.mono (by decide)) rfl MS.g MS.kp MS.b .nil pass0 (pa_cons (pv 0) pa_nil)) (nomark _)) (pe_one (pe_call IH.ok (hr.mono (by decide)) rfl IH.g IH.kp IH.b .nil pass0 (pa_cons (pv 0) (pa_cons (pe_fld (pv 1) rfl) pa_nil)))))))))), ?_⟩
    obtain ⟨v, u, rfl, ask⟩ := h
    rcases ask with ⟨r, ls, rfl, ra, l3, l8, bd, tab, ask⟩ | ⟨no, er⟩
    · rcases ask with ⟨cl, q0, W, rfl, mr, gw, k⟩ | ⟨cl, er⟩
      · refine ⟨_, rfl, _, rfl, .inl ⟨r, ls, rfl, ra, by omega, .inl ⟨cl, ?_⟩⟩⟩
        obtain ⟨ua, pg, lf⟩ := mr
        obtain ⟨dx, t, hq, ht⟩ := id pg
        obtain ⟨dl, lt, la, xs, n, hl, en, sw, hla, px⟩ := id lf
        refine ⟨_, rfl, .ref q0, .ref CM, .ref CM, .ref CM, true, rfl, .own _, .base (.ins hq MI.cl MI.ha MI.hn MI.htk MI.hm), MI.me, _, rfl, iteF ?_⟩
        refine ⟨_, rfl, q0, CM, dx, _, "Most", rfl, hq, MI, MN, _, rfl, iteF ?_⟩
        refine ⟨_, rfl, q0, CM, dx, _, _, rfl, hq, RC.pc.cl, RC.n1, rfl, .ref ua, .ref CL, .ref CL, .ref CL, true, rfl, .own _, .base (.ins hl LI.cl LI.ha LI.hn LI.htk LI.hm), LI.me, _, rfl, iteF ?_⟩
        refine ⟨_, rfl, q0, CM, dx, _, _, rfl, hq, RC.pc.cl, RC.n1, rfl, ua, CL, dl, _, _, rfl, hl, RL.cl, RL.nL, rfl, la, rfl, ⟨_, .inl (.inl hla)⟩, fun D hD => ?_⟩
        have xl : xs.length = W.length := par_len px
        have w8 := gw.ln
        refine lc_tup (K := K) (a := la) (xs := xs) (fun j H' => Same H H' ∧ H' D = some (.lst ((lensW (W.take j)).map V.int))) ⟨(Same.refl H).new hD, upd_same⟩ (fun j H' _ q => .inl (.inl (q.1 _ _ hla))) ?_ ?_
        · rintro j y H1 hj ⟨s1, h1⟩
          obtain ⟨st, hst, b, rfl, hb⟩ := par_get px hj
          refine ⟨rfl, _, rfl, b, _, rfl, .inr (.inl (.inl (s1 _ _ hb))), _, h1, ?_, s1.mut hD, ?_⟩
          · unfold lensW
            rw [List.length_map, List.length_map, List.length_take]
            exact sm (by omega)
          · rw [upd_same, ← take_snoc hst]
            unfold lensW
            rw [List.map_append, List.map_append, List.length_map, List.length_map]
            rfl
        · rintro H1 ⟨s1, h1⟩
          rw [xl, List.take_length] at h1
          refine ⟨D, _, rfl, SqL.of h1, fun S p pm od np => ?_⟩
          have s2 : Same H1 (upd H1 p (.lst (S.map V.int))) := (Same.refl H1).new np
          have hp : upd H1 p (.lst (S.map V.int)) p = some (.lst (S.map V.int)) := upd_same
          generalize upd H1 p (.lst (S.map V.int)) = H2 at s2 hp ⊢
          have s02 := s1.trans s2
          refine ⟨_, rfl, _, rfl, r, ls, rfl, ra.same s02, l3, l8, tab.ext s02, fun z H3 e3 tab3 hz => ?_⟩
          have hp3 := e3 _ _ hp (fun _ q => nomatch q)
          have e03 := (ExtN.of s02).trans e3
          have hq3 := e03 _ _ hq (fun _ q => nomatch q)
          refine ⟨_, _, .lst (SqL.of hp3) (dp_ints _), .lst (SqL.of hz) (dp_ints _), shaped_ints _, shaped_ints _, ?_⟩
          rw [eqvA_pd]
          by_cases c : S = sizesL ls
          · refine ⟨_, rfl, iteDT c ?_⟩
            refine ⟨_, rfl, _, rfl, q0, CM, dx, _, _, rfl, hq3, RC.pc.cl, RC.n1, rfl, r, ua, ls, W, rfl, ra.ext e03, lf.ext e03, gw, by omega, fun H4 s4 => ?_⟩
            have z := k H4 S (e03.trans (ExtN.of s4)) (tab3.ext s4) pm od
            rw [decide_eq_true c, Bool.true_and] at z
            exact z
          · refine ⟨_, rfl, iteDF c ?_⟩
            have z := k H3 S e03 tab3 pm od
            rw [decide_eq_false c, Bool.false_and] at z
            exact z
      · exact ⟨_, rfl, _, rfl, .inl ⟨r, ls, rfl, ra, by omega, .inr ⟨cl, er⟩⟩⟩
    · exact ⟨_, rfl, _, rfl, .inr ⟨no, er⟩⟩
end
end K
namespace K
open PySem L2 Rg LamX
open Evl (pss_cut)
def scIHo : Scope := { kind := .function, names := [(Str.ofString ".0", .local), (Str.ofString "_law_strand", .local), (Str.ofString "abs", .globalImplicit), (Str.ofString "sum", .globalImplicit), (Str.ofString "_law_lengths_here", .free)], isGenerator := false, isCoroutine := false }
abbrev teIH (K : PySem.W.Frag) : TE := tCB rAb (tCons (tCB (rSum K) (tCons (tLc (iList K (tVar 3)) (gTup K 2 (gCons (gName 4) (gCons (gName 5) gNil))) tYes (tOp (rI CMul fun i j => .int (i * j)) (tOp (rIxL K) (tVar 0) (tVar 4)) (tVar 5)) [4, 5]) tNil)) tNil)
theorem had_empty (ns : List Int) : (ns.filter fun m => decide (ns.sum - m < m)).isEmpty = hadN ns := by
  rw [Bool.eq_iff_iff, had_iff, List.isEmpty_iff, List.filter_eq_nil_iff]
  refine ⟨fun h m hm => ?_, fun h m hm z => ?_⟩
  · have := h m hm
    have : ¬ (ns.sum - m < m) := fun z => this (decide_eq_true z)
    omega
  · have := h m hm
    have := of_decide_eq_true z
    omega
theorem nxt_snoc (q : List Int) (b : Int) : nxtL (q ++ [b]) = b.toNat + 1 := by
  unfold nxtL
  rw [List.getLast?_append]
  rfl
theorem nxt_le {n : Nat} {l : List Int} (h : Lot n l) : nxtL l ≤ n := by
  by_cases c : l = []
  · rw [c]
    exact Nat.zero_le _
  · have e := (List.dropLast_concat_getLast c).symm
    have m := h.2 (l.getLast c) (List.getLast_mem c)
    rw [e, nxt_snoc]
    omega
theorem start_at {K : PySem.W.Frag} {H : Hp} {Q : VK} {a : Addr} {lot : List Int} {v0 v1 v2 v3 v4 : Option V} {r : St} (ha : H a = some (.tup (lot.map V.int))) (l8 : lot.length ≤ 8 ∧ ∀ b ∈ lot, 0 ≤ b) (q : ∀ H', Same H H' → Q (.int (nxtL lot : Nat)) H') :
    tIf (tTest (tOp (rNeD K) (tVar 5) (tTup tNil))) (tOp (rI0 fun i j => .int (i + j)) (tOp (rIxT K) (tVar 5) (tUn (rU fun i => .int (-i)) (tC (.int 1)))) (tC (.int 1))) (tC (.int 0)) (v0 :: v1 :: v2 :: v3 :: v4 :: some (.ref a) :: r) H Q := by
  refine ⟨_, rfl, (by show 0 ≤ sizeLine; decide), fun z nz => ?_⟩
  have s1 : Same H (upd H z (.tup [])) := (Same.refl H).new nz
  have hz : upd H z (.tup []) z = some (.tup []) := upd_same
  generalize upd H z (.tup []) = H1 at s1 hz ⊢
  have ha1 := s1 _ _ ha
  refine ⟨_, _, .tup (.inl (.inl ha1)) (dp_ints _), .tup (.inl (.inl hz)) .nil, sh_tup lot, sh_tup [], _, rfl, ?_⟩
  have ev : PyData.eqv (.tuple (lot.map PyData.int)) (.tuple []) = decide (lot = []) := eqv_tup lot []
  rw [ev]
  by_cases c : lot = []
  · rw [decide_eq_true c]
    subst c
    exact iteF (q H1 s1)
  · rw [decide_eq_false c]
    refine iteT ?_
    have e := (List.dropLast_concat_getLast c).symm
    have m := l8.2 (lot.getLast c) (List.getLast_mem c)
    have q1 := q H1 s1
    rw [e, nxt_snoc] at q1
    refine ⟨_, rfl, _, rfl, a, _, -1, .int (lot.getLast c), rfl, rfl, .inl (.inl ha1), at_back ?_ ?_, _, _, rfl, rfl, ?_⟩
    · rw [List.length_map]
      exact List.length_pos_iff.mpr c
    · rw [List.length_map, List.getElem?_map, List.getLast_eq_getElem, List.getElem?_eq_getElem (by have := List.length_pos_iff.mpr c; omega)]
      rfl
    · have e2 : (lot.getLast c) + 1 = (((lot.getLast c).toNat + 1 : Nat) : Int) := by omega
      show Q (.int (lot.getLast c + 1)) H1
      rw [e2]
      exact q1
section
variable {P : Program} {w : World} {K : PySem.W.Frag} {mg : Str → Option Value} {base : Heap}
/-! ### _law_is_had -/
def spIHD (K : PySem.W.Frag) : Sp := fun vs H Q _ => ∃ (la : Addr) (v : V) (ls : List Int) (way : List Strd), vs = [.ref la, v] ∧ H la = some (.lst (ls.map V.int)) ∧ LWy H v way ∧ fitW ls.length way ∧ ∀ H', Same H H' → Q (.bl (hadW ls way)) H'
abbrev nIHD : List Str := ["_law_lengths_here", "_law_strands", "_law_nets", "_law_strand", "_law_bar", "_law_sign", "_law_net"]
theorem scIHD : FnScope nIHD ["_law_lengths_here", "_law_strands"] (defScope sLwIsHad) := ⟨rfl, rfl, rfl, by decide +kernel, rfl, by decide +kernel, by decide +kernel⟩
theorem ok_ihd {f : Addr} {fd : FuncData} (F : Fun K "_law_is_had" "_law_is_had" sLwIsHad f fd) (T : Bi mg) : FnOk P w K mg base CX0 1 f fd ["_law_lengths_here", "_law_strands"] (spIHD K) := by
  refine F.ok scIHD (fun vs H Q E h => ?_) (fun cdv A outer s H vs Q E hr h => ?_)
  · obtain ⟨la, v, ls, way, rfl, _⟩ := h
    rfl
  · have nd := scIHD.nd
    refine ⟨_, (pss_cons (ps_set (i := 2) nd rfl (Or.inr rfl) (pe_lc (own := [("_law_strand", 3)]) (g := (gName 3)) (tt := tYes) (te := teIH K)  rfl nd (pi_list (pv 1))
          (blkOk_by (N := nIHD) (sc := defScope sLwIsHad) (by decide +kernel)) (fun _ _ _ _ _ => (pg_name (i := 3) nd rfl (Or.inl rfl))) (fun _ _ _ _ _ => pts_nil) (fun _ _ _ _ _ => (pe_callB call_abs (by rfl) T.abs (by decide +kernel) (pa_cons (pe_callB (cr_sum rfl) (by rfl) T.sum (by decide +kernel) (pa_cons (pe_lc (own := [("_law_bar", 4), ("_law_sign", 5)]) (g := (gTup K 2 (gCons (gName 4) (gCons (gName 5) gNil)))) (tt := tYes) (te := tOp (rI CMul fun i j => .int (i * j)) (tOp (rIxL K) (tVar 0) (tVar 4)) (tVar 5))  rfl nd (pi_list (pv 3))
          (blkOk_by (N := nIHD) (sc := relS scIHo (defScope sLwIsHad)) (by decide +kernel)) (fun _ _ _ _ _ => (pg_tup rfl (pgs_cons (pg_name (i := 4) nd rfl (Or.inl rfl)) (pgs_cons (pg_name (i := 5) nd rfl (Or.inl rfl)) pgs_nil)))) (fun _ _ _ _ _ => pts_nil) (fun _ _ _ _ _ => (pe_op op_mul (pe_ix (r := rIxL K) ix_list (pv 0) (pv 4) (fun _ _ => rfl)) (pv 5)))) pa_nil)) pa_nil)))))
      (pss_one (ps_ret (pe_cmpR (op_eqD hr.units) (pe_lc (own := [("_law_net", 6)]) (g := (gName 6)) (tt := tTest (tOp (rI0 fun i j => .bl (decide (j < i))) (tVar 6) (tOp (rI0 fun i j => .int (i - j)) (tCB (rSum K) (tCons (tVar 2) tNil)) (tVar 6)))) (te := tVar 6)  rfl nd (pi_list (pv 2))
          (blkOk_by (N := nIHD) (sc := defScope sLwIsHad) (by decide +kernel)) (fun _ _ _ _ _ => (pg_name (i := 6) nd rfl (Or.inl rfl))) (fun _ _ _ _ _ => (pts_one (pt_cmpR op_gt (pv 6) (pe_op op_sub (pe_callB (cr_sum rfl) (by rfl) T.sum (by decide +kernel) (pa_cons (pv 2) pa_nil)) (pv 6)) (nomark _)))) (fun _ _ _ _ _ => (pv 6))) (pe_lst pa_nil) (nomark _))))), ?_⟩
    obtain ⟨la, v, ls, way, rfl, hla, ⟨a, xs, rfl, ha, px⟩, ⟨w8, fit⟩, k⟩ := h
    have xl : xs.length = way.length := par_len px
    refine ⟨_, rfl, a, rfl, ⟨_, SqL.of ha⟩, fun D hD => ?_⟩
    refine lc_list (K := K) (a := a) (xs := xs) (fun j H' => Same H H' ∧ H' D = some (.lst ((netsW ls (way.take j)).map V.int))) ⟨(Same.refl H).new hD, upd_same⟩ (fun j H' _ q => SqL.of (q.1 _ _ ha)) ?_ ?_
    · rintro j y H' hj ⟨s1, h1⟩
      obtain ⟨st, hst, rs⟩ := par_get px hj
      have hm := fit st (List.mem_of_getElem? hst)
      obtain ⟨b, zs, rfl, hb, pz⟩ := rs.same s1
      have zl : zs.length = st.length := par_len pz
      refine ⟨rfl, _, rfl, b, rfl, ⟨_, SqL.of hb⟩, fun D3 hD3 => ?_⟩
      refine lc_list (K := K) (a := b) (xs := zs) (fun i G => Same H' G ∧ G D3 = some (.lst (((st.take i).map fun q => ls.getD q.1.toNat 0 * q.2).map V.int))) ⟨(Same.refl H').new hD3, upd_same⟩ (fun i G _ q => SqL.of (q.1 _ _ hb)) ?_ ?_
      · rintro i z G hi ⟨s7, h7⟩
        have hil : i < zs.length := (List.getElem?_eq_some_iff.mp hi).1
        obtain ⟨q, hq, c, rfl, hc⟩ := par_get pz hi
        have hqb := hm.2 q (List.mem_of_getElem? hq)
        have s17 := s1.trans s7
        refine ⟨c, _, rfl, .inl (.inl (s7 _ _ hc)), rfl, _, _, rfl, _, _, rfl, rfl, rfl, ?_⟩
        refine ⟨_, rfl, _, rfl, la, _, q.1, _, rfl, rfl, SqL.of (s17 _ _ hla), get_lenX hqb.1 hqb.2.1, _, rfl, _, _, rfl, rfl, .inr ⟨?_, ?_⟩, _, h7, ?_, s7.mut hD3, ?_⟩
        · have z := hqb.2.2
          omega
        · have z := hqb.2.2
          omega
        · rw [List.length_map, List.length_map, List.length_take]
          exact sm (by omega)
        · rw [upd_same, ← take_snoc hq, List.map_append, List.map_append]
          rfl
      rintro G1 ⟨s7, h7⟩
      rw [zl, List.take_length] at h7
      have s8 := s1.trans s7
      refine ⟨D3, _, rfl, SqL.of h7, _, rfl, ?_⟩
      refine ⟨_, s7 _ _ h1, ?_, s8.mut hD, ?_⟩
      · unfold netsW
        rw [List.length_map, List.length_map, List.length_take]
        exact sm (by omega)
      · rw [upd_same, ← take_snoc hst]
        unfold netsW
        rw [List.map_append, List.map_append]
        rfl
    rintro H6 ⟨s6, h6⟩
    rw [xl, List.take_length] at h6
    have nl : (netsW ls way).length = way.length := by unfold netsW; rw [List.length_map]
    refine ⟨_, rfl, D, rfl, ⟨_, SqL.of h6⟩, fun D2 hD2 => ?_⟩
    refine lc_list (K := K) (a := D) (xs := (netsW ls way).map V.int) (fun j H' => Same H6 H' ∧ H' D2 = some (.lst ((((netsW ls way).take j).filter fun m => decide ((netsW ls way).sum - m < m)).map V.int))) ⟨(Same.refl H6).new hD2, upd_same⟩ (fun j H' _ q => SqL.of (q.1 _ _ h6)) ?_ ?_
    · rintro j y H7 hj ⟨s7, h7⟩
      obtain ⟨m, hm, rfl⟩ := int_at hj
      have hjl : j < (netsW ls way).length := (List.getElem?_eq_some_iff.mp hm).1
      refine ⟨rfl, _, rfl, _, rfl, D, _, rfl, SqL.of (s7 _ _ h6), _, rfl, _, _, rfl, rfl, _, _, rfl, rfl, _, rfl, ?_⟩
      rw [← take_snoc hm, List.filter_append]
      by_cases c : (netsW ls way).sum - m < m
      · refine iteDT c ⟨_, rfl, _, h7, ?_, s7.mut hD2, ?_⟩
        · rw [List.length_map]
          refine szl (Nat.lt_of_le_of_lt (List.length_filter_le ..) ?_)
          rw [List.length_take]
          omega
        · rw [upd_same, List.filter_cons_of_pos (by simpa using c), List.map_append]
          rfl
      · refine iteDF c ⟨s7, ?_⟩
        rw [List.filter_cons_of_neg (by simpa using c), List.filter_nil, List.append_nil]
        exact h7
    · rintro H7 ⟨s7, h7⟩
      rw [List.length_map, List.take_length] at h7
      refine ⟨(by show 0 ≤ sizeLine; decide), fun z nz => ?_⟩
      have s8 : Same H7 (upd H7 z (.lst [])) := (Same.refl H7).new nz
      have hz : upd H7 z (.lst []) z = some (.lst []) := upd_same
      generalize upd H7 z (.lst []) = H8 at s8 hz ⊢
      refine ⟨_, _, .lst (SqL.of (s8 _ _ h7)) (dp_ints _), .lst (SqL.of hz) .nil, shaped_ints _, rfl, ?_⟩
      rw [eqv_nil, had_empty]
      exact k _ ((s6.trans s7).trans s8)
/-! ### _law_lots -/
def spLT : Sp := fun vs H Q _ => ∃ n k : Nat, vs = [.int n, .int k] ∧ 3 ≤ n ∧ n ≤ 8 ∧ k ≤ 8 ∧ ∀ p xs H', Same H H' → H p = none → H' p = some (.lst xs) → TL H' xs (lotsK n k) → Q (.ref p) H'
abbrev nLT : List Str := ["_law_many", "_law_size", "_law_found", "_law_turn", "_law_longer", "_law_lot", "_law_bar"]
theorem scLT : FnScope nLT ["_law_many", "_law_size"] (defScope sLwLots) := ⟨rfl, rfl, rfl, by decide +kernel, rfl, by decide +kernel, by decide +kernel⟩
def extK (n : Nat) (l : List Int) : List (List Int) := (List.range (n - nxtL l)).map fun i => l ++ [((nxtL l + i : Nat) : Int)]
theorem ok_lt {f : Addr} {fd : FuncData} (F : Fun K "_law_lots" "_law_lots" sLwLots f fd) (T : Bi mg) : FnOk P w K mg base CX0 1 f fd ["_law_many", "_law_size"] spLT := by
  refine F.ok scLT (fun vs H Q E h => ?_) (fun cdv A outer s H vs Q E hr h => ?_)
  · obtain ⟨n, k, rfl, _⟩ := h
    rfl
  · have nd := scLT.nd
    refine ⟨_, (pss_cons (ps_set (i := 2) nd rfl (Or.inl rfl) (pe_lst (pa_cons (pe_tup pa_nil) pa_nil)))
      (pss_cons (ps_for PassesOwn.never rfl (pi_range1 (by rfl) T.range (pa_cons (pv 1) pa_nil)) (pg_name (i := 3) nd rfl (Or.inl rfl)) (pss_cons (ps_set (i := 4) nd rfl (Or.inl rfl) (pe_lst pa_nil))
      (pss_cons (ps_for PassesOwn.never rfl (pi_list (pv 2)) (pg_name (i := 5) nd rfl (Or.inr rfl)) (pss_one (ps_expr (pe_bm PySem.F.plainAttrs_list PySem.F.slot_list_extend PySem.F.type_list_extend mt_extend (pv 4) (pa_cons (pe_lc (own := [("_law_bar", 6)]) (g := (gName 6)) (tt := tYes) (te := tOp (rCatA K) (tVar 5) (tTup (tCons (tVar 6) tNil)))  rfl nd (pi_range2 (by rfl) T.range (pa_cons (pe_ifExp (pt_cmpR (op_neD hr.units) (pv 5) (pe_tup pa_nil) (nomark _)) (pe_op op_add (pe_ix (r := rIxT K) ix_tup (pv 5) (pe_un un_neg pe_int) (fun _ _ => rfl)) pe_int) pe_int) (pa_cons (pv 0) pa_nil)))
          (blkOk_by (N := nLT) (sc := defScope sLwLots) (by decide +kernel)) (fun _ _ _ _ _ => (pg_name (i := 6) nd rfl (Or.inl rfl))) (fun _ _ _ _ _ => pts_nil) (fun _ _ _ _ _ => (pe_op op_catA (pv 5) (pe_tup (pa_cons (pv 6) pa_nil))))) pa_nil)))))
      (pss_one (ps_set (i := 2) nd rfl (Or.inl rfl) (pv 4))))))
      (pss_one (ps_ret (pv 2))))), ?_⟩
    obtain ⟨n, k, rfl, n3, n8, k8, q⟩ := h
    refine ⟨(by show 0 ≤ sizeLine; decide), fun e0 he0 => ⟨(by show 1 ≤ sizeLine; decide), fun l0 hl0 => ?_⟩⟩
    have s0 : Same H (upd (upd H e0 (.tup [])) l0 (.lst [.ref e0])) := ((Same.refl H).new he0).new hl0
    have he1 : upd (upd H e0 (.tup [])) l0 (.lst [.ref e0]) e0 = some (.tup []) := by rw [upd_ne (ne_of_none upd_same hl0), upd_same]
    have hl0' : H l0 = none := ((Same.refl H).new he0).free hl0
    refine ⟨_, rfl, _, rfl, by omega, by omega, ?_⟩
    refine for_range (lo := 0) (n := ((k : Nat) : Int).toNat) (fun i σ H' => ∃ (l : Addr) (t1 t2 t3 : Option V) (xs : List V), σ = [some (.int n), some (.int k), some (.ref l), t1, t2, t3, none] ∧ Same H H' ∧ H l = none ∧ H' l = some (.lst xs) ∧ TL H' xs (lotsK n i))
      ⟨l0, none, none, none, [.ref e0], rfl, s0, hl0', upd_same, .cons ⟨e0, rfl, he1⟩ .nil⟩ ?_ ?_
    · rintro i σ H1 hi ⟨l, t1, t2, t3, xs, rfl, s1, nl, h1, tl⟩
      have ik : i < k := by omega
      have xl : xs.length ≤ 70 := by rw [par_len tl]; exact lotsK_len n3 n8 (by omega)
      have xl2 : (lotsK n (i + 1)).length ≤ 70 := lotsK_len n3 n8 (by omega)
      refine ⟨(by show 0 ≤ sizeLine; decide), fun g ng => ?_⟩
      have ng0 := s1.free ng
      have s2 : Same H1 (upd H1 g (.lst [])) := (Same.refl H1).new ng
      have hg : upd H1 g (.lst []) g = some (.lst []) := upd_same
      generalize upd H1 g (.lst []) = H2 at s2 hg ⊢
      refine ⟨_, rfl, l, rfl, ⟨_, SqL.of (s2 _ _ h1)⟩, ?_⟩
      refine for_list (K := K) (a := l) (xs := xs) (fun j σ H' => ∃ (t3 : Option V) (us : List V), σ = [some (.int n), some (.int k), some (.ref l), some (.int (0 + (i : Int))), some (.ref g), t3, none] ∧ Same H1 H' ∧ H' g = some (.lst us) ∧ TL H' us (((lotsK n i).take j).flatMap (extK n)))
        ⟨t3, [], rfl, s2, hg, .nil⟩ (fun j σ H' _ ⟨_, _, _, q, _⟩ => q.seq (SqL.of h1)) ?_ ?_
      · rintro j x σ H3 hj ⟨t4, us, rfl, s3, h3, tl3⟩
        obtain ⟨lot, hlot, a, rfl, ha⟩ := par_get tl hj
        have ha3 := s3 _ _ ha
        have lm := (lotsK_mem n3 n8 (by omega)).mp (List.mem_of_getElem? hlot)
        have lt := lotsN_lot lm.1
        have pre : ((((lotsK n i).take j).flatMap (extK n)) ++ extK n lot).length ≤ 70 := by
          have e : lotsK n (i + 1) = (lotsK n i).flatMap (extK n) := rfl
          have e2 : (lotsK n i).flatMap (extK n) = ((lotsK n i).take (j + 1)).flatMap (extK n) ++ ((lotsK n i).drop (j + 1)).flatMap (extK n) := by
            rw [← List.flatMap_append, List.take_append_drop]
          rw [e, e2, ← take_snoc hlot, List.flatMap_append, List.length_append] at xl2
          simpa using Nat.le_trans (Nat.le_add_right _ _) xl2
        have l8 := lot_len lt
        have ul : us.length ≤ 70 := by
          rw [par_len tl3]
          rw [List.length_append] at pre
          omega
        have nx : nxtL lot ≤ n := nxt_le lt
        refine ⟨_, rfl, .inl ⟨rfl, _, SqL.of h3⟩, ?_⟩
        refine start_at ha3 ⟨by omega, fun b m => (lt.2 b m).1⟩ fun H4 s4 => ?_
        refine ⟨_, rfl, _, _, rfl, ⟨by omega, by omega, by omega, by omega⟩, fun D hD => ?_⟩
        refine lc_range (lo := (nxtL lot : Int)) (n := ((n : Int) - (nxtL lot : Nat)).toNat) (fun m H' => Same H4 H' ∧ ∃ ws, H' D = some (.lst ws) ∧ TL H' ws ((extK n lot).take m)) ⟨(Same.refl H4).new hD, [], upd_same, .nil⟩ ?_ ?_
        · rintro m H5 hm ⟨s5, ws, h5, tl5⟩
          have em : (extK n lot)[m]? = some (lot ++ [((nxtL lot + m : Nat) : Int)]) := by
            unfold extK
            rw [List.getElem?_map, List.getElem?_range (by omega)]
            rfl
          refine ⟨rfl, _, rfl, _, rfl, (by show 1 ≤ sizeLine; decide), fun b nb => ?_⟩
          have s6 : Same H5 (upd H5 b (.tup [.int ((nxtL lot : Int) + (m : Int))])) := (Same.refl H5).new nb
          have hb : upd H5 b (.tup [.int ((nxtL lot : Int) + (m : Int))]) b = some (.tup [.int ((nxtL lot : Int) + (m : Int))]) := upd_same
          generalize upd H5 b (.tup [.int ((nxtL lot : Int) + (m : Int))]) = H6 at s6 hb ⊢
          refine catV ((s4.trans (s5.trans s6)) _ _ ha3) hb (by rw [List.length_map]; show lot.length + 1 ≤ 1000; omega) fun c H7 hc s7 => ?_
          have s57 := s6.trans s7
          have h57 := s57 _ _ h5
          have e1 : lot.map V.int ++ [V.int ((nxtL lot : Int) + (m : Int))] = (lot ++ [((nxtL lot + m : Nat) : Int)]).map V.int := by
            rw [List.map_append]
            rfl
          rw [e1] at hc
          refine ⟨ws, h57, ?_, (s5.trans s57).mut hD, _, upd_same, ?_⟩
          · rw [par_len tl5, List.length_take]
            exact sm (by omega)
          · rw [← take_snoc em]
            exact TL.mut (par_app (tl5.same s57) (.cons ⟨c, rfl, hc⟩ .nil)) h57
        · rintro H5 ⟨s5, ws, h5, tl5⟩
          have el : ((n : Int) - (nxtL lot : Nat)).toNat = (extK n lot).length := by
            unfold extK
            rw [List.length_map, List.length_range]
            omega
          rw [el, List.take_length] at tl5
          have s35 := s4.trans s5
          have h35 := s35 _ _ h3
          refine ⟨g, D, us, ws, rfl, rfl, h35, h5, ?_, ?_⟩
          · rw [List.length_append] at pre
            rw [par_len tl5]
            exact Nat.le_of_lt (sm (by omega))
          · have tl8 : TL H5 (us ++ ws) (((lotsK n i).take (j + 1)).flatMap (extK n)) := by
              rw [← take_snoc hlot, List.flatMap_append]
              have z : TL H5 ws ([lot].flatMap (extK n)) := by simpa using tl5
              exact par_app (tl3.same s35) z
            exact ⟨_, _, rfl, (s3.trans s35).mut ng, upd_same, TL.mut tl8 h35⟩
      · rintro σ H3 ⟨t4, us, rfl, s3, h3, tl3⟩
        rw [par_len tl, List.take_length] at tl3
        exact ⟨_, rfl, g, _, _, _, us, rfl, s1.trans s3, ng0, h3, tl3⟩
    · rintro σ H1 ⟨l, t1, t2, t3, xs, rfl, s1, nl, h1, tl⟩
      rw [Int.toNat_natCast] at tl
      exact ⟨_, rfl, q l xs H1 s1 nl h1 tl⟩
/-! ### _law_rows -/
def spRW : Sp := fun vs H Q _ => ∃ k : Nat, vs = [.int k] ∧ k ≤ 8 ∧ ∀ p xs H', Same H H' → H p = none → H' p = some (.lst xs) → TL H' xs (sgnR k) → Q (.ref p) H'
abbrev nRW : List Str := ["_law_many", "_law_rows_here", "_law_turn", "_law_longer", "_law_row"]
theorem scRW : FnScope nRW ["_law_many"] (defScope sLwRows) := ⟨rfl, rfl, rfl, by decide +kernel, rfl, by decide +kernel, by decide +kernel⟩
theorem ok_rw {f : Addr} {fd : FuncData} (F : Fun K "_law_rows" "_law_rows" sLwRows f fd) (T : Bi mg) : FnOk P w K mg base CX0 1 f fd ["_law_many"] spRW := by
  refine F.ok scRW (fun vs H Q E h => ?_) (fun cdv A outer s H vs Q E hr h => ?_)
  · obtain ⟨k, rfl, _⟩ := h
    rfl
  · have nd := scRW.nd
    refine ⟨_, (pss_cons (ps_set (i := 1) nd rfl (Or.inl rfl) (pe_lst (pa_cons (pe_tup pa_nil) pa_nil)))
      (pss_cons (ps_for PassesOwn.never rfl (pi_range1 (by rfl) T.range (pa_cons (pv 0) pa_nil)) (pg_name (i := 2) nd rfl (Or.inl rfl)) (pss_cons (ps_set (i := 3) nd rfl (Or.inl rfl) (pe_lst pa_nil))
      (pss_cons (ps_for PassesOwn.never rfl (pi_list (pv 1)) (pg_name (i := 4) nd rfl (Or.inl rfl)) (pss_one (ps_expr (pe_bm PySem.F.plainAttrs_list PySem.F.slot_list_extend PySem.F.type_list_extend mt_extend (pv 3) (pa_cons (pe_lst (pa_cons (pe_op op_catA (pv 4) (pe_tup (pa_cons pe_int pa_nil))) (pa_cons (pe_op op_catA (pv 4) (pe_tup (pa_cons (pe_un un_neg pe_int) pa_nil))) pa_nil))) pa_nil)))))
      (pss_one (ps_set (i := 1) nd rfl (Or.inl rfl) (pv 3))))))
      (pss_one (ps_ret (pv 1))))), ?_⟩
    obtain ⟨k, rfl, k8, q⟩ := h
    refine ⟨(by show 0 ≤ sizeLine; decide), fun e0 he0 => ⟨(by show 1 ≤ sizeLine; decide), fun l0 hl0 => ?_⟩⟩
    have s0 : Same H (upd (upd H e0 (.tup [])) l0 (.lst [.ref e0])) := ((Same.refl H).new he0).new hl0
    have he1 : upd (upd H e0 (.tup [])) l0 (.lst [.ref e0]) e0 = some (.tup []) := by rw [upd_ne (ne_of_none upd_same hl0), upd_same]
    have hl0' : H l0 = none := ((Same.refl H).new he0).free hl0
    refine ⟨_, rfl, _, rfl, by omega, by omega, ?_⟩
    refine for_range (lo := 0) (n := ((k : Nat) : Int).toNat) (fun i σ H' => ∃ (l : Addr) (t1 t2 t3 : Option V) (xs : List V), σ = [some (.int k), some (.ref l), t1, t2, t3] ∧ Same H H' ∧ H l = none ∧ H' l = some (.lst xs) ∧ TL H' xs (sgnR i))
      ⟨l0, none, none, none, [.ref e0], rfl, s0, hl0', upd_same, .cons ⟨e0, rfl, he1⟩ .nil⟩ ?_ ?_
    · rintro i σ H1 hi ⟨l, t1, t2, t3, xs, rfl, s1, nl, h1, tl⟩
      have ik : i < k := by omega
      have xl : xs.length ≤ 128 := by
        rw [par_len tl, sgnR_length]
        exact Nat.pow_le_pow_right (by decide) (show i ≤ 7 by omega)
      refine ⟨(by show 0 ≤ sizeLine; decide), fun g ng => ?_⟩
      have ng0 := s1.free ng
      have s2 : Same H1 (upd H1 g (.lst [])) := (Same.refl H1).new ng
      have hg : upd H1 g (.lst []) g = some (.lst []) := upd_same
      generalize upd H1 g (.lst []) = H2 at s2 hg ⊢
      refine ⟨_, rfl, l, rfl, ⟨_, SqL.of (s2 _ _ h1)⟩, ?_⟩
      refine for_list (K := K) (a := l) (xs := xs) (fun j σ H' => ∃ (t3 : Option V) (us : List V), σ = [some (.int k), some (.ref l), some (.int (0 + (i : Int))), some (.ref g), t3] ∧ Same H1 H' ∧ H' g = some (.lst us) ∧ TL H' us (((sgnR i).take j).flatMap fun r => [r ++ [1], r ++ [-1]]))
        ⟨t3, [], rfl, s2, hg, .nil⟩ (fun j σ H' _ ⟨_, _, _, q, _⟩ => q.seq (SqL.of h1)) ?_ ?_
      · rintro j x σ H3 hj ⟨t4, us, rfl, s3, h3, tl3⟩
        obtain ⟨r, hr, a, rfl, ha⟩ := par_get tl hj
        have ha3 := s3 _ _ ha
        have rl := (sgnR_mem.mp (List.mem_of_getElem? hr)).1
        have jl : j < xs.length := (List.getElem?_eq_some_iff.mp hj).1
        have ul : us.length ≤ 256 := by
          rw [par_len tl3, fm2_len _ (fun _ => rfl), List.length_take, sgnR_length]
          have : 2 ^ i ≤ 2 ^ 7 := Nat.pow_le_pow_right (by decide) (by omega)
          omega
        refine ⟨_, rfl, .inl ⟨rfl, _, SqL.of h3⟩, _, rfl, (by show 1 ≤ sizeLine; decide), fun b nb => ?_⟩
        have s4 : Same H3 (upd H3 b (.tup [.int 1])) := (Same.refl H3).new nb
        have hb : upd H3 b (.tup [.int 1]) b = some (.tup [.int 1]) := upd_same
        generalize upd H3 b (.tup [.int 1]) = H4 at s4 hb ⊢
        refine catV (s4 _ _ ha3) hb (by rw [List.length_map]; show r.length + 1 ≤ 1000; omega) fun c H5 hc s5 => ?_
        have s35 := s4.trans s5
        refine ⟨_, rfl, _, rfl, (by show 1 ≤ sizeLine; decide), fun b2 nb2 => ?_⟩
        have s6 : Same H5 (upd H5 b2 (.tup [.int (-1)])) := (Same.refl H5).new nb2
        have hb2 : upd H5 b2 (.tup [.int (-1)]) b2 = some (.tup [.int (-1)]) := upd_same
        generalize upd H5 b2 (.tup [.int (-1)]) = H6 at s6 hb2 ⊢
        refine catV ((s35.trans s6) _ _ ha3) hb2 (by rw [List.length_map]; show r.length + 1 ≤ 1000; omega) fun c2 H7 hc2 s7 => ?_
        have s57 := s6.trans s7
        refine ⟨(by show 2 ≤ sizeLine; decide), fun z nz => ?_⟩
        have s8 : Same H7 (upd H7 z (.lst [.ref c, .ref c2])) := (Same.refl H7).new nz
        have hz : upd H7 z (.lst [.ref c, .ref c2]) z = some (.lst [.ref c, .ref c2]) := upd_same
        generalize upd H7 z (.lst [.ref c, .ref c2]) = H8 at s8 hz ⊢
        have s38 := (s35.trans s57).trans s8
        have h38 := s38 _ _ h3
        refine ⟨g, z, us, _, rfl, rfl, h38, hz, (by show us.length + 2 ≤ sizeLine; exact Nat.le_of_lt (sm (by omega))), ?_⟩
        have e1 : r.map V.int ++ [V.int 1] = (r ++ [1]).map V.int := by rw [List.map_append]; rfl
        have e2 : r.map V.int ++ [V.int (-1)] = (r ++ [-1]).map V.int := by rw [List.map_append]; rfl
        rw [e1] at hc
        rw [e2] at hc2
        have tl8 : TL H8 (us ++ [.ref c, .ref c2]) (((sgnR i).take (j + 1)).flatMap fun r => [r ++ [1], r ++ [-1]]) := by
          rw [← take_snoc hr, List.flatMap_append]
          exact par_app (tl3.same s38) (.cons ⟨c, rfl, s8 _ _ (s57 _ _ hc)⟩ (.cons ⟨c2, rfl, s8 _ _ hc2⟩ .nil))
        exact ⟨_, _, rfl, (s3.trans s38).mut ng, upd_same, TL.mut tl8 h38⟩
      · rintro σ H3 ⟨t4, us, rfl, s3, h3, tl3⟩
        rw [par_len tl, List.take_length, ← sgnR_succ] at tl3
        exact ⟨_, rfl, g, _, _, _, us, rfl, s1.trans s3, ng0, h3, tl3⟩
    · rintro σ H1 ⟨l, t1, t2, t3, xs, rfl, s1, nl, h1, tl⟩
      rw [Int.toNat_natCast] at tl
      exact ⟨_, rfl, q l xs H1 s1 nl h1 tl⟩
end
end K
namespace K
open PySem L2 Rg LamX
open Evl (pss_cut)
structure Bi2 (mg : Str → Option Value) : Prop where
  zip : mg "zip" = none
  set : mg "set" = none
theorem wide_len {ls : List Int} {k : Nat} (l3 : 3 ≤ ls.length) (l8 : ls.length ≤ 8) (k8 : k ≤ 8) (j : Nat) : (((lotsK ls.length k).take j).flatMap (hw ls)).length ≤ 70 * 128 := by
  have e : ∀ l : List (List Int), (∀ x ∈ l, x.length ≤ 8) → (l.flatMap (hw ls)).length ≤ l.length * 128 := by
    intro l
    induction l with
    | nil => intro _; simp
    | cons x l ih =>
      intro h
      rw [List.flatMap_cons, List.length_append, List.length_cons]
      have h1 := ih fun y m => h y (List.mem_cons_of_mem _ m)
      have h2 : (hw ls x).length ≤ 128 := by
        unfold hw
        refine Nat.le_trans (List.length_filter_le ..) ?_
        unfold waysL
        rw [List.length_map, sgnR_length]
        have := h x (List.mem_cons_self ..)
        exact Nat.pow_le_pow_right (by decide) (show x.length - 1 ≤ 7 by omega)
      omega
  have h := e ((lotsK ls.length k).take j) fun x m => by
    have z := ((lotsK_mem l3 l8 k8).mp (List.mem_of_mem_take m)).2
    omega
  have l70 := lotsK_len l3 l8 k8
  have : ((lotsK ls.length k).take j).length ≤ 70 := by rw [List.length_take]; omega
  exact Nat.le_trans h (Nat.mul_le_mul_right _ this)
theorem pairs_st {H : Hp} : ∀ {ts : List Addr} {lot row : List Int}, PairsAt H ts ((lot.map V.int).zip (row.map V.int)) → Paired (SPat H) (ts.map V.ref) (lot.zip row)
  | [], [], _, _ => .nil
  | [], _ :: _, [], _ => .nil
  | t :: ts, x :: lot, y :: row, .cons h p => .cons ⟨t, rfl, h⟩ (pairs_st p)
theorem sums_mem {ls : List Int} {i : Nat} {z y : Int} (h : ls[i]? = some z) : y ∈ sumsOf (ls.take (i + 1)) ↔ (y ∈ sumsOf (ls.take i) ∨ ∃ o ∈ sumsOf (ls.take i), o + z = y) := by
  rw [sums_take h, List.mem_append, List.mem_map]
section
variable {P : Program} {w : World} {K : PySem.W.Frag} {mg : Str → Option Value} {base : Heap}
/-! ### _law_wide -/
def spWD : Sp := fun vs H Q _ => ∃ (la : Addr) (ls : List Int) (k : Nat), vs = [.ref la, .int k] ∧ H la = some (.lst (ls.map V.int)) ∧ 3 ≤ ls.length ∧ ls.length ≤ 8 ∧ 1 ≤ k ∧ k ≤ 8 ∧ ∀ p xs H', Same H H' → H p = none → H' p = some (.lst xs) → Paired (LWy H') xs (wide ls k) → Q (.ref p) H'
abbrev nWD : List Str := ["_law_lengths_here", "_law_size", "_law_found", "_law_many", "_law_lot", "_law_alone", "_law_row", "_law_strands", "_law_bar"]
theorem scWD : FnScope nWD ["_law_lengths_here", "_law_size"] (defScope sLwWide) := ⟨rfl, rfl, rfl, by decide +kernel, rfl, by decide +kernel, by decide +kernel⟩
theorem ok_wd {f fL fR fH : Addr} {fd fdL fdR fdH : FuncData} (F : Fun K "_law_wide" "_law_wide" sLwWide f fd) (T : Bi mg) (B2 : Bi2 mg) (LT : DefAt P w K mg base CX0 1 "_law_lots" ["_law_many", "_law_size"] spLT fL fdL) (RW : DefAt P w K mg base CX0 1 "_law_rows" ["_law_many"] spRW fR fdR)
    (IHD : DefAt P w K mg base CX0 1 "_law_is_had" ["_law_lengths_here", "_law_strands"] (spIHD K) fH fdH) : FnOk P w K mg base CX0 2 f fd ["_law_lengths_here", "_law_size"] spWD := by
  refine F.ok scWD (fun vs H Q E h => ?_) (fun cdv A outer s H vs Q E hr h => ?_)
  · obtain ⟨la, ls, k, rfl, _⟩ := h
    rfl
  · have nd := scWD.nd
    refine ⟨_, (pss_cons (ps_par (i := 2) (j := 3) (by rfl) nd rfl rfl (by decide) rfl rfl (pa_cons (pe_lst pa_nil) (pa_cons (pe_callB (r := rLenS K) call_len_seq (by rfl) T.len PySem.boot_len (pa_cons (pv 0) pa_nil)) pa_nil)) (by rfl))
      (pss_cons (ps_for PassesOwn.never rfl (pi_list (pe_call LT.ok (hr.mono (by decide)) rfl LT.g LT.kp LT.b .nil pass0 (pa_cons (pv 3) (pa_cons (pv 1) pa_nil)))) (pg_name (i := 4) nd rfl (Or.inr rfl)) (pss_cons (ps_setLc (i := 5) (own := [("_law_bar", 8)]) (g := (gName 8)) (tt := tTest (tOp (rIn K true) (tVar 8) (tVar 4))) (te := tLst (tCons (tTup (tCons (tVar 8) (tCons (tC (.int 1)) tNil))) tNil))  rfl nd rfl rfl (sw_true rfl rfl rfl (by decide +kernel)) (pi_range1 (by rfl) T.range (pa_cons (pv 3) pa_nil))
          (blkOk_by (N := nWD) (sc := defScope sLwWide) (by decide +kernel)) (fun _ _ _ _ _ => (pg_name (i := 8) nd rfl (Or.inl rfl))) (fun _ _ _ _ _ => (pts_one (pt_cmpR op_notIn_seq (pv 8) (pv 4) (by rfl)))) (fun _ _ _ _ _ => (pe_lst (pa_cons (pe_tup (pa_cons (pv 8) (pa_cons pe_int pa_nil))) pa_nil))))
      (pss_one (ps_for PassesOwn.never rfl (pi_list (pe_call RW.ok (hr.mono (by decide)) rfl RW.g RW.kp RW.b .nil pass0 (pa_cons (pe_op op_sub (pv 1) pe_int) pa_nil))) (pg_name (i := 6) nd rfl (Or.inl rfl)) (pss_cons (ps_set (i := 7) nd rfl (Or.inl rfl) (pe_op op_cat (pe_lst (pa_cons (pe_listZip rfl (by rfl) T.list (by rfl) B2.zip (pa_cons (pv 4) (pa_cons (pe_op op_catA (pe_tup (pa_cons pe_int pa_nil)) (pv 6)) pa_nil))) pa_nil)) (pv 5)))
      (pss_one (ps_if (pt_val (pe_call IHD.ok (hr.mono (by decide)) rfl IHD.g IHD.kp IHD.b .nil pass0 (pa_cons (pv 0) (pa_cons (pv 7) pa_nil)))) (pss_one (ps_expr (pe_bm PySem.F.plainAttrs_list PySem.F.slot_list_append PySem.F.type_list_append mt_append (pv 2) (pa_cons (pv 7) pa_nil)))) pss_nil)))))))
      (pss_one (ps_ret (pv 2))))), ?_⟩
    obtain ⟨la, ls, k, rfl, hla, l3, l8, k1, k8, q⟩ := h
    refine ⟨(by show 0 ≤ sizeLine; decide), fun g ng => ?_⟩
    have s1 : Same H (upd H g (.lst [])) := (Same.refl H).new ng
    have hg : upd H g (.lst []) g = some (.lst []) := upd_same
    generalize upd H g (.lst []) = H1 at s1 hg ⊢
    refine ⟨_, rfl, la, _, rfl, .inl (SqL.of (s1 _ _ hla)), ?_⟩
    rw [List.length_map]
    refine ⟨_, _, rfl, _, rfl, _, rfl, ls.length, k, rfl, l3, l8, k8, fun p xs H2 s2 np hp tl => ⟨p, rfl, ⟨_, SqL.of hp⟩, ?_⟩⟩
    have s02 := s1.trans s2
    have Ng : H1 g ≠ none := fun z => by rw [hg] at z; cases z
    have gp : p ≠ g := fun z => by rw [z, hg] at np; cases np
    have xl : xs.length ≤ 70 := by rw [par_len tl]; exact lotsK_len l3 l8 k8
    refine for_list (K := K) (a := p) (xs := xs) (fun i σ H' => ∃ (us : List V) (z4 z5 z6 z7 : Option V), σ = [some (.ref la), some (.int k), some (.ref g), some (.int (ls.length : Nat)), z4, z5, z6, z7, none] ∧ Same H H' ∧ H' p = some (.lst xs) ∧ TL H' xs (lotsK ls.length k) ∧ H' g = some (.lst us) ∧ Paired (LWyN (fun a => a = g) H') us (((lotsK ls.length k).take i).flatMap (hw ls)))
      ⟨[], none, none, none, none, rfl, s02, hp, tl, s2 _ _ hg, .nil⟩ (fun i σ H' _ ⟨_, _, _, _, _, _, _, q, _⟩ => SqL.of q) ?_ ?_
    · rintro i x σ H3 hi ⟨us, z4, z5, z6, z7, rfl, s3, hp3, tl3, hg3, pu⟩
      obtain ⟨lot, hlot, a0, rfl, ha0⟩ := par_get tl3 hi
      have lm := (lotsK_mem l3 l8 k8).mp (List.mem_of_getElem? hlot)
      have lt := lotsN_lot lm.1
      have ll := lm.2
      have rlen := rest_length lt
      have lot8 := lot_len lt
      -- the other bars
      refine ⟨_, rfl, _, rfl, by omega, by omega, fun D hD => ?_⟩
      refine lc_range (lo := 0) (n := ((ls.length : Nat) : Int).toNat) (fun j H' => Same H3 H' ∧ ∃ ws, H' D = some (.lst ws) ∧ Paired (LStN (fun a => a = g ∨ a = D) H') ws ((restN ls.length lot j).map fun b => [(b, (1 : Int))])) ⟨(Same.refl H3).new hD, [], upd_same, .nil⟩ ?_ ?_
      · rintro j H4 hj ⟨s4, ws, h4, pw⟩
        rw [Int.zero_add]
        refine ⟨rfl, _, rfl, _, rfl, a0, _, rfl, .inr (.inl (.inl (s4 _ _ ha0))), rfl, flat_ints _, _, rfl, ?_⟩
        have eb : inV (.int (j : Int)) (lot.map V.int) = hasB lot j := inV_int _ _
        show (if (!inV (.int (j : Int)) (lot.map V.int)) = true then _ else _)
        rw [eb]
        cases e : hasB lot j with
        | true => exact iteF ⟨s4, ws, h4, by rw [rest_out e]; exact pw⟩
        | false =>
          refine iteT ⟨_, rfl, (by show 2 ≤ sizeLine; decide), fun b nb => ⟨(by show 1 ≤ sizeLine; decide), fun c nc => ?_⟩⟩
          have s5 : Same H4 (upd H4 b (.tup [.int (j : Int), .int 1])) := (Same.refl H4).new nb
          have hb : upd H4 b (.tup [.int (j : Int), .int 1]) b = some (.tup [.int (j : Int), .int 1]) := upd_same
          generalize upd H4 b (.tup [.int (j : Int), .int 1]) = H5 at s5 hb nc ⊢
          have s6 : Same H5 (upd H5 c (.lst [.ref b])) := (Same.refl H5).new nc
          have hc : upd H5 c (.lst [.ref b]) c = some (.lst [.ref b]) := upd_same
          generalize upd H5 c (.lst [.ref b]) = H6 at s6 hc ⊢
          have s46 := s5.trans s6
          have h46 := s46 _ _ h4
          have cD : c ≠ D := fun z => by rw [z, s5 _ _ h4] at nc; cases nc
          have cg : c ≠ g := fun z => by rw [z, (s4.trans s5) _ _ hg3] at nc; cases nc
          have sN : LStN (fun a => a = g ∨ a = D) H6 (.ref c) [((j : Int), (1 : Int))] := ⟨c, [.ref b], rfl, fun z => z.elim cg cD, hc, .cons ⟨b, rfl, s6 _ _ hb⟩ .nil⟩
          refine ⟨ws, h46, ?_, (s4.trans s46).mut hD, _, upd_same, ?_⟩
          · have := rest_len (n := ls.length) (ns := lot) (i := j)
            rw [par_len pw, List.length_map]
            exact sm (by omega)
          · rw [rest_in e, List.map_append]
            exact par_app (par_imp (fun _ _ z => (z.same s46).mut (.inr rfl) h46) pw) (.cons (sN.mut (.inr rfl) h46) .nil)
      · rintro H4 ⟨s4, ws, h4, pw⟩
        rw [Int.toNat_natCast] at pw
        have wl : ws.length ≤ 8 := by
          rw [par_len pw, List.length_map]
          omega
        have hg4 := s4 _ _ hg3
        have Dg : D ≠ g := fun z => by rw [z, hg3] at hD; cases hD
        refine ⟨_, rfl, _, _, rfl, rfl, k - 1, ?_, by omega, fun rp rs H5 s5 nrp hrp tlr => ⟨rp, rfl, ⟨_, SqL.of hrp⟩, ?_⟩⟩
        · show [V.int ((k : Int) - 1)] = _
          rw [show ((k : Int) - 1) = ((k - 1 : Nat) : Int) by omega]
        have s35 := s4.trans s5
        have rpg : rp ≠ g := fun z => by rw [z, hg4] at nrp; cases nrp
        have rsl : rs.length = (sgnR (lot.length - 1)).length := by rw [par_len tlr, ll]
        refine for_list (K := K) (a := rp) (xs := rs) (fun j σ H' => ∃ (us : List V) (z6 z7 : Option V), σ = [some (.ref la), some (.int k), some (.ref g), some (.int (ls.length : Nat)), some (.ref a0), some (.ref D), z6, z7, none] ∧ Same H H' ∧ H' p = some (.lst xs) ∧ TL H' xs (lotsK ls.length k) ∧ H' rp = some (.lst rs) ∧ TL H' rs (sgnR (lot.length - 1)) ∧ H' D = some (.lst ws) ∧ Paired (LStN (fun a => a = g) H') ws ((restN ls.length lot ls.length).map fun b => [(b, (1 : Int))]) ∧ H' g = some (.lst us) ∧
            Paired (LWyN (fun a => a = g) H') us (((lotsK ls.length k).take i).flatMap (hw ls) ++ (((sgnR (lot.length - 1)).take j).map (wayL ls.length lot)).filter (hadW ls)))
          ⟨us, z6, z7, rfl, s3.trans s35, s35 _ _ hp3, tl3.same s35, hrp, by rw [ll]; exact tlr, s5 _ _ h4, par_imp (fun _ _ z => (z.same s5).imp fun a e => .inl e) pw, s35 _ _ hg3, by
            rw [List.take_zero, List.map_nil, List.filter_nil, List.append_nil]
            exact par_imp (fun _ _ z => z.same s35) pu⟩ (fun j σ H' _ ⟨_, _, _, _, _, _, _, q, _⟩ => SqL.of q) ?_ ?_
        · rintro j y σ H6 hj ⟨us6, z6, z7, rfl, s6, hp6, tl6, hrp6, tlr6, hD6, pw6, hg6, pu6⟩
          obtain ⟨row, hrow, b0, rfl, hb0⟩ := par_get tlr6 hj
          have rm := List.mem_of_getElem? hrow
          have gw := wayL_good l8 lt (by omega) rm
          have el := row_len (by omega) rm
          have rlen1 := (sgnR_mem.mp rm).1
          have ul : us6.length ≤ 70 * 128 + 128 := by
            rw [par_len pu6, List.length_append]
            have h1 := wide_len l3 l8 k8 i
            have h2 : ((((sgnR (lot.length - 1)).take j).map (wayL ls.length lot)).filter (hadW ls)).length ≤ 128 := by
              refine Nat.le_trans (List.length_filter_le ..) ?_
              rw [List.length_map, List.length_take, sgnR_length]
              have : 2 ^ (lot.length - 1) ≤ 2 ^ 7 := Nat.pow_le_pow_right (by decide) (by omega)
              omega
            omega
          have ha6 : H6 a0 = some (.tup (lot.map V.int)) := by
            obtain ⟨l', hl', a', e', h'⟩ := par_get tl6 hi
            rw [hlot] at hl'
            cases hl'
            cases e'
            exact h'
          refine ⟨_, rfl, (by show 1 ≤ sizeLine; decide), fun b nb => ?_⟩
          have s7 : Same H6 (upd H6 b (.tup [.int 1])) := (Same.refl H6).new nb
          have hb : upd H6 b (.tup [.int 1]) b = some (.tup [.int 1]) := upd_same
          generalize upd H6 b (.tup [.int 1]) = H7 at s7 hb ⊢
          refine ⟨_, rfl, catV hb (s7 _ _ hb0) (by rw [List.length_map]; show 1 + row.length ≤ 1000; omega) fun c H8 hc s8 => ?_⟩
          have s68 := s7.trans s8
          have hc : H8 c = some (.tup (((1 : Int) :: row).map V.int)) := hc
          refine ⟨a0, c, _, _, rfl, .inr ⟨.inl (.inl (s68 _ _ ha6)), .inl (.inl hc)⟩, fun pz ts H9 s9 npz nts hpz pat => ⟨(by show 1 ≤ sizeLine; decide), fun z nz => ?_⟩⟩
          have s69 := s68.trans s9
          have s10 : Same H9 (upd H9 z (.lst [.ref pz])) := (Same.refl H9).new nz
          have hz : upd H9 z (.lst [.ref pz]) z = some (.lst [.ref pz]) := upd_same
          generalize upd H9 z (.lst [.ref pz]) = H10 at s10 hz ⊢
          have s610 := s69.trans s10
          have wl6 := wl
          refine ⟨_, rfl, z, D, [.ref pz], ws, rfl, rfl, hz, s610 _ _ hD6, (by show 1 + ws.length ≤ sizeLine; exact Nat.le_of_lt (sm (by omega))), fun q2 nq2 => ?_⟩
          have s11 : Same H10 (upd H10 q2 (.lst ([.ref pz] ++ ws))) := (Same.refl H10).new nq2
          have hq2 : upd H10 q2 (.lst ([.ref pz] ++ ws)) q2 = some (.lst ([.ref pz] ++ ws)) := upd_same
          generalize upd H10 q2 (.lst ([.ref pz] ++ ws)) = H11 at s11 hq2 ⊢
          have s611 := s610.trans s11
          have hg11 := s611 _ _ hg6
          have pzg : pz ≠ g := fun e => by rw [e, s68 _ _ hg6] at npz; cases npz
          have qg : q2 ≠ g := fun e => by rw [e, s610 _ _ hg6] at nq2; cases nq2
          have stP : LStN (fun a => a = g) H11 (.ref pz) (lot.zip (1 :: row)) := ⟨pz, ts.map V.ref, rfl, pzg, (s10.trans s11) _ _ hpz, par_imp (fun _ _ z => z.same (s10.trans s11)) (pairs_st pat)⟩
          have wP : LWyN (fun a => a = g) H11 (.ref q2) (wayL ls.length lot row) := ⟨q2, _, rfl, qg, hq2, .cons stP (par_imp (fun _ _ z => z.same s611) pw6)⟩
          refine ⟨_, rfl, _, rfl, la, .ref q2, ls, wayL ls.length lot row, rfl, (s6.trans s611) _ _ hla, wP.wy, good_fit gw, fun H12 s12 => ⟨_, rfl, ?_⟩⟩
          have s612 := s611.trans s12
          have hg12 := s12 _ _ hg11
          cases e : hadW ls (wayL ls.length lot row) with
          | true =>
            refine iteT ⟨_, rfl, .inl ⟨rfl, _, SqL.of hg12⟩, _, rfl, g, us6, _, rfl, rfl, hg12, szl (by omega), ?_⟩
            have rpg6 : rp ≠ g := rpg
            refine ⟨us6 ++ [.ref q2], _, _, rfl, (s6.trans s612).mut ng, by rw [upd_ne gp]; exact s612 _ _ hp6, TL.mut (tl6.same s612) hg12, by rw [upd_ne rpg6]; exact s612 _ _ hrp6, TL.mut (tlr6.same s612) hg12, by rw [upd_ne Dg]; exact s612 _ _ hD6, par_imp (fun _ _ z => (z.same s612).mut rfl hg12) pw6, upd_same, ?_⟩
            have e1 : ([row].map (wayL ls.length lot)).filter (hadW ls) = [wayL ls.length lot row] := by simp [e]
            rw [← take_snoc hrow, List.map_append, List.filter_append, ← List.append_assoc, e1]
            exact par_app (par_imp (fun _ _ z => (z.same s612).mut rfl hg12) pu6) (.cons ((wP.same s12).mut rfl hg12) .nil)
          | false =>
            refine iteF ?_
            refine ⟨us6, _, _, rfl, s6.trans s612, s612 _ _ hp6, tl6.same s612, s612 _ _ hrp6, tlr6.same s612, s612 _ _ hD6, par_imp (fun _ _ z => z.same s612) pw6, hg12, ?_⟩
            have e1 : ([row].map (wayL ls.length lot)).filter (hadW ls) = [] := by simp [e]
            rw [← take_snoc hrow, List.map_append, List.filter_append, e1, List.append_nil]
            exact par_imp (fun _ _ z => z.same s612) pu6
        · rintro σ H6 ⟨us6, z6, z7, rfl, s6, hp6, tl6, hrp6, tlr6, hD6, pw6, hg6, pu6⟩
          rw [rsl, List.take_length] at pu6
          refine ⟨us6, _, _, _, _, rfl, s6, hp6, tl6, hg6, ?_⟩
          rw [← take_snoc hlot, List.flatMap_append]
          have z : Paired (LWyN (fun a => a = g) H6) us6 (((lotsK ls.length k).take i).flatMap (hw ls) ++ hw ls lot) := pu6
          simpa using z
    · rintro σ H3 ⟨us, z4, z5, z6, z7, rfl, s3, hp3, tl3, hg3, pu⟩
      rw [par_len tl, List.take_length] at pu
      exact ⟨_, rfl, q g us H3 s3 ng hg3 (par_imp (fun _ _ z => z.wy) pu)⟩
/-! ### _law_is_level -/
def spLVL : Sp := fun vs H Q _ => ∃ (la : Addr) (ls : List Int), vs = [.ref la] ∧ H la = some (.lst (ls.map V.int)) ∧ ls.length ≤ 8 ∧ ∀ H', Same H H' → Q (.bl (levelB ls)) H'
abbrev nLVL : List Str := ["_law_lengths_here", "_law_sums", "_law_length", "_law_one"]
theorem scLVL : FnScope nLVL ["_law_lengths_here"] (defScope sLwIsLevel) := ⟨rfl, rfl, rfl, by decide +kernel, rfl, by decide +kernel, by decide +kernel⟩
theorem ok_lvl {f : Addr} {fd : FuncData} (F : Fun K "_law_is_level" "_law_is_level" sLwIsLevel f fd) (T : Bi mg) (B2 : Bi2 mg) : FnOk P w K mg base CX0 1 f fd ["_law_lengths_here"] spLVL := by
  refine F.ok scLVL (fun vs H Q E h => ?_) (fun cdv A outer s H vs Q E hr h => ?_)
  · obtain ⟨la, ls, rfl, _⟩ := h
    rfl
  · have nd := scLVL.nd
    refine ⟨_, (pss_cons (ps_set (i := 1) nd rfl (Or.inl rfl) (pe_lst (pa_cons pe_int pa_nil)))
      (pss_cons (ps_for PassesOwn.never rfl (pi_list (pv 0)) (pg_name (i := 2) nd rfl (Or.inr rfl)) (pss_one (ps_set (i := 1) nd rfl (Or.inl rfl) (pe_callB (cr_sortedSetN rfl) (by rfl) T.sorted (by decide +kernel) (pa_cons (pe_callTy (cr_setL rfl) (by rfl) B2.set (by decide +kernel) (pa_cons (pe_op op_cat (pv 1) (pe_lc (own := [("_law_one", 3)]) (g := gName 3) (tt := tYes) (te := tOp (rI0 fun i j => .int (i + j)) (tVar 3) (tVar 2)) rfl nd (pi_list (pv 1)) (blkOk_by (N := nLVL) (sc := defScope sLwIsLevel) (by decide +kernel)) (fun _ _ _ _ _ => pg_name (i := 3) nd rfl (Or.inl rfl)) (fun _ _ _ _ _ => pts_nil) (fun _ _ _ _ _ => pe_op op_add (pv 3) (pv 2)))) pa_nil)) pa_nil)))))
      (pss_one (ps_ret (pe_and (pe_cmpR op_eq (pe_op op_mod (pe_callB (cr_sum rfl) (by rfl) T.sum (by decide +kernel) (pa_cons (pv 0) pa_nil)) pe_int) pe_int (nomark _)) (pe_one (pe_cmpR op_in_seq (pe_op op_fdiv (pe_callB (cr_sum rfl) (by rfl) T.sum (by decide +kernel) (pa_cons (pv 0) pa_nil)) pe_int) (pv 1) (by rfl)))))))), ?_⟩
    obtain ⟨la, ls, rfl, hla, l8, q⟩ := h
    refine ⟨(by show 1 ≤ sizeLine; decide), fun l0 hl0 => ?_⟩
    have s0 : Same H (upd H l0 (.lst [.int 0])) := (Same.refl H).new hl0
    refine ⟨_, rfl, la, rfl, ⟨_, SqL.of (s0 _ _ hla)⟩, for_list (K := K) (a := la) (xs := ls.map V.int) (fun i σ H' => ∃ (l : Addr) (z : Option V) (S : List Int), σ = [some (.ref la), some (.ref l), z, none] ∧ Same H H' ∧ H' l = some (.lst (S.map V.int)) ∧ S.length ≤ 2 ^ i ∧ ∀ y, y ∈ S ↔ y ∈ sumsOf (ls.take i))
      ⟨l0, none, [0], rfl, s0, upd_same, Nat.le_refl _, fun y => Iff.rfl⟩ (fun i σ H' _ ⟨_, _, _, _, s, _⟩ => SqL.of (s _ _ hla)) ?_ ?_⟩
    · rintro i x σ H' hi ⟨l, z, S, rfl, s1, h1, sl, sm1⟩
      obtain ⟨z, hz, rfl⟩ := int_at hi
      have hil : i < ls.length := (List.getElem?_eq_some_iff.mp hz).1
      have p2 : 2 ^ i ≤ 2 ^ 7 := Nat.pow_le_pow_right (by decide) (by omega)
      have p3 : 2 ^ (i + 1) = 2 ^ i + 2 ^ i := by rw [Nat.pow_succ]; omega
      refine ⟨_, rfl, _, rfl, l, rfl, ⟨_, SqL.of h1⟩, fun D hD => ?_⟩
      refine lc_list (K := K) (a := l) (xs := S.map V.int) (fun j H2 => Same H' H2 ∧ H2 D = some (.lst (((S.take j).map fun y => y + z).map V.int))) ⟨(Same.refl H').new hD, upd_same⟩ (fun j H2 _ p => p.1.seq (SqL.of h1)) ?_ ?_
      · rintro j y H2 hj ⟨s2, h2⟩
        obtain ⟨o, ho, rfl⟩ := int_at hj
        refine ⟨rfl, _, rfl, _, rfl, _, _, rfl, rfl, _, h2, (by rw [List.length_map, List.length_map, List.length_take]; exact sm (by omega)), s2.mut hD, ?_⟩
        rw [upd_same, ← take_snoc ho, List.map_append, List.map_append]
        rfl
      · rintro H2 ⟨s2, h2⟩
        rw [List.length_map, List.take_length] at h2
        refine ⟨l, D, _, _, rfl, rfl, s2 _ _ h1, h2, (by simp only [List.length_map]; exact Nat.le_of_lt (sm (by omega))), fun p hp => ?_⟩
        rw [← List.map_append]
        have s3 : Same H2 (upd H2 p (.lst ((S ++ S.map fun y => y + z).map V.int))) := (Same.refl H2).new hp
        have h3 : upd H2 p (.lst ((S ++ S.map fun y => y + z).map V.int)) p = some (.lst ((S ++ S.map fun y => y + z).map V.int)) := upd_same
        generalize upd H2 p (.lst ((S ++ S.map fun y => y + z).map V.int)) = H3 at s3 h3 ⊢
        refine ⟨p, S ++ S.map fun y => y + z, rfl, SqL.of h3, by rw [List.length_append, List.length_map]; omega, fun p2 ks nk mk lk np2 => ?_⟩
        rw [List.length_append, List.length_map] at lk
        have s4 : Same H3 (upd H3 p2 (SetO w p2 (fun j => decide (j ∈ S ++ S.map fun y => y + z)) ks.length)) := (Same.refl H3).new np2
        refine ⟨p2, _, ks.length, rfl, upd_same, by omega, fun zs p3' od mz lz np3 => ?_⟩
        refine ⟨p3', _, zs, rfl, (((s1.trans s2).trans s3).trans s4).new np3, upd_same, by omega, fun y => ?_⟩
        rw [mz, decide_eq_true_eq, sums_mem hz, List.mem_append, List.mem_map, sm1]
        constructor
        · rintro (m | ⟨o, mo, e⟩)
          · exact .inl m
          · exact .inr ⟨o, (sm1 o).mp mo, e⟩
        · rintro (m | ⟨o, mo, e⟩)
          · exact .inl m
          · exact .inr ⟨o, (sm1 o).mpr mo, e⟩
    · rintro σ H' ⟨l, z, S, rfl, s1, h1, sl, sm1⟩
      rw [List.length_map, List.take_length] at sm1
      have hla1 := s1 _ _ hla
      have ev := q H' s1
      refine ⟨_, rfl, la, ls, rfl, SqL.of hla1, _, _, rfl, rfl, (by show (0 : Int) < 2; decide), rfl, _, rfl, ?_⟩
      by_cases c : ls.sum % 2 = 0
      · refine iteDT (congrArg V.int c) ?_
        refine ⟨_, rfl, la, ls, rfl, SqL.of hla1, _, _, rfl, rfl, ⟨(by show (0 : Int) < 2; decide), (by show (2 : Int) < 1073741824; decide)⟩, _, rfl, l, _, rfl, .inl (SqL.of h1), rfl, flat_ints _, ?_⟩
        have e : inV (.int (ls.sum / 2)) (S.map V.int) = levelB ls := by
          rw [inV_int, Bool.eq_iff_iff, List.any_eq_true]
          unfold levelB
          rw [List.any_eq_true]
          constructor
          · rintro ⟨y, my, hy⟩
            have := of_decide_eq_true hy
            exact ⟨y, (sm1 y).mp my, decide_eq_true (by omega)⟩
          · rintro ⟨y, my, hy⟩
            have := of_decide_eq_true hy
            exact ⟨y, (sm1 y).mpr my, decide_eq_true (by omega)⟩
        show Q (.bl (inV (.int (ls.sum / 2)) (S.map V.int))) H'
        rw [e]
        exact ev
      · refine iteDF (fun z => c (V.int.inj z)) ?_
        have e : levelB ls = false := by
          cases h : levelB ls with
          | false => rfl
          | true => exact absurd (even_of h) c
        rw [e] at ev
        exact ev
end
end K
namespace Rg
open PySem PySem.Spec PyProof.Rows L2
/-! ### a list compared with an empty list, whatever it holds -/
section
variable {X : Cx}
def rNeE (K : PySem.W.Frag) : R2 := fun x y H Q => ∃ (a b : Addr) (xs : List V), x = .ref a ∧ y = .ref b ∧ SqL K H a xs ∧ SqL K H b [] ∧ Q (.bl (!xs.isEmpty)) H
def rEqE (K : PySem.W.Frag) : R2 := fun x y H Q => ∃ (a b : Addr) (xs : List V), x = .ref a ∧ y = .ref b ∧ SqL K H a xs ∧ SqL K H b [] ∧ Q (.bl xs.isEmpty) H
theorem op_neE (hu : X.A.units + 64 < cLine) : OpR X (compareOp .NotEq) (rNeE X.K) := by
  intro pins s σ H x y v u Q I rx ry ⟨a, b, xs, ex, ey, ha, hb, q⟩
  subst ex ey
  cases rx
  cases ry
  obtain ⟨its, r1, t1, z1⟩ := I.list ha
  obtain ⟨its2, r2, t2, z2⟩ := I.list hb
  cases r2
  show wpAny (model X.prog X.w) X.A (richCompare .NotEq (.ref a) (.ref b)) (EP X pins σ Q) X.xe s
  cases r1 with
  | nil =>
    have z := SeqAt.RcNeAt.lists (A := X.A) (e := fun _ => true) t1.isList t2.isList rfl (by omega) (fun j h1 h2 => absurd h1 (Nat.not_lt_zero _))
    exact z X.prog X.w X.xe _ ⟨.bl false, H, I, rfl, q⟩
  | cons r rr =>
    have z := SeqAt.RcNeAt.lists_lengths (A := X.A) t1.isList t2.isList (by simp) (by omega)
    exact z X.prog X.w X.xe _ ⟨.bl true, H, I, rfl, q⟩
theorem op_eqE (hu : X.A.units + 64 < cLine) : OpR X (compareOp .Eq) (rEqE X.K) := by
  intro pins s σ H x y v u Q I rx ry ⟨a, b, xs, ex, ey, ha, hb, q⟩
  subst ex ey
  cases rx
  cases ry
  obtain ⟨its, r1, t1, z1⟩ := I.list ha
  obtain ⟨its2, r2, t2, z2⟩ := I.list hb
  cases r2
  show wpAny (model X.prog X.w) X.A (richCompare .Eq (.ref a) (.ref b)) (EP X pins σ Q) X.xe s
  cases r1 with
  | nil =>
    have z := SeqAt.RcAt.lists (A := X.A) (e := fun _ => true) t1.isList t2.isList rfl (by omega) (fun j h1 h2 => absurd h1 (Nat.not_lt_zero _))
    exact z X.prog X.w X.xe _ ⟨.bl true, H, I, rfl, q⟩
  | cons r rr =>
    have z := SeqAt.RcAt.lists_lengths (A := X.A) t1.isList t2.isList (by simp) (by omega)
    exact z X.prog X.w X.xe _ ⟨.bl false, H, I, rfl, q⟩
end
end Rg
namespace K
open PySem L2 Rg LamX
open Evl (pss_cut)
abbrev gK2 {α : Type} : List α → List α → List α := fun us ws => match us, ws with
  | [], [b, r] => [r, b]
  | _, _ => []
abbrev gK1 {α : Type} : List α → List α → List α := fun us ws => match us, ws with
  | [], [r] => [r]
  | _, _ => []
abbrev gM2 {α : Type} : List α → List α → List α := fun us ws => match us, ws with
  | [a], [b] => [a, b]
  | _, _ => []
/-! ### how many bars the strands of these ways have -/
theorem lens_due (way : List Strd) : (lensW (dueW way)).Perm (lensW way) := by
  have p : (dueW way).Perm (way.map asS) := srtW_perm _
  have e : lensW (way.map asS) = lensW way := by
    unfold lensW
    rw [List.map_map]
    exact List.map_congr_left fun st _ => by show ((asS st).length : Int) = _; rw [asS_len]
  rw [← e]
  exact p.map _
theorem lens_way {n : Nat} {lot row : List Int} (e : lot.length = ((1 : Int) :: row).length) : lensW (wayL n lot row) = (lot.length : Int) :: List.replicate (restN n lot n).length 1 := by
  unfold lensW wayL
  rw [List.map_cons, List.map_map, List.length_zip, ← e, Nat.min_self]
  congr 1
  generalize restN n lot n = l
  induction l with
  | nil => rfl
  | cons x l ih => rw [List.map_cons, ih]; rfl
theorem sizes_most {ls : List Int} {lot row S : List Int} (l3 : 3 ≤ ls.length) (lt : Lot ls.length lot) (e : lot.length = ((1 : Int) :: row).length) (k : lot.length = mostK ls) (pm : S.Perm (lensW (dueW (wayL ls.length lot row)))) (od : S.Pairwise (· ≤ ·)) : S = sizesL ls := by
  have p := pm.trans (lens_due _)
  rw [lens_way e] at p
  have rl := rest_length lt
  unfold mostK at k
  unfold sizesL
  by_cases c : levelB ls = true
  · rw [if_pos c] at k ⊢
    rw [show (restN ls.length lot ls.length).length = 0 by omega, k] at p
    exact List.perm_singleton.mp p
  · rw [if_neg c] at k ⊢
    rw [show (restN ls.length lot ls.length).length = 2 by omega, k] at p
    refine sorted_eqI (p.trans ?_) od ?_
    · have e2 : ((ls.length - 2 : Nat) : Int) = (ls.length : Int) - 2 := by omega
      rw [e2]
      exact (List.perm_append_comm (l₁ := [(ls.length : Int) - 2]) (l₂ := [1, 1]))
    · refine List.Pairwise.cons (fun y m => ?_) (.cons (fun y m => ?_) (.cons (fun _ z => nomatch z) .nil))
      · rcases List.mem_cons.mp m with rfl | m
        · exact Int.le_refl _
        · rw [List.mem_singleton.mp m]; omega
      · rw [List.mem_singleton.mp m]; omega
theorem sizes_fewer {ls : List Int} {lot row S : List Int} (l3 : 3 ≤ ls.length) (lt : Lot ls.length lot) (e : lot.length = ((1 : Int) :: row).length) (k : lot.length + 1 = mostK ls) (pm : S.Perm (lensW (dueW (wayL ls.length lot row)))) : decide (S = sizesL ls) = false := by
  have p := (pm.trans (lens_due _)).length_eq
  rw [lens_way e, List.length_cons, List.length_replicate] at p
  have rl := rest_length lt
  refine decide_eq_false fun z => ?_
  rw [z] at p
  unfold mostK at k
  unfold sizesL at p
  by_cases c : levelB ls = true
  · rw [if_pos c] at k p
    have p2 : 1 = (restN ls.length lot ls.length).length + 1 := p
    omega
  · rw [if_neg c] at k p
    have p2 : 3 = (restN ls.length lot ls.length).length + 1 := p
    omega
/-- signs that are cut -/
theorem cut_zip : ∀ (a b : List Int), a.zip b = a.zip (b.take a.length)
  | [], b => by simp
  | x :: a, [] => by simp
  | x :: a, y :: b => by
    rw [List.length_cons, List.take_succ_cons, List.zip_cons_cons, List.zip_cons_cons, ← cut_zip a b]
theorem LSt.ext {H H' : Hp} {v : V} {q : Strd} (h : LSt H v q) (s : ExtN H H') : LSt H' v q := let ⟨a, xs, e, z, p⟩ := h; ⟨a, xs, e, s _ _ z (fun _ q => nomatch q), par_imp (fun _ _ k => k.ext s) p⟩
theorem LWy.ext {H H' : Hp} {v : V} {q : List Strd} (h : LWy H v q) (s : ExtN H H') : LWy H' v q := let ⟨a, xs, e, z, p⟩ := h; ⟨a, xs, e, s _ _ z (fun _ q => nomatch q), par_imp (fun _ _ k => k.ext s) p⟩
theorem cut_last (xs : List V) (h : 1 ≤ xs.length) : cutV xs none (some (-1)) = xs.take (xs.length - 1) := by
  unfold cutV
  show (List.take (HT.sIx xs.length xs.length (some (-1))) xs).drop 0 = _
  rw [List.drop_zero]
  congr 1
  unfold HT.sIx
  simp
  omega
theorem slLast {K : PySem.W.Frag} {a : Addr} {xs : List V} {H : Hp} {Q : VK} (ha : H a = some (.tup xs)) (h : 1 ≤ xs.length) (k : ∀ t H', H' t = some (.tup (xs.take (xs.length - 1))) → Same H H' → Q (.ref t) H') : rSlA K (.ref a) none (some (-1)) H Q := by
  refine ⟨a, xs, rfl, .inl (.inl ha), fun ⟨_, e⟩ => ?_, fun _ p hp => k p _ ?_ ((Same.refl H).new hp)⟩
  · unfold HT.sIx at e
    simp at e
    omega
  · rw [upd_same, cut_last _ h]
theorem tabS_but {h : Addr} {xs : List V} {H H' : Hp} {P : Addr} {q : Str} (t : TabS H P q) (b : But h H H') (hh : H h = some (.lst xs)) : TabS H' P q := by
  obtain ⟨ps, h1, h2, h3⟩ := t
  refine ⟨ps, b _ _ (fun e => ?_) h1, h2, fun pos cv hc => ?_⟩
  · rw [e, hh] at h1
    cases h1
  · obtain ⟨c, e1, e2⟩ := h3 pos cv hc
    refine ⟨c, e1, b _ _ (fun e => ?_) e2⟩
    rw [e, hh] at e2
    cases e2
theorem tabs_but {h : Addr} {xs : List V} {H H' : Hp} {T : List (Addr × Str)} (t : Tabs T H) (b : But h H H') (hh : H h = some (.lst xs)) : Tabs T H' := fun p hp => tabS_but (t p hp) b hh
/-! ### all but the pen and the tables stands -/
def Kp (p : Addr) (H H' : Hp) : Prop := ∀ b o, H b = some o → b ≠ p → (∀ ps, o ≠ .tbl ps) → H' b = some o
theorem Kp.refl (p : Addr) (H : Hp) : Kp p H H := fun _ _ h _ _ => h
theorem Kp.but {p : Addr} {H H1 H2 : Hp} (a : Kp p H H1) (s : But p H1 H2) : Kp p H H2 := fun b o q n t => s b o n (a b o q n t)
theorem Kp.ext {p : Addr} {H H1 H2 : Hp} (a : Kp p H H1) (s : ExtN H1 H2) : Kp p H H2 := fun b o q n t => s b o (a b o q n t) t
theorem Kp.same {p : Addr} {H H1 H2 : Hp} (a : Kp p H H1) (s : Same H1 H2) : Kp p H H2 := a.ext (ExtN.of s)
theorem Kp.trans {p : Addr} {H H1 H2 : Hp} (a : Kp p H H1) (s : Kp p H1 H2) : Kp p H H2 := fun b o q n t => s b o (a b o q n t) n t
theorem Kp.of {p : Addr} {H H' : Hp} (s : ExtN H H') : Kp p H H' := fun b o h _ t => s b o h t
theorem Kp.tup {p a : Addr} {H H' : Hp} {us px : List V} (k : Kp p H H') (hp : H p = some (.lst px)) (h : H a = some (.tup us)) : H' a = some (.tup us) := k _ _ h (fun z => by rw [z, hp] at h; cases h) (fun _ z => nomatch z)
theorem Kp.lst {p a : Addr} {H H' : Hp} {us : List V} (k : Kp p H H') (n : a ≠ p) (h : H a = some (.lst us)) : H' a = some (.lst us) := k _ _ h n (fun _ z => nomatch z)
theorem RingAt.kp {K : PySem.W.Frag} {C p : Addr} {px : List V} {H H' : Hp} {r : Addr} {ls : List Int} (h : RingAt K C H r ls) (k : Kp p H H') (hp : H p = some (.lst px)) : RingAt K C H' r ls := by
  obtain ⟨dx, t, h1, h2, o, h3, h4⟩ := h
  refine ⟨dx, t, k _ _ h1 (fun z => by rw [z, hp] at h1; cases h1) (fun _ z => nomatch z), ?_, o, k _ _ h3 (fun z => by rw [z, hp] at h3; cases h3) (fun _ z => nomatch z), h4⟩
  rcases h2 with (z | ⟨o, z⟩) | z
  · exact .inl (.inl (k.tup hp z))
  · exact .inl (.inr ⟨o, k _ _ z (fun q => by rw [q, hp] at z; cases z) (fun _ z => nomatch z)⟩)
  · exact .inr z
section
variable {K : PySem.W.Frag} {H H' : Hp} {p : Addr} {e : Addr × List Int} {n : Nat}
theorem PenAt.ext (h : PenAt K H p e n) (s : ExtN H H') : PenAt K H' p e n := by
  obtain ⟨a, r, h1, h5, h6, h7⟩ := h.ex
  refine ⟨⟨a, r, s _ _ h1 (fun _ z => nomatch z), h5, h6, h7⟩, ?_, h.np, h.ln⟩
  rcases h.sq with (z | ⟨o, z⟩) | z
  · exact .inl (.inl (s _ _ z (fun _ z => nomatch z)))
  · exact .inl (.inr ⟨o, s _ _ z (fun _ z => nomatch z)⟩)
  · exact .inr z
theorem SPat.kp {v : V} {q : Int × Int} (h : SPat H v q) (pen : PenAt K H p e n) (b : Kp p H H') : SPat H' v q := by
  obtain ⟨a, rfl, z⟩ := h
  obtain ⟨px, hp⟩ := pen.some
  exact ⟨a, rfl, b.tup hp z⟩
theorem LSt.kp {v : V} {q : Strd} (h : LSt H v q) (pen : PenAt K H p e n) (b : Kp p H H') : LSt H' v q := by
  obtain ⟨a, xs, rfl, z, px⟩ := h
  refine ⟨a, xs, rfl, b.lst (fun k => ?_) z, par_imp (fun _ _ k => k.kp pen b) px⟩
  obtain ⟨at', rest, h1, _⟩ := pen.ex
  rw [k, h1] at z
  cases z
  cases px with
  | cons _ t => cases t with
    | cons h _ =>
      obtain ⟨c, e, _⟩ := h
      cases e
theorem LWy.kp {v : V} {q : List Strd} (h : LWy H v q) (pen : PenAt K H p e n) (b : Kp p H H') : LWy H' v q := by
  obtain ⟨a, xs, rfl, z, px⟩ := h
  refine ⟨a, xs, rfl, b.lst (fun k => ?_) z, par_imp (fun _ _ k => k.kp pen b) px⟩
  obtain ⟨at', rest, h1, _⟩ := pen.ex
  rw [k, h1] at z
  cases z
  cases px with
  | cons _ t => cases t with
    | cons h _ =>
      obtain ⟨c, _, e, _⟩ := h
      cases e
theorem ne_pen {q : Addr} {xs : List V} {ws : List (List Strd)} {G : Hp} (pen : PenAt K H p e n) (h : H q = some (.lst xs)) (pw : Paired (LWy G) xs ws) : q ≠ p := fun z => by
  obtain ⟨at', rest, h1, _⟩ := pen.ex
  rw [z, h1] at h
  cases h
  cases pw with
  | cons _ t => cases t with
    | cons h _ =>
      obtain ⟨c, _, e, _⟩ := h
      cases e
theorem TL.kp {px : List V} {xs : List V} {nss : List (List Int)} (h : TL H xs nss) (k : Kp p H H') (hp : H p = some (.lst px)) : TL H' xs nss := par_imp (fun _ _ ⟨a, e, q⟩ => ⟨a, e, k.tup hp q⟩) h
end
section
variable {P : Program} {w : World} {K : PySem.W.Frag} {mg : Str → Option Value} {base : Heap}
/-! ### the program's defs, where no error comes -/
def spMOc (K : PySem.W.Frag) (CR CL CM : Addr) (T : List (Addr × Str)) : Sp := fun vs H Q _ => ∃ (r : Addr) (ls : List Int), vs = [.ref r] ∧ RingAt K CR H r ls ∧ 3 ≤ ls.length ∧ ls.length ≤ 8 ∧ Bd 1000000 ls ∧ closesB ls = true ∧ Tabs T H ∧
  ∀ q H' wy, ExtN H H' → Tabs T H' → MostR CM CL H' q (dueW wy) → (wide ls (mostK ls)).head? = some wy → Q (.ref q) H'
theorem ok_moc {CR CL CM cR cT f : Addr} {fd : FuncData} {T : List (Addr × Str)} {k : Nat} (F : FnOk P w K mg base (L2.CX P w) k f fd ["ring"] (spMO K CR CL CM cR cT T)) : FnOk P w K mg base CX0 k f fd ["ring"] (spMOc K CR CL CM T) :=
  (fn_calm F).imp fun vs H Q E ⟨r, ls, hv, ra, l3, l8, bd, cl, tab, q⟩ => ⟨.ref r, hv, .inl ⟨r, ls, rfl, ra, l3, l8, bd, tab, .inl ⟨cl, q⟩⟩⟩
def spSMc (K : PySem.W.Frag) (CR CL CM : Addr) (T : List (Addr × Str)) : Sp := fun vs H Q _ => ∃ (r q : Addr) (ls : List Int) (W : List Strd), vs = [.ref r, .ref q] ∧ RingAt K CR H r ls ∧ 3 ≤ ls.length ∧ ls.length ≤ 8 ∧ Bd 1000000 ls ∧ closesB ls = true ∧ Tabs T H ∧ MostR CM CL H q W ∧ goodV ls.length W ∧
  ∀ H' S, ExtN H H' → Tabs T H' → S.Perm (lensW W) → S.Pairwise (· ≤ ·) → Q (.bl (decide (S = sizesL ls) && hadN (netsW ls W))) H'
theorem ok_smc {CR CL CM cR cT f : Addr} {fd : FuncData} {T : List (Addr × Str)} {k : Nat} (F : FnOk P w K mg base (L2.CX P w) k f fd ["ring", "value"] (spSM K CR CL CM cR cT T)) : FnOk P w K mg base CX0 k f fd ["ring", "value"] (spSMc K CR CL CM T) :=
  (fn_calm F).imp fun vs H Q E ⟨r, q, ls, W, hv, ra, l3, l8, bd, cl, tab, mr, gw, k⟩ => ⟨.ref r, .ref q, hv, .inl ⟨r, ls, rfl, ra, l3, l8, bd, tab, .inl ⟨cl, q, W, rfl, mr, gw, k⟩⟩⟩
theorem found_at {σ : St} {H : Hp} {Q : VK} {la pw : Addr} {ls : List Int} {xw : List V} {n : Int} (h1 : σ[1]? = some (some (.ref la))) (h3 : σ[3]? = some (some (.int n))) (h4 : σ[4]? = some (some (.bl (levelB ls)))) (h5 : σ[5]? = some (some (.ref pw))) (en : n = (ls.length : Nat))
    (hla : H la = some (.lst (ls.map V.int))) (l3 : 3 ≤ ls.length) (l8 : ls.length ≤ 8) (hw0 : H pw = some (.lst xw)) (pw0 : Paired (LWy H) xw (wide ls ls.length))
    (q : ∀ H' pf xf, Same H H' → H' pf = some (.lst xf) → Paired (LWy H') xf (wide ls (mostK ls)) → Q (.ref pf) H') :
    tIf (tB (tVar 4)) (tVar 5) (tCall spWD [] E0 (tCons (tVar 1) (tCons (tOp (rI0 fun i j => .int (i - j)) (tVar 3) (tC (.int 2))) tNil))) σ H Q := by
  subst en
  refine ⟨_, h4, _, rfl, ?_⟩
  cases c : levelB ls with
  | true =>
    refine ⟨_, h5, q H pw xw (Same.refl H) hw0 ?_⟩
    unfold mostK
    rw [if_pos c]
    exact pw0
  | false =>
    refine ⟨_, h1, _, h3, _, _, rfl, rfl, la, ls, ls.length - 2, ?_, hla, l3, l8, by omega, by omega, fun p xs H' s np hp pw => ?_⟩
    · show [V.ref la, V.int ((ls.length : Int) - 2)] = _
      rw [show ((ls.length : Int) - 2) = ((ls.length - 2 : Nat) : Int) by omega]
    · refine q H' p xs s hp ?_
      unfold mostK
      rw [if_neg (by rw [c]; exact Bool.false_ne_true)]
      exact pw
theorem size_at {σ : St} {H : Hp} {Q : VK} {ls : List Int} {n : Int} (h3 : σ[3]? = some (some (.int n))) (h4 : σ[4]? = some (some (.bl (levelB ls)))) (en : n = (ls.length : Nat)) (l3 : 3 ≤ ls.length) (q : Q (.int (mostK ls : Nat)) H) :
    tIf (tB (tVar 4)) (tVar 3) (tOp (rI0 fun i j => .int (i - j)) (tVar 3) (tC (.int 2))) σ H Q := by
  subst en
  unfold mostK at q
  refine ⟨_, h4, _, rfl, ?_⟩
  cases c : levelB ls with
  | true =>
    rw [if_pos c] at q
    exact ⟨_, h3, q⟩
  | false =>
    rw [if_neg (by rw [c]; exact Bool.false_ne_true)] at q
    refine ⟨_, h3, _, _, rfl, rfl, ?_⟩
    show Q (.int ((ls.length : Int) - 2)) H
    rw [show ((ls.length : Int) - 2) = ((ls.length - 2 : Nat) : Int) by omega]
    exact q
end
end K
namespace Rg
open PySem PySem.Spec PyProof.Rows L2
section
variable {X : Cx} {k k2 : Nat} {f f2 : Addr} {fd fd2 : FuncData} {sp sp2 : Sp} {e : Expr} {ta : TE}
theorem pt_bool2 (F : FnOk X.prog X.w X.K X.mg X.base CX0 k f fd ["self"] sp) (F2 : FnOk X.prog X.w X.K X.mg X.base CX0 k2 f2 fd2 ["self"] sp2) (hr : Room k X.A) (hr2 : Room k2 X.A) (hb : Binds X.K fd ["self"] []) (hb2 : Binds X.K fd2 ["self"] []) (ha : PE X e ta)
    (he : ∀ whole, isTrue e X.env whole = (do let v ← whole; standAt e.pos; holding [v] (truthy v)) := by intro _; rfl) : PT X e (fun σ H Q => ta σ H fun x H' => rTruO X.K f sp x H' Q ∨ rTruO X.K f2 sp2 x H' Q) := by
  refine ⟨fun pins s σ H Q I h => ?_⟩
  exact isTrue_plain (thn (ha.run pins s σ H _ I h) fun v s1 ⟨x, H1, I1, r1, q1⟩ => q1.elim (fun q => tru_insO F hr hb I1 r1 q) (fun q => tru_insO F2 hr2 hb2 I1 r1 q)) (he _)
end
end Rg
namespace K
open PySem L2 Rg LamX
open Evl (pss_cut)
theorem few_all : ∀ n ∈ [3, 4, 5, 6, 7, 8], (lotsK n n).length * 2 ^ (n - 1) ≤ 1000 ∧ (lotsK n (n - 2)).length * 2 ^ (n - 3) ≤ 1000 := by decide +kernel
theorem hw_len (ls : List Int) (k : Nat) : ∀ l : List (List Int), (∀ x ∈ l, x.length = k) → (l.flatMap (hw ls)).length ≤ l.length * 2 ^ (k - 1)
  | [], _ => by simp
  | x :: l, h => by
    rw [List.flatMap_cons, List.length_append, List.length_cons, Nat.add_mul, Nat.one_mul]
    have h1 := hw_len ls k l fun y m => h y (List.mem_cons_of_mem _ m)
    have h2 : (hw ls x).length ≤ 2 ^ (k - 1) := by
      unfold hw
      refine Nat.le_trans (List.length_filter_le ..) ?_
      unfold waysL
      rw [List.length_map, sgnR_length, h x (List.mem_cons_self ..)]
      exact Nat.le_refl _
    omega
theorem wide_few {ls : List Int} (l3 : 3 ≤ ls.length) (l8 : ls.length ≤ 8) : (wide ls (mostK ls)).length ≤ 1000 := by
  have f := few_all ls.length (by
    have : ls.length = 3 ∨ ls.length = 4 ∨ ls.length = 5 ∨ ls.length = 6 ∨ ls.length = 7 ∨ ls.length = 8 := by omega
    simp only [List.mem_cons, List.not_mem_nil, or_false]
    exact this)
  unfold mostK wide
  by_cases c : levelB ls = true
  · rw [if_pos c]
    exact Nat.le_trans (hw_len ls ls.length _ fun x m => ((lotsK_mem l3 l8 l8).mp m).2) f.1
  · rw [if_neg c]
    exact Nat.le_trans (hw_len ls (ls.length - 2) _ fun x m => ((lotsK_mem l3 l8 (by omega)).mp m).2) f.2
section
variable {K : PySem.W.Frag}
theorem lack_at {σ : St} {H : Hp} {Q : Bool → Hp → Prop} {pk : Addr} {xk : List V} {lv : Bool} (h4 : σ[4]? = some (some (.bl lv))) (h6 : σ[6]? = some (some (.ref pk))) (hk : H pk = some (.lst xk)) (n : lv = false → xk = []) (q : ∀ H', Same H H' → Q false H') :
    tAnd (tNot (tB (tVar 4))) (tTest (tOp (rNeE K) (tVar 6) (tLst tNil))) σ H Q := by
  refine ⟨_, h4, _, rfl, ?_⟩
  cases lv with
  | true => exact q H (Same.refl H)
  | false =>
    have e := n rfl
    subst e
    refine ⟨_, h6, (by show 0 ≤ sizeLine; decide), fun z nz => ?_⟩
    have s1 : Same H (upd H z (.lst [])) := (Same.refl H).new nz
    exact ⟨pk, z, [], rfl, rfl, SqL.of (s1 _ _ hk), SqL.of upd_same, _, rfl, q _ s1⟩
end
end K
namespace K
open PySem L2 Rg LamX
open Evl (pss_cut)
section
variable {P : Program} {w : World} {K : PySem.W.Frag} {mg : Str → Option Value} {base : Heap}
/-! ### _law_most_right -/
def spMR (K : PySem.W.Frag) (T : List (Addr × Str)) : Sp := fun vs H Q _ => ∃ (p la : Addr) (e : Addr × List Int) (ls : List Int) (n : Nat), vs = [.ref p, .ref la] ∧ H la = some (.lst (ls.map V.int)) ∧ la ≠ p ∧ 3 ≤ ls.length ∧ ls.length ≤ 8 ∧ Bd 1000000 ls ∧ closesB ls = true ∧ n < 700000 ∧ PenAt K H p e n ∧ Tabs T H ∧
  ∀ H', Kp p H H' → PenAt K H' p e (n + 3) → Tabs T H' → Q (.bl true) H'
abbrev nMR : List Str := ["_law_bench_here", "_law_lengths_here", "_law_ring", "_law_many", "_law_is_level_here", "_law_whole", "_law_lacking", "_law_found", "_law_told", "_law_some", "_law_size", "_law_lot", "_law_row", "_law_strands", "_law_fewer", "_law_bar"]
theorem scMR : FnScope nMR ["_law_bench_here", "_law_lengths_here"] (defScope sLwMostRight) := ⟨rfl, rfl, rfl, by decide +kernel, rfl, by decide +kernel, by decide +kernel⟩
theorem ok_mr {CR CL CM CN CG P0 P1 P2 f fR fL fIM fLVL fWD fMO fSM fCL fLQ fMQ fBM fBN fBG fPK fLT fRW fIH : Addr} {fd fdR fdL fdIM fdLVL fdWD fdMO fdSM fdCL fdLQ fdMQ fdBM fdBN fdBG fdPK fdLT fdRW fdIH : FuncData} {gm g1 g2 : List Value → List Value → List Value} (F : Fun K "_law_most_right" "_law_most_right" sLwMostRight f fd) (T : Bi mg) (B2 : Bi2 mg)
    (R : RingP P w K mg base CR fR fdR) (RG : RingC K mg CR) (LP : LineP P w K mg base CL fL fdL) (RL : LineC K mg CL) (MP : MostP P w K mg base CM CL fIM fdIM) (RC : MostC K mg CM) (KM : KBn K fdIM ["self", "lineup"] 1 ["lineup"] gm gM2) (LI : C8.InsC K CL) (MI : C8.InsC K CM)
    (LVL : DefAt P w K mg base CX0 1 "_law_is_level" ["_law_lengths_here"] spLVL fLVL fdLVL) (WD : DefAt P w K mg base CX0 2 "_law_wide" ["_law_lengths_here", "_law_size"] spWD fWD fdWD)
    (MO : DefAt P w K mg base CX0 8 "most_on_one" ["ring"] (spMOc K CR CL CM (T2 P0 P1 P2)) fMO fdMO) (KMO : KBinds K fdMO ["ring"] ["ring"] g1 gK1) (SM : DefAt P w K mg base CX0 10 "shows_most" ["ring", "value"] (spSMc K CR CL CM (T2 P0 P1 P2)) fSM fdSM) (KSM : KBinds K fdSM ["ring", "value"] ["value", "ring"] g2 gK2)
    (CLI : DefAt P w K mg base CX0 7 "can_line" ["ring", "lineup"] (spCLc K CR CL CN CG) fCL fdCL) (LQ : LineQ P w K mg base CL fLQ fdLQ) (MQ : MostQ P w K mg base CM CL fMQ fdMQ) (BM : PapB P w K mg base CM fBM fdBM true) (BN : PapB P w K mg base CN fBN fdBN true) (BG : PapB P w K mg base CG fBG fdBG false)
    (PK : DefAt P w K mg base CX0 3 "_law_pick" ["_law_bench_here", "_law_some"] (spPick K) fPK fdPK) (LT : DefAt P w K mg base CX0 1 "_law_lots" ["_law_many", "_law_size"] spLT fLT fdLT) (RW : DefAt P w K mg base CX0 1 "_law_rows" ["_law_many"] spRW fRW fdRW) (IHD : DefAt P w K mg base CX0 1 "_law_is_had" ["_law_lengths_here", "_law_strands"] (spIHD K) fIH fdIH) :
    FnOk P w K mg base CX0 12 f fd ["_law_bench_here", "_law_lengths_here"] (spMR K (T2 P0 P1 P2)) := by
  refine F.ok scMR (fun vs H Q E h => ?_) (fun cdv A outer s H vs Q E hr h => ?_)
  · obtain ⟨p, la, e, ls, n, rfl, _⟩ := h
    rfl
  · have nd := scMR.nd
    have FBM := BM.ok
    have BBM := BM.b
    refine ⟨_, (pss_cons (ps_par3 (i := 2) (j := 3) (l := 4) (by rfl) nd rfl rfl rfl (by decide) (by decide) (by decide) rfl rfl rfl (pa_cons (pe_make R.made R.ok (hr.mono (by decide)) (by rfl) RG.g R.b .nil pass0 (pa_cons (pv 1) pa_nil)) (pa_cons (pe_callB (r := rLenS K) call_len_seq (by rfl) T.len PySem.boot_len (pa_cons (pv 1) pa_nil)) (pa_cons (pe_call LVL.ok (hr.mono (by decide)) rfl LVL.g LVL.kp LVL.b .nil pass0 (pa_cons (pv 1) pa_nil)) pa_nil))) (by rfl))
      (pss_cons (ps_par (i := 5) (j := 6) (by rfl) nd rfl rfl (by decide) rfl rfl (pa_cons (pe_call WD.ok (hr.mono (by decide)) rfl WD.g WD.kp WD.b .nil pass0 (pa_cons (pv 1) (pa_cons (pv 3) pa_nil))) (pa_cons (pe_call WD.ok (hr.mono (by decide)) rfl WD.g WD.kp WD.b .nil pass0 (pa_cons (pv 1) (pa_cons (pe_op op_sub (pv 3) pe_int) pa_nil))) pa_nil)) (by rfl))
      (pss_cut (ps_if (PW.pt (pw_or (pt_cmpR op_ne (pe_cmpR (op_neE hr.units) (pv 5) (pe_lst pa_nil) (nomark _)) (pv 4) (nomark _)) (pw_or1 (PW.pt (pw_and (pt_not (pt_val (pv 4))) (pw_and1 (pt_cmpR (op_neE hr.units) (pv 6) (pe_lst pa_nil) (nomark _)))))))) (pss_one ps_never) pss_nil)
      (pss_cons (ps_set (i := 7) nd rfl (Or.inl rfl) (pe_ifExp (pt_val (pv 4)) (pv 5) (pe_call WD.ok (hr.mono (by decide)) rfl WD.g WD.kp WD.b .nil pass0 (pa_cons (pv 1) (pa_cons (pe_op op_sub (pv 3) pe_int) pa_nil)))))
      (pss_cons (ps_set (i := 8) nd rfl (Or.inl rfl) (pe_callK0 MO.ok (hr.mono (by decide)) rfl MO.g MO.kp KMO pass0 (pk_cons (pv 2) pk_nil)))
      (pss_cons (ps_if (PW.pt (pw_or (pt_cmpR (op_eqE hr.units) (pv 7) (pe_lst pa_nil) (nomark _)) (pw_or (pt_not (pt_val (pe_callB call_isi (by rfl) T.isinstance (by decide +kernel) (pa_cons (pv 8) (pa_cons (pe_glob (v := .ref CM) rfl RC.g rfl) pa_nil))))) (pw_or (pt_not (pt_bool FBM (hr.mono (by decide)) BBM (pv 8))) (pw_or (pt_cmpR op_ne (pe_fld (pv 8) rfl) pe_str (nomark _)) (pw_or1 (pt_cmpR (op_neS1 hr.units) (pe_fld (pv 8) rfl) (pe_tup (pa_cons (pe_fld (pv 8) rfl) pa_nil)) (nomark _)))))))) (pss_one ps_never) pss_nil)
      (pss_cons (ps_if (PW.pt (pw_or (pt_not (pt_val (pe_callB call_isi (by rfl) T.isinstance (by decide +kernel) (pa_cons (pe_fld (pv 8) rfl) (pa_cons (pe_glob (v := .ref CL) rfl RL.g rfl) pa_nil))))) (pw_or (pt_cmpR (op_insNe LQ.ok LQ.ne LQ.sub LQ.eq LQ.fn LQ.b (hr.mono (by decide))) (pe_fld (pv 8) rfl) (pe_make LP.made LP.ok (hr.mono (by decide)) (by rfl) RL.g LP.b .nil pass0 (pa_cons (pe_ix (r := rIxL K) ix_list (pv 7) pe_int (fun _ _ => rfl)) pa_nil)) (nomark _)) (pw_or1 (pt_cmpR (op_insNe MQ.ok MQ.ne MQ.sub MQ.eq MQ.fn MQ.b (hr.mono (by decide))) (pe_call MO.ok (hr.mono (by decide)) rfl MO.g MO.kp MO.b .nil pass0 (pa_cons (pv 2) pa_nil)) (pv 8) (nomark _)))))) (pss_one ps_never) pss_nil)
      (pss_cut (ps_if (PW.pt (pw_or (pt_cmpR op_notBl (pe_callK0 SM.ok (hr.mono (by decide)) rfl SM.g SM.kp KSM pass0 (pk_cons (pv 8) (pk_cons (pv 2) pk_nil))) pe_bl (nomark _)) (pw_or1 (pt_not (pt_bool2 BN.ok BG.ok (hr.mono (by decide)) (hr.mono (by decide)) BN.b BG.b (pe_call CLI.ok (hr.mono (by decide)) rfl CLI.g CLI.kp CLI.b .nil pass0 (pa_cons (pv 2) (pa_cons (pe_fld (pv 8) rfl) pa_nil)))))))) (pss_one ps_never) pss_nil)
      (pss_cons (ps_par (i := 9) (j := 10) (by rfl) nd rfl rfl (by decide) rfl rfl (pa_cons (pe_call PK.ok (hr.mono (by decide)) rfl PK.g PK.kp PK.b .nil pass0 (pa_cons (pv 0) (pa_cons (pv 7) pa_nil))) (pa_cons (pe_ifExp (pt_val (pv 4)) (pv 3) (pe_op op_sub (pv 3) pe_int)) pa_nil)) (by rfl))
      (pss_cut (ps_if (pt_cmpR op_notBl (pe_call SM.ok (hr.mono (by decide)) rfl SM.g SM.kp SM.b .nil pass0 (pa_cons (pv 2) (pa_cons (pe_makeK0 MP.made MP.ok (hr.mono (by decide)) (by rfl) RC.g KM pass0 (pk_cons (pe_make LP.made LP.ok (hr.mono (by decide)) (by rfl) RL.g LP.b .nil pass0 (pa_cons (pv 9) pa_nil)) pk_nil)) pa_nil))) pe_bl (nomark _)) (pss_one ps_never) pss_nil)
      (pss_cons (ps_asg (pe_tup (pa_cons (pe_call PK.ok (hr.mono (by decide)) rfl PK.g PK.kp PK.b .nil pass0 (pa_cons (pv 0) (pa_cons (pe_call LT.ok (hr.mono (by decide)) rfl LT.g LT.kp LT.b .nil pass0 (pa_cons (pv 3) (pa_cons (pv 10) pa_nil))) pa_nil))) (pa_cons (pe_call PK.ok (hr.mono (by decide)) rfl PK.g PK.kp PK.b .nil pass0 (pa_cons (pv 0) (pa_cons (pe_call RW.ok (hr.mono (by decide)) rfl RW.g RW.kp RW.b .nil pass0 (pa_cons (pe_op op_sub (pv 10) pe_int) pa_nil)) pa_nil))) pa_nil))) (pg_tup (by rfl) (pgs_cons (pg_name (i := 11) nd rfl (Or.inr rfl)) (pgs_cons (pg_name (i := 12) nd rfl (Or.inl rfl)) pgs_nil))))
      (pss_cons (ps_set (i := 13) nd rfl (Or.inl rfl) (pe_op op_cat (pe_lst (pa_cons (pe_listZip rfl (by rfl) T.list (by rfl) B2.zip (pa_cons (pv 11) (pa_cons (pe_op op_catA (pe_tup (pa_cons pe_int pa_nil)) (pv 12)) pa_nil))) pa_nil)) (pe_lc (own := [("_law_bar", 15)]) (g := (gName 15)) (tt := tTest (tOp (rIn K true) (tVar 15) (tVar 11))) (te := tLst (tCons (tTup (tCons (tVar 15) (tCons (tC (.int 1)) tNil))) tNil))  rfl nd (pi_range1 (by rfl) T.range (pa_cons (pv 3) pa_nil))
          (blkOk_by (N := nMR) (sc := defScope sLwMostRight) (by decide +kernel)) (fun _ _ _ _ _ => (pg_name (i := 15) nd rfl (Or.inl rfl))) (fun _ _ _ _ _ => (pts_one (pt_cmpR op_notIn_seq (pv 15) (pv 11) (by rfl)))) (fun _ _ _ _ _ => (pe_lst (pa_cons (pe_tup (pa_cons (pv 15) (pa_cons pe_int pa_nil))) pa_nil))))))
      (pss_cut (ps_if (pt_cmpR op_ne (pe_call SM.ok (hr.mono (by decide)) rfl SM.g SM.kp SM.b .nil pass0 (pa_cons (pv 2) (pa_cons (pe_make MP.made MP.ok (hr.mono (by decide)) (by rfl) RC.g MP.b .nil pass0 (pa_cons (pe_make LP.made LP.ok (hr.mono (by decide)) (by rfl) RL.g LP.b .nil pass0 (pa_cons (pv 13) pa_nil)) pa_nil)) pa_nil))) (pe_call IHD.ok (hr.mono (by decide)) rfl IHD.g IHD.kp IHD.b .nil pass0 (pa_cons (pv 1) (pa_cons (pv 13) pa_nil))) (nomark _)) (pss_one ps_never) pss_nil)
      (pss_cons (ps_set (i := 14) nd rfl (Or.inl rfl) (pe_op op_cat (pe_lst (pa_cons (pe_listZip rfl (by rfl) T.list (by rfl) B2.zip (pa_cons (pe_slice sl_tupA (pv 11) po_none (po_some (pe_un un_neg pe_int))) (pa_cons (pe_op op_catA (pe_tup (pa_cons pe_int pa_nil)) (pv 12)) pa_nil))) pa_nil)) (pe_lc (own := [("_law_bar", 15)]) (g := (gName 15)) (tt := tTest (tOp (rIn K true) (tVar 15) (tSl (rSlA K) (tVar 11) tNoPart (tPart (tUn (rU fun i => .int (-i)) (tC (.int 1))))))) (te := tLst (tCons (tTup (tCons (tVar 15) (tCons (tC (.int 1)) tNil))) tNil))  rfl nd (pi_range1 (by rfl) T.range (pa_cons (pv 3) pa_nil))
          (blkOk_by (N := nMR) (sc := defScope sLwMostRight) (by decide +kernel)) (fun _ _ _ _ _ => (pg_name (i := 15) nd rfl (Or.inl rfl))) (fun _ _ _ _ _ => (pts_one (pt_cmpR op_notIn_seq (pv 15) (pe_slice sl_tupA (pv 11) po_none (po_some (pe_un un_neg pe_int))) (by rfl)))) (fun _ _ _ _ _ => (pe_lst (pa_cons (pe_tup (pa_cons (pv 15) (pa_cons pe_int pa_nil))) pa_nil))))))
      (pss_one (ps_ret (pe_or (pe_cmpR op_eq (pv 10) pe_int (nomark _)) (pe_one (pe_cmpR op_isBl (pe_call SM.ok (hr.mono (by decide)) rfl SM.g SM.kp SM.b .nil pass0 (pa_cons (pv 2) (pa_cons (pe_make MP.made MP.ok (hr.mono (by decide)) (by rfl) RC.g MP.b .nil pass0 (pa_cons (pe_make LP.made LP.ok (hr.mono (by decide)) (by rfl) RL.g LP.b .nil pass0 (pa_cons (pv 14) pa_nil)) pa_nil)) pa_nil))) pe_bl (nomark _)))))))))))))))))))), ?_⟩
    obtain ⟨p, la, e, ls, n, rfl, hla, lap, l3, l8, bd, cl, hn, pen, tab, k⟩ := h
    obtain ⟨px, hp⟩ := pen.some
    -- the ring, the two lists
    refine ⟨_, rfl, madeL2 hla l3 l8 bd fun r H1 ra1 s1 nr => ⟨rfl, ?_⟩⟩
    refine ⟨_, rfl, la, _, rfl, .inl (SqL.of (s1 _ _ hla)), ?_⟩
    rw [List.length_map]
    refine ⟨_, rfl, la, ls, rfl, s1 _ _ hla, l8, fun H2 s2 => ?_⟩
    have s02 := s1.trans s2
    refine ⟨_, _, _, rfl, ?_⟩
    refine ⟨_, rfl, _, rfl, la, ls, ls.length, rfl, s02 _ _ hla, l3, l8, by omega, l8, fun pw xw H3 s3 npw hpw pww => ?_⟩
    have s03 := s02.trans s3
    refine ⟨_, rfl, _, rfl, _, _, rfl, rfl, la, ls, ls.length - 1, ?_, s03 _ _ hla, l3, l8, by omega, by omega, fun pk xk H4 s4 npk hpk pkk => ?_⟩
    · show [V.ref la, V.int ((ls.length : Int) - 1)] = _
      rw [show ((ls.length : Int) - 1) = ((ls.length - 1 : Nat) : Int) by omega]
    have s04 := s03.trans s4
    refine ⟨_, _, rfl, ?_⟩
    have we : (wide ls ls.length).isEmpty = !levelB ls := by
      cases c : levelB ls with
      | true =>
        have := (wide_all l3 l8).mpr c
        cases q : wide ls ls.length with
        | nil => exact absurd q this
        | cons _ _ => rfl
      | false =>
        cases q : wide ls ls.length with
        | nil => rfl
        | cons x y =>
          have := (wide_all l3 l8).mp (by rw [q]; exact List.cons_ne_nil _ _)
          rw [c] at this
          cases this
    have ie : ∀ {xs : List V} {ws : List (List Strd)} {Hx : Hp}, Paired (LWy Hx) xs ws → xs.isEmpty = ws.isEmpty := fun h => by
      cases h <;> rfl
    refine ⟨fun σ' H' => σ' = [some (.ref p), some (.ref la), some (.ref r), some (.int (ls.length : Nat)), some (.bl (levelB ls)), some (.ref pw), some (.ref pk), none, none, none, none, none, none, none, none, none] ∧ Same H4 H', ?_, ?_⟩
    · refine ⟨_, rfl, (by show 0 ≤ sizeLine; decide), fun z nz => ?_⟩
      have s5 : Same H4 (upd H4 z (.lst [])) := (Same.refl H4).new nz
      have hz : upd H4 z (.lst []) z = some (.lst []) := upd_same
      generalize upd H4 z (.lst []) = H5 at s5 hz ⊢
      refine ⟨pw, z, xw, rfl, rfl, SqL.of ((s4.trans s5) _ _ hpw), SqL.of hz, _, rfl, rfl, _, rfl, ?_⟩
      rw [ne_bb (by rw [ie pww, we, Bool.not_not])]
      refine iteF ?_
      refine lack_at (lv := levelB ls) rfl rfl (s5 _ _ hpk) (fun c => ?_) fun H6 s6 => ?_
      · have := wide_but1 l3 l8 c
        rw [this] at pkk
        cases pkk
        rfl
      exact iteF ⟨rfl, s5.trans s6⟩
    rintro σ' H6 ⟨rfl, s46⟩
    have s06 := s04.trans s46
    have s36 := s4.trans s46
    refine found_at (ls := ls) (n := ((ls.length : Nat) : Int)) rfl rfl rfl rfl rfl (s06 _ _ hla) l3 l8 (s36 _ _ hpw) (par_imp (fun _ _ z => z.same s36) pww) fun H7 pf xf s7 hpf pff => ?_
    have s07 := s06.trans s7
    have s17 := ((((s2.trans s3).trans s4).trans s46).trans s7)
    have ra7 := ra1.same s17
    have tab7 := tab.ext s07
    have wne := wide_most l3 l8 bd cl
    have wfew := wide_few l3 l8
    -- most_on_one
    refine ⟨_, rfl, r, ls, rfl, ra7, l3, l8, bd, cl, tab7, fun q0 H8 wy e8 tab8 mr8 hd8 => ?_⟩
    have e08 := (ExtN.of s07).trans e8
    obtain ⟨u0, pg8, lf8⟩ := mr8
    obtain ⟨dx, tq, hq8, htq8⟩ := id pg8
    have hpf8 := e8 _ _ hpf (fun _ z => nomatch z)
    have pff8 : Paired (LWy H8) xf (wide ls (mostK ls)) := par_imp (fun _ _ z => z.ext e8) pff
    have xne : xf.isEmpty = false := by
      rw [ie pff8]
      cases q : wide ls (mostK ls) with
      | nil => exact absurd q wne
      | cons _ _ => rfl
    have wm : wy ∈ wide ls (mostK ls) := List.mem_of_mem_head? hd8
    obtain ⟨lot0, hl0, row0, hr0, ewy, had0⟩ := wide_mem.mp wm
    have mk8 : mostK ls ≤ 8 := by
      unfold mostK
      split <;> omega
    have mk1 : 1 ≤ mostK ls := by
      unfold mostK
      split <;> omega
    have lm0 := (lotsK_mem l3 l8 mk8).mp hl0
    have lt0 := lotsN_lot lm0.1
    have el0 := row_len (by omega) hr0
    have gw0 : goodV ls.length wy := by rw [ewy]; exact wayL_good l8 lt0 (by omega) hr0
    have gd0 := due_good gw0
    have hdW : hadN (netsW ls (dueW wy)) = true := by rw [had_due gw0]; exact had0
    obtain ⟨x0, hx0, lw0⟩ : ∃ x0, xf[0]? = some x0 ∧ LWy H8 x0 wy := by
      rw [List.head?_eq_getElem?] at hd8
      have xl := par_len pff8
      have : 0 < (wide ls (mostK ls)).length := (List.getElem?_eq_some_iff.mp hd8).1
      have hx : xf[0]? = some xf[0] := List.getElem?_eq_getElem (by omega)
      obtain ⟨w0, hw0, lw⟩ := par_get pff8 hx
      rw [hd8] at hw0
      cases hw0
      exact ⟨_, hx, lw⟩
    -- the paper
    refine ⟨_, rfl, (by show 0 ≤ sizeLine; decide), fun z1 nz1 => ?_⟩
    have s9 : Same H8 (upd H8 z1 (.lst [])) := (Same.refl H8).new nz1
    have hz1 : upd H8 z1 (.lst []) z1 = some (.lst []) := upd_same
    generalize upd H8 z1 (.lst []) = H9 at s9 hz1 ⊢
    refine ⟨pf, z1, xf, rfl, rfl, SqL.of (s9 _ _ hpf8), SqL.of hz1, _, rfl, ?_⟩
    rw [xne]
    refine iteF ?_
    have hq9 := s9 _ _ hq8
    refine ⟨_, rfl, .ref q0, .ref CM, .ref CM, .ref CM, true, rfl, .own _, .base (.ins hq9 MI.cl MI.ha MI.hn MI.htk MI.hm), MI.me, _, rfl, iteF ?_⟩
    refine ⟨_, rfl, q0, CM, dx, _, rfl, hq9, BM.f, BM.fn, _, rfl, true, rfl, iteF ?_⟩
    refine ⟨_, rfl, q0, CM, dx, _, _, rfl, hq9, RC.pc.cl, RC.pc.nw, rfl, rfl, _, rfl, iteF ?_⟩
    refine ⟨_, rfl, q0, CM, dx, _, _, rfl, hq9, RC.pc.cl, RC.pc.np, rfl, _, rfl, q0, CM, dx, _, _, rfl, hq9, RC.pc.cl, RC.n1, rfl, (by show 1 ≤ sizeLine; decide), fun t1 nt1 => ?_⟩
    have s10 : Same H9 (upd H9 t1 (.tup [.ref u0])) := (Same.refl H9).new nt1
    have ht1 : upd H9 t1 (.tup [.ref u0]) t1 = some (.tup [.ref u0]) := upd_same
    generalize upd H9 t1 (.tup [.ref u0]) = H10 at s10 ht1 ⊢
    have s810 := s9.trans s10
    refine ⟨tq, t1, u0, rfl, rfl, .inl (.inl (s810 _ _ htq8)), .inl (.inl ht1), _, rfl, iteF ?_⟩
    -- its line-up
    have hq10 := s810 _ _ hq8
    have lf10 := lf8.same s810
    obtain ⟨ux, ufs, hu10⟩ := lf10.ins
    refine ⟨_, rfl, q0, CM, dx, _, _, rfl, hq10, RC.pc.cl, RC.n1, rfl, .ref u0, .ref CL, .ref CL, .ref CL, true, rfl, .own _, .base (.ins hu10 LI.cl LI.ha LI.hn LI.htk LI.hm), LI.me, _, rfl, iteF ?_⟩
    refine ⟨_, rfl, q0, CM, dx, _, _, rfl, hq10, RC.pc.cl, RC.n1, rfl, _, rfl, pf, _, _, x0, rfl, rfl, SqL.of (s810 _ _ hpf8), at_of (j := 0) rfl hx0, madeU (lw0.same s810) gw0 l3 l8 fun v0 H11 lv11 s11 => ⟨rfl, ?_⟩⟩
    have lf11 := lf10.same s11
    obtain ⟨vx, vfs, hv11⟩ := lv11.ins
    refine ⟨u0, v0, ux, vx, ufs, vfs, rfl, rfl, s11 _ _ hu10, hv11, u0, v0, rfl, ⟨dueW wy, ls.length, lf11, lv11, gd0⟩, fun H12 e12 => ⟨true, rfl, _, rfl, iteF ?_⟩⟩
    have s12 : Same H11 H12 := e12
    have s812 := (s810.trans s11).trans s12
    have e012 := e08.trans (ExtN.of s812)
    have ra12 := ra7.ext (e8.trans (ExtN.of s812))
    have tab12 := tab8.ext s812
    refine ⟨_, rfl, r, ls, rfl, ra12, l3, l8, bd, cl, tab12, fun q1 H13 wy1 e13 tab13 mr13 hd13 => ?_⟩
    rw [hd8] at hd13
    cases hd13
    obtain ⟨u1, pg13, lf13⟩ := mr13
    obtain ⟨dx1, tq1, hq13, _⟩ := id pg13
    have e813 := (ExtN.of s812).trans e13
    have pg13' := pg8.ext e813
    have lf13' := lf8.ext e813
    refine ⟨_, rfl, q1, q0, dx1, dx, _, _, rfl, rfl, hq13, e813 _ _ hq8 (fun _ z => nomatch z), q1, q0, u1, u0, rfl, pg13, pg13', ⟨dueW wy, ls.length, lf13, lf13', gd0⟩, fun H14 s14 => ⟨true, rfl, _, rfl, iteF ?_⟩⟩
    have e814 := e813.trans (ExtN.of s14)
    have e714 := e8.trans e814
    have ra14 := ra7.ext e714
    have tab14 := tab13.ext s14
    -- it is shown
    refine ⟨fun σ' H' => σ' = [some (.ref p), some (.ref la), some (.ref r), some (.int (ls.length : Nat)), some (.bl (levelB ls)), some (.ref pw), some (.ref pk), some (.ref pf), some (.ref q0), none, none, none, none, none, none, none] ∧ ExtN H8 H' ∧ Tabs (T2 P0 P1 P2) H', ?_, ?_⟩
    · refine ⟨_, rfl, _, rfl, r, q0, ls, dueW wy, rfl, ra14, l3, l8, bd, cl, tab14, ⟨u0, pg8.ext e814, lf8.ext e814⟩, gd0, fun H15 S e15 tab15 pm od => ?_⟩
      have eS := sizes_most l3 lt0 el0 lm0.2 (by rw [← ewy]; exact pm) od
      rw [decide_eq_true eS, hdW]
      refine ⟨true, true, rfl, rfl, _, rfl, iteF ?_⟩
      have e815 := e814.trans e15
      have ra15 := ra7.ext (e8.trans e815)
      have lf15 := lf8.ext e815
      refine ⟨_, rfl, _, rfl, q0, CM, dx, _, _, rfl, e815 _ _ hq8 (fun _ z => nomatch z), RC.pc.cl, RC.n1, rfl, r, u0, ls, dueW wy, rfl, ra15, l3, l8, lf15, gd0, fun _ qn H16 s16 nr16 => .inl ?_, fun z => by rw [hdW] at z; cases z⟩
      obtain ⟨nv, ⟨dxn, tn, hqn, _⟩, _⟩ := nr16
      exact ⟨qn, CN, dxn, _, rfl, hqn, BN.f, BN.fn, _, rfl, true, rfl, iteF ⟨rfl, e815.trans (ExtN.of s16), tab15.ext s16⟩⟩
    rintro σ' H16 ⟨rfl, e816, tab16⟩
    have e016 := e08.trans e816
    have ra16 := ra7.ext (e8.trans e816)
    have hpf16 := e816 _ _ hpf8 (fun _ z => nomatch z)
    have pff16 : Paired (LWy H16) xf (wide ls (mostK ls)) := par_imp (fun _ _ z => z.ext e816) pff8
    have pen16 := pen.ext e016
    have pfp := ne_pen pen16 hpf16 pff16
    have xfl := par_len pff16
    have xf1 : 1 ≤ xf.length := by
      cases xf with
      | nil => cases xne
      | cons _ _ => simp
    refine ⟨_, rfl, _, rfl, p, pf, e, xf, n, rfl, SqL.of hpf16, pfp, xf1, by omega, by omega, pen16, fun i5 vS H17 hi5 b17 pen17 => ?_⟩
    refine size_at (ls := ls) (n := ((ls.length : Nat) : Int)) rfl rfl rfl l3 ?_
    refine ⟨_, _, rfl, ?_⟩
    obtain ⟨px16, hp16⟩ := pen16.some
    have kb17 : Kp p H16 H17 := (Kp.refl p H16).but b17
    have k17 : Kp p H H17 := (Kp.of e016).trans kb17
    have ra17 := ra16.kp kb17 hp16
    have tab17 := tabs_but tab16 b17 hp16
    have hla17 := k17.lst lap hla
    obtain ⟨wS, hwS, lwS⟩ := par_get pff16 hi5
    have lwS17 := lwS.kp pen16 kb17
    obtain ⟨lotS, hlS, rowS, hrS, ewS, hadS⟩ := wide_mem.mp (List.mem_of_getElem? hwS)
    have lmS := (lotsK_mem l3 l8 mk8).mp hlS
    have ltS := lotsN_lot lmS.1
    have elS := row_len (by omega) hrS
    have gwS : goodV ls.length wS := by rw [ewS]; exact wayL_good l8 ltS (by omega) hrS
    have gdS := due_good gwS
    have hdS : hadN (netsW ls (dueW wS)) = true := by rw [had_due gwS]; exact hadS
    -- any other one as wide
    refine ⟨fun σ' H' => σ' = [some (.ref p), some (.ref la), some (.ref r), some (.int (ls.length : Nat)), some (.bl (levelB ls)), some (.ref pw), some (.ref pk), some (.ref pf), some (.ref q0), some vS, some (.int (mostK ls : Nat)), none, none, none, none, none] ∧ ExtN H17 H' ∧ Tabs (T2 P0 P1 P2) H', ?_, ?_⟩
    · refine ⟨_, rfl, _, rfl, madeU lwS17 gwS l3 l8 fun uS H18 lfS s18 => ⟨rfl, rfl, rfl, madeM lfS fun qS H19 s19 pgS => ⟨rfl, ?_⟩⟩⟩
      have s1719 := s18.trans s19
      refine ⟨r, qS, ls, dueW wS, rfl, ra17.same s1719, l3, l8, bd, cl, tab17.ext s1719, ⟨uS, pgS, lfS.same s19⟩, gdS, fun H20 S2 e20 tab20 pm2 od2 => ?_⟩
      have eS2 := sizes_most l3 ltS elS lmS.2 (by rw [← ewS]; exact pm2) od2
      rw [decide_eq_true eS2, hdS]
      exact ⟨true, true, rfl, rfl, _, rfl, iteF ⟨rfl, (ExtN.of s1719).trans e20, tab20⟩⟩
    rintro σ' H20 ⟨rfl, e1720, tab20⟩
    have k20 := k17.ext e1720
    have pen20 := pen17.ext e1720
    have ra20 := ra17.ext e1720
    -- a drawn lot, drawn signs
    refine ⟨_, rfl, _, rfl, _, rfl, ls.length, mostK ls, rfl, l3, l8, mk8, fun pl xl H21 s21 npl hpl tll => ?_⟩
    have pen21 := pen20.same s21
    have xll := par_len tll
    have xl70 := lotsK_len l3 l8 mk8
    have xl1 : 1 ≤ xl.length := by
      rw [xll]
      exact List.length_pos_of_mem hl0
    refine ⟨p, pl, e, xl, n + 1, rfl, SqL.of hpl, pen20.ne npl, xl1, by omega, by omega, pen21, fun i6 vl H22 hi6 b22 pen22 => ?_⟩
    obtain ⟨px21, hp21⟩ := pen21.some
    obtain ⟨lot, hlot, al, rfl, hal⟩ := par_get tll hi6
    have kb22 : Kp p H21 H22 := (Kp.refl p H21).but b22
    have tab22 := tabs_but (tab20.ext s21) b22 hp21
    refine ⟨_, rfl, _, rfl, _, _, rfl, rfl, mostK ls - 1, ?_, by omega, fun pr xr H23 s23 npr hpr tlr => ?_⟩
    · show [V.int ((mostK ls : Int) - 1)] = _
      rw [show ((mostK ls : Int) - 1) = ((mostK ls - 1 : Nat) : Int) by omega]
    have pen23 := pen22.same s23
    have xrl := par_len tlr
    rw [sgnR_length] at xrl
    have p27 : 2 ^ (mostK ls - 1) ≤ 2 ^ 7 := Nat.pow_le_pow_right (by decide) (by omega)
    have p20 : 1 ≤ 2 ^ (mostK ls - 1) := Nat.one_le_two_pow
    refine ⟨p, pr, e, xr, n + 2, rfl, SqL.of hpr, pen22.ne npr, by omega, by omega, by omega, pen23, fun i7 vr H24 hi7 b24 pen24 => ?_⟩
    obtain ⟨px23, hp23⟩ := pen23.some
    obtain ⟨row, hrow, ar, rfl, har⟩ := par_get tlr hi7
    have kb24 : Kp p H23 H24 := (Kp.refl p H23).but b24
    have tab24 := tabs_but (tab22.ext s23) b24 hp23
    have k2024 : Kp p H20 H24 := (((Kp.of (ExtN.of s21)).trans kb22).same s23).trans kb24
    obtain ⟨px20, hp20⟩ := pen20.some
    have ra24 := ra20.kp k2024 hp20
    have k24 := k20.trans k2024
    have hla24 := k24.lst lap hla
    have hal24 := ((kb22.same s23).trans kb24).tup hp21 hal
    have har24 := kb24.tup hp23 har
    have lmL := (lotsK_mem l3 l8 mk8).mp (List.mem_of_getElem? hlot)
    have lt := lotsN_lot lmL.1
    have rowm : row ∈ sgnR (lot.length - 1) := by rw [lmL.2]; exact List.mem_of_getElem? hrow
    have el := row_len (by omega) rowm
    have rlen := (sgnR_mem.mp rowm).1
    have rrest := rest_length lt
    refine ⟨(by show 2 ≤ sizeLine; decide), fun tt ntt => ?_⟩
    have s25 : Same H24 (upd H24 tt (.tup [.ref al, .ref ar])) := (Same.refl H24).new ntt
    have htt : upd H24 tt (.tup [.ref al, .ref ar]) tt = some (.tup [.ref al, .ref ar]) := upd_same
    generalize upd H24 tt (.tup [.ref al, .ref ar]) = H25 at s25 htt ⊢
    refine ⟨tt, _, rfl, .inl (.inl htt), rfl, _, _, rfl, _, _, rfl, rfl, ?_⟩
    have hal25 := s25 _ _ hal24
    have har25 := s25 _ _ har24
    have gw := wayL_good l8 lt (by omega) rowm
    have gd := due_good gw
    -- the strands
    refine ⟨_, rfl, (by show 1 ≤ sizeLine; decide), fun b nb => ?_⟩
    have s26 : Same H25 (upd H25 b (.tup [.int 1])) := (Same.refl H25).new nb
    have hb : upd H25 b (.tup [.int 1]) b = some (.tup [.int 1]) := upd_same
    generalize upd H25 b (.tup [.int 1]) = H26 at s26 hb ⊢
    refine ⟨_, rfl, catV hb (s26 _ _ har25) (by rw [List.length_map]; show 1 + row.length ≤ 1000; omega) fun c H27 hc s27 => ?_⟩
    have hc : H27 c = some (.tup (((1 : Int) :: row).map V.int)) := hc
    have s2527 := s26.trans s27
    refine ⟨al, c, _, _, rfl, .inr ⟨.inl (.inl (s2527 _ _ hal25)), .inl (.inl hc)⟩, fun pz ts H28 s28 npz nts hpz pat => ⟨(by show 1 ≤ sizeLine; decide), fun z2 nz2 => ?_⟩⟩
    have s29 : Same H28 (upd H28 z2 (.lst [.ref pz])) := (Same.refl H28).new nz2
    have hz2 : upd H28 z2 (.lst [.ref pz]) z2 = some (.lst [.ref pz]) := upd_same
    generalize upd H28 z2 (.lst [.ref pz]) = H29 at s29 hz2 ⊢
    have s2529 := (s2527.trans s28).trans s29
    have hal29 := s2529 _ _ hal25
    refine ⟨_, rfl, _, rfl, by omega, by omega, fun D hD => ?_⟩
    refine lc_range (lo := 0) (n := ((ls.length : Nat) : Int).toNat) (fun j H' => Same H29 H' ∧ ∃ ws, H' D = some (.lst ws) ∧ Paired (LStN (fun a => a = D) H') ws ((restN ls.length lot j).map fun b => [(b, (1 : Int))])) ⟨(Same.refl H29).new hD, [], upd_same, .nil⟩ ?_ ?_
    · rintro j G hj ⟨g1, ws, w1, pw1⟩
      rw [Int.zero_add]
      refine ⟨rfl, _, rfl, _, rfl, al, _, rfl, .inr (.inl (.inl (g1 _ _ hal29))), rfl, flat_ints _, _, rfl, ?_⟩
      have eb : inV (.int (j : Int)) (lot.map V.int) = hasB lot j := inV_int _ _
      show (if (!inV (.int (j : Int)) (lot.map V.int)) = true then _ else _)
      rw [eb]
      cases e : hasB lot j with
      | true => exact iteF ⟨g1, ws, w1, by rw [rest_out e]; exact pw1⟩
      | false =>
        refine iteT ⟨_, rfl, (by show 2 ≤ sizeLine; decide), fun b nb => ⟨(by show 1 ≤ sizeLine; decide), fun c nc => ?_⟩⟩
        have g2 : Same G (upd G b (.tup [.int (j : Int), .int 1])) := (Same.refl G).new nb
        have hb2 : upd G b (.tup [.int (j : Int), .int 1]) b = some (.tup [.int (j : Int), .int 1]) := upd_same
        generalize upd G b (.tup [.int (j : Int), .int 1]) = G2 at g2 hb2 nc ⊢
        have g3 : Same G2 (upd G2 c (.lst [.ref b])) := (Same.refl G2).new nc
        have hc2 : upd G2 c (.lst [.ref b]) c = some (.lst [.ref b]) := upd_same
        generalize upd G2 c (.lst [.ref b]) = G3 at g3 hc2 ⊢
        have g23 := g2.trans g3
        have w3 := g23 _ _ w1
        have cD : c ≠ D := fun z => by rw [z, g2 _ _ w1] at nc; cases nc
        have sN : LStN (fun a => a = D) G3 (.ref c) [((j : Int), (1 : Int))] := ⟨c, [.ref b], rfl, cD, hc2, .cons ⟨b, rfl, g3 _ _ hb2⟩ .nil⟩
        refine ⟨ws, w3, ?_, (g1.trans g23).mut hD, _, upd_same, ?_⟩
        · have := rest_len (n := ls.length) (ns := lot) (i := j)
          rw [par_len pw1, List.length_map]
          exact sm (by omega)
        · rw [rest_in e, List.map_append]
          exact par_app (par_imp (fun _ _ z => (z.same g23).mut rfl w3) pw1) (.cons (sN.mut rfl w3) .nil)
    rintro H30 ⟨s30, ws, w30, pw30⟩
    rw [Int.toNat_natCast] at pw30
    have wl : ws.length ≤ 8 := by
      rw [par_len pw30, List.length_map]
      omega
    refine ⟨z2, D, [.ref pz], ws, rfl, rfl, s30 _ _ hz2, w30, (by show 1 + ws.length ≤ sizeLine; exact Nat.le_of_lt (sm (by omega))), fun q2 nq2 => ?_⟩
    have s31 : Same H30 (upd H30 q2 (.lst ([.ref pz] ++ ws))) := (Same.refl H30).new nq2
    have hq2 : upd H30 q2 (.lst ([.ref pz] ++ ws)) q2 = some (.lst ([.ref pz] ++ ws)) := upd_same
    generalize upd H30 q2 (.lst ([.ref pz] ++ ws)) = H31 at s31 hq2 ⊢
    have s2931 := s30.trans s31
    have wP : LWy H31 (.ref q2) (wayL ls.length lot row) := ⟨q2, _, rfl, hq2, .cons ⟨pz, ts.map V.ref, rfl, (s29.trans s2931) _ _ hpz, par_imp (fun _ _ z => z.same (s29.trans s2931)) (pairs_st pat)⟩ (par_imp (fun _ _ z => z.st.same s31) pw30)⟩
    have s2431 := (s25.trans s2529).trans s2931
    have ra31 := ra24.same s2431
    have tab31 := tab24.ext s2431
    -- shown just if it is had
    refine ⟨fun σ' H' => σ' = [some (.ref p), some (.ref la), some (.ref r), some (.int (ls.length : Nat)), some (.bl (levelB ls)), some (.ref pw), some (.ref pk), some (.ref pf), some (.ref q0), some vS, some (.int (mostK ls : Nat)), some (.ref al), some (.ref ar), some (.ref q2), none, none] ∧ ExtN H31 H' ∧ Tabs (T2 P0 P1 P2) H', ?_, ?_⟩
    · refine ⟨_, rfl, _, rfl, madeU wP gw l3 l8 fun uD H32 lfD s32 => ⟨rfl, madeM lfD fun qD H33 s33 pgD => ⟨rfl, ?_⟩⟩⟩
      have s3133 := s32.trans s33
      refine ⟨r, qD, ls, dueW (wayL ls.length lot row), rfl, ra31.same s3133, l3, l8, bd, cl, tab31.ext s3133, ⟨uD, pgD, lfD.same s33⟩, gd, fun H34 S3 e34 tab34 pm3 od3 => ?_⟩
      have eS3 := sizes_most l3 lt el lmL.2 pm3 od3
      have e3134 := (ExtN.of s3133).trans e34
      have e2434 := (ExtN.of s2431).trans e3134
      have wP34 := wP.ext e3134
      have hla34 := e2434 _ _ hla24 (fun _ z => nomatch z)
      refine ⟨_, rfl, _, rfl, la, .ref q2, ls, wayL ls.length lot row, rfl, hla34, wP34, good_fit gw, fun H35 s35 => ?_⟩
      refine ⟨rfl, _, rfl, ?_⟩
      rw [ne_bb (by rw [decide_eq_true eS3, Bool.true_and, had_due gw]; rfl)]
      exact iteF ⟨rfl, e3134.trans (ExtN.of s35), tab34.ext s35⟩
    rintro σ' H35 ⟨rfl, e3135, tab35⟩
    -- with one bar less on the line
    have e2435 := (ExtN.of s2431).trans e3135
    have hal35 := e2435 _ _ hal24 (fun _ z => nomatch z)
    have har35 := e2435 _ _ har24 (fun _ z => nomatch z)
    have ll1 : 1 ≤ (lot.map V.int).length := by rw [List.length_map]; omega
    have ltF : Lot ls.length (lot.take (lot.length - 1)) := lot_take lt
    have lF : (lot.take (lot.length - 1)).length = lot.length - 1 := by rw [List.length_take]; omega
    refine ⟨_, rfl, ?_⟩
    dsimp only [tNoPart]
    refine ⟨_, rfl, _, rfl, slLast hal35 ll1 fun a5 H36 ha5 s36 => ?_⟩
    rw [List.length_map, ← List.map_take] at ha5
    refine ⟨(by show 1 ≤ sizeLine; decide), fun b5 nb5 => ?_⟩
    have s37 : Same H36 (upd H36 b5 (.tup [.int 1])) := (Same.refl H36).new nb5
    have hb5 : upd H36 b5 (.tup [.int 1]) b5 = some (.tup [.int 1]) := upd_same
    generalize upd H36 b5 (.tup [.int 1]) = H37 at s37 hb5 ⊢
    refine ⟨_, rfl, catV hb5 ((s36.trans s37) _ _ har35) (by rw [List.length_map]; show 1 + row.length ≤ 1000; omega) fun c5 H38 hc5 s38 => ?_⟩
    have hc5 : H38 c5 = some (.tup (((1 : Int) :: row).map V.int)) := hc5
    have s3638 := s37.trans s38
    refine ⟨a5, c5, _, _, rfl, .inr ⟨.inl (.inl (s3638 _ _ ha5)), .inl (.inl hc5)⟩, fun pz5 ts5 H39 s39 npz5 nts5 hpz5 pat5 => ⟨(by show 1 ≤ sizeLine; decide), fun z5 nz5 => ?_⟩⟩
    have s40 : Same H39 (upd H39 z5 (.lst [.ref pz5])) := (Same.refl H39).new nz5
    have hz5 : upd H39 z5 (.lst [.ref pz5]) z5 = some (.lst [.ref pz5]) := upd_same
    generalize upd H39 z5 (.lst [.ref pz5]) = H40 at s40 hz5 ⊢
    have s3540 := ((s36.trans s3638).trans s39).trans s40
    have hal40 := s3540 _ _ hal35
    refine ⟨_, rfl, _, rfl, by omega, by omega, fun D5 hD5 => ?_⟩
    refine lc_range (lo := 0) (n := ((ls.length : Nat) : Int).toNat) (fun j H' => Same H40 H' ∧ ∃ ws, H' D5 = some (.lst ws) ∧ Paired (LStN (fun a => a = D5) H') ws ((restN ls.length (lot.take (lot.length - 1)) j).map fun b => [(b, (1 : Int))])) ⟨(Same.refl H40).new hD5, [], upd_same, .nil⟩ ?_ ?_
    · rintro j G hj ⟨g1, ws, w1, pw1⟩
      rw [Int.zero_add]
      refine ⟨rfl, _, rfl, _, rfl, ?_⟩
      dsimp only [tNoPart]
      refine ⟨_, rfl, _, rfl, slLast (g1 _ _ hal40) ll1 fun t6 G1 ht6 g0 => ?_⟩
      rw [List.length_map, ← List.map_take] at ht6
      refine ⟨t6, _, rfl, .inr (.inl (.inl ht6)), rfl, flat_ints _, _, rfl, ?_⟩
      have eb : inV (.int (j : Int)) ((lot.take (lot.length - 1)).map V.int) = hasB (lot.take (lot.length - 1)) j := inV_int _ _
      show (if (!inV (.int (j : Int)) ((lot.take (lot.length - 1)).map V.int)) = true then _ else _)
      rw [eb]
      have w0 := g0 _ _ w1
      cases e : hasB (lot.take (lot.length - 1)) j with
      | true => exact iteF ⟨g1.trans g0, ws, w0, by rw [rest_out e]; exact par_imp (fun _ _ z => z.same g0) pw1⟩
      | false =>
        refine iteT ⟨_, rfl, (by show 2 ≤ sizeLine; decide), fun b nb => ⟨(by show 1 ≤ sizeLine; decide), fun c nc => ?_⟩⟩
        have g2 : Same G1 (upd G1 b (.tup [.int (j : Int), .int 1])) := (Same.refl G1).new nb
        have hb2 : upd G1 b (.tup [.int (j : Int), .int 1]) b = some (.tup [.int (j : Int), .int 1]) := upd_same
        generalize upd G1 b (.tup [.int (j : Int), .int 1]) = G2 at g2 hb2 nc ⊢
        have g3 : Same G2 (upd G2 c (.lst [.ref b])) := (Same.refl G2).new nc
        have hc2 : upd G2 c (.lst [.ref b]) c = some (.lst [.ref b]) := upd_same
        generalize upd G2 c (.lst [.ref b]) = G3 at g3 hc2 ⊢
        have g23 := (g0.trans g2).trans g3
        have w3 := g23 _ _ w1
        have cD : c ≠ D5 := fun z => by rw [z, g2 _ _ w0] at nc; cases nc
        have sN : LStN (fun a => a = D5) G3 (.ref c) [((j : Int), (1 : Int))] := ⟨c, [.ref b], rfl, cD, hc2, .cons ⟨b, rfl, g3 _ _ hb2⟩ .nil⟩
        refine ⟨ws, w3, ?_, (g1.trans g23).mut hD5, _, upd_same, ?_⟩
        · have := rest_len (n := ls.length) (ns := lot.take (lot.length - 1)) (i := j)
          rw [par_len pw1, List.length_map]
          exact sm (by omega)
        · rw [rest_in e, List.map_append]
          exact par_app (par_imp (fun _ _ z => (z.same g23).mut rfl w3) pw1) (.cons (sN.mut rfl w3) .nil)
    rintro H41 ⟨s41, ws5, w41, pw41⟩
    rw [Int.toNat_natCast] at pw41
    have wl5 : ws5.length ≤ 8 := by
      have := rest_len (n := ls.length) (ns := lot.take (lot.length - 1)) (i := ls.length)
      rw [par_len pw41, List.length_map]
      omega
    refine ⟨z5, D5, [.ref pz5], ws5, rfl, rfl, s41 _ _ hz5, w41, (by show 1 + ws5.length ≤ sizeLine; exact Nat.le_of_lt (sm (by omega))), fun q5 nq5 => ?_⟩
    have s42 : Same H41 (upd H41 q5 (.lst ([.ref pz5] ++ ws5))) := (Same.refl H41).new nq5
    have hq5 : upd H41 q5 (.lst ([.ref pz5] ++ ws5)) q5 = some (.lst ([.ref pz5] ++ ws5)) := upd_same
    generalize upd H41 q5 (.lst ([.ref pz5] ++ ws5)) = H42 at s42 hq5 ⊢
    have s4042 := s41.trans s42
    have s3542 := s3540.trans s4042
    have e2442 := e2435.trans (ExtN.of s3542)
    have tab42 := tab35.ext s3542
    refine ⟨_, rfl, rfl, _, rfl, ?_⟩
    by_cases k1 : mostK ls = 1
    · refine iteDT (by rw [k1]; rfl) ?_
      exact k _ (k24.ext e2442) (pen24.ext e2442) tab42
    refine iteDF (fun z => k1 (by have := V.int.inj z; omega)) ?_
    have rowF : row.take (lot.length - 2) ∈ sgnR ((lot.take (lot.length - 1)).length - 1) := by
      rw [lF]
      refine sgnR_mem.mpr ⟨by rw [List.length_take]; omega, fun x m => (sgnR_mem.mp rowm).2 x (List.mem_of_mem_take m)⟩
    have zF : (lot.take (lot.length - 1)).zip ((1 : Int) :: row) = (lot.take (lot.length - 1)).zip (1 :: row.take (lot.length - 2)) := by
      rw [cut_zip _ ((1 : Int) :: row), lF, show lot.length - 1 = (lot.length - 2) + 1 by omega, List.take_succ_cons]
    have wF : LWy H42 (.ref q5) (wayL ls.length (lot.take (lot.length - 1)) (row.take (lot.length - 2))) := by
      refine ⟨q5, _, rfl, hq5, .cons ⟨pz5, ts5.map V.ref, rfl, (s40.trans s4042) _ _ hpz5, ?_⟩ (par_imp (fun _ _ z => z.st.same s42) pw41)⟩
      rw [← zF]
      exact par_imp (fun _ _ z => z.same (s40.trans s4042)) (pairs_st pat5)
    have gF := wayL_good l8 ltF (by omega) rowF
    have elF := row_len (by omega) rowF
    refine ⟨_, rfl, _, rfl, madeU wF gF l3 l8 fun uF H43 lfF s43 => ⟨rfl, madeM lfF fun qF H44 s44 pgF => ⟨rfl, ?_⟩⟩⟩
    have s4244 := s43.trans s44
    have ra44 := ra24.ext (e2442.trans (ExtN.of s4244))
    refine ⟨r, qF, ls, dueW (wayL ls.length (lot.take (lot.length - 1)) (row.take (lot.length - 2))), rfl, ra44, l3, l8, bd, cl, tab42.ext s4244, ⟨uF, pgF, lfF.same s44⟩, due_good gF, fun H45 S4 e45 tab45 pm4 od4 => ?_⟩
    have eS4 := sizes_fewer l3 ltF elF (by rw [lF]; omega) pm4
    rw [eS4, Bool.false_and]
    refine ⟨false, false, rfl, rfl, ?_⟩
    have e2445 := (e2442.trans (ExtN.of s4244)).trans e45
    exact k _ (k24.ext e2445) (pen24.ext e2445) tab45
end
end K
namespace K
open PySem PySem.Spec PyProof.Rows L2 Rg LamX
open Evl (pss_cut)
/-- isinstance(e, c), e the caught error with its dict -/
def rIsX (K : PySem.W.Frag) (a : Addr) (cls : Value) (d : Option Addr) : List V → Hp → VK → Prop := fun xs H Q => ∃ (c : V) (cv : Value) (b : Bool) (D dd : Addr) (fs : List (Str × V)), xs = [.ref a, c] ∧ (∀ u, RelV c u → u = cv) ∧ cls = .ref D ∧ ExcC K D ∧ d = some dd ∧ H dd = some (.xd fs) ∧ PySem.W.kitOne K (.ref D) cv = some b ∧ Q (.bl b) H
theorem cr_isX {X : Cx} {a : Addr} {cls : Value} {d : Option Addr} {oe : Obj} {pn : List (Addr × Obj)} (hz : Zc cls d oe) (hf : ∃ vs, oe.data = .fields vs) : CallR (X.suite a ((a, oe) :: pn)) (.builtin "isinstance") (rIsX X.K a cls d) := by
  intro pins s σ H xs us Q I r ⟨c, cv, b, D, dd, fs, ex, hcv, ec, C, ed, hdd, e, q⟩
  subst ex ec ed
  obtain ⟨u1, u2, rfl, r1, r2⟩ := vals2 r
  obtain rfl : u1 = Value.ref a := r1
  obtain rfl := hcv _ r2
  obtain ⟨hget, _⟩ := I.pin (a, oe) (List.mem_append_left _ List.mem_cons_self)
  obtain ⟨vs, hv⟩ := hf
  obtain ⟨mA, hns, _⟩ := (show ObjOk X.prog X.w H s.heap dd (.xd fs) from I.hok dd _ hdd)
  obtain ⟨od, ho, _⟩ := lookIn_ns hns
  have J : PySem.W.InstAt s.heap a oe D (some od) := ⟨hget, hz.1, by unfold PySem.W.notCls; rw [hv] <;> rfl, by rw [hz.2]; exact ho⟩
  have hcl : (PySem.W.clsIn X.K D).isSome = true := by
    obtain ⟨cd, hc, _⟩ := PySem.W.any_some C.hd
    rw [hc]
    rfl
  exact PySem.W.kia_one (PySem.W.kitx_exc hcl C.hg C.hk C.hs C.ha C.hn C.ht C.hm) I.kIn J e (fun z => nomatch z) fun tk => ⟨.bl b, H, I.kept (t' := tk) fun _ _ z => z, rfl, q⟩
/-- error.f, whose class is told at the proof -/
def tXfA (K : PySem.W.Frag) (a : Addr) (cls : Value) (d : Option Addr) (te : TE) (f : Str) : TE := fun σ Hh Q => te σ Hh fun x J => x = .ref a ∧ ∃ (C dd : Addr) (fs : List (Str × V)) (v : V), cls = .ref C ∧ XfC K C ∧ PySem.W.findIn K (.ref C) f = some none ∧ d = some dd ∧ J dd = some (.xd fs) ∧ fs.lookup f = some v ∧ Q v J
theorem pe_xfA {X : Cx} {a : Addr} {oe : Obj} {cls : Value} {d : Option Addr} {pn : List (Addr × Obj)} {ex : Expr} {te : TE} {po : Pos} {n : Str} (hz : Zc cls d oe) (hf : ∃ vs, oe.data = .fields vs) (he : PE (X.suite a ((a, oe) :: pn)) ex te)
    (hb : attributeBase ex n X.env (eval ex X.env) = eval ex X.env := by rfl) : PE (X.suite a ((a, oe) :: pn)) (.Attribute ex n po) (tXfA X.K a cls d te n) := by
  refine ⟨fun pins s σ Hh Q Iv h => attr_of hb (thn (he.run pins s σ Hh _ Iv h) fun u s1 hh => ?_)⟩
  obtain ⟨x, J, I1, rx, exx, C, dd, fs, v, ec, T, hno, ed, ea, l, q⟩ := hh
  subst exx
  obtain rfl : u = Value.ref a := rx
  subst ec ed
  obtain ⟨ha, _⟩ := I1.pin (a, oe) (List.mem_append_left _ List.mem_cons_self)
  obtain ⟨vs, hd⟩ := hf
  have hx : ObjOk X.prog X.w J s1.heap dd (.xd fs) := I1.hok dd _ ea
  obtain ⟨mA, hns, hr⟩ := hx
  obtain ⟨od, ho, hl⟩ := lookIn_ns hns
  obtain ⟨z, hu, ru⟩ := RelO.some_of (v := v) (o := mA n) (by rw [← l]; exact hr n)
  have J0 : PySem.W.InstAt s1.heap a oe C (some od) := ⟨ha, hz.1, by unfold PySem.W.notCls; rw [hd] <;> rfl, by rw [hz.2]; exact ho⟩
  exact HandSPX.exc_get I1.kIn J0 T.ga T.gg T.exC (PySem.W.findObj_own T.hdC hno rfl (by rw [hl, hu])) (handed_of ru) ⟨v, J, I1.tok _, ru, q⟩
structure Hs where
  r : Addr
  t : Addr
structure HeardC (K : PySem.W.Frag) (mg : Str → Option Value) (c : Hs) (eR : Addr) : Prop where
  gRE : mg "RingError" = some (.ref eR)
  gr : mg "BadRing" = some (.ref c.r)
  er : ExcC K c.r
  xr : XfC K c.r
  mr : PySem.W.exmOne K (.ref c.r) (.ref eR) = some true
  fr : PySem.W.findIn K (.ref c.r) "part" = some none
  gt : mg "TooLong" = some (.ref c.t)
  et : ExcC K c.t
  xt : XfC K c.t
  mt : PySem.W.exmOne K (.ref c.t) (.ref eR) = some true
  ft : PySem.W.findIn K (.ref c.t) "bar" = some none
  ktr : PySem.W.kitOne K (.ref c.t) (.ref c.r) = some false
inductive Tells (c : Hs) : Addr → Str → V → List V → Prop where
  | r (v : V) : Tells c c.r "part" v [.str "ring", v]
  | t (v : V) : Tells c c.t "bar" v [.str "long", v]
/-- one of the errors comes: a tuple tells which, and its field -/
def Told (c : Hs) (Q : VK) : XK := fun cls d H' => ∃ (C dd : Addr) (n : Str) (v : V) (its : List V), cls = .ref C ∧ d = some dd ∧ H' dd = some (.xd [(n, v)]) ∧ Tells c C n v its ∧ ∀ p H2, Same H' H2 → H2 p = some (.tup its) → Q (.ref p) H2
def THeard (c : Hs) : (XK → Hp → VK → Prop) → Hp → VK → Prop := fun tl H Q => ∀ R : VK, tl (Told c Q) H R
theorem takes_len {X : Cx} {W : WX} (t : Takes X W) : Takes X fun c d σ H => σ.length = X.N.length → W c d σ H := fun u s' ⟨a, B, sI, pins, σ, H, cls, d, e, I, nb, up, sky, na, os, ag, w⟩ =>
  t u s' ⟨a, B, sI, pins, σ, H, cls, d, e, I, nb, up, sky, na, os, ag, w I.len⟩
abbrev nHeard : List Str := ["_law_ask", "_law_heard_here", "error"]
theorem scHeard : FnScope nHeard ["_law_ask"] (defScope sLwHeard) := ⟨rfl, rfl, rfl, by decide +kernel, rfl, by decide +kernel, by decide +kernel⟩
theorem heard_gives {X : Cx} {c : Hs} {eR g : Addr} {cdg : Value} {q : Str} (T : Bi X.mg) (Hc : HeardC X.K X.mg c eR) : GivesTo X nHeard "_law_heard" (defScope sLwHeard) g cdg (defBody sLwHeard) "_law_ask" q (THeard c) := by
  intro f c' s H Q tl act hc h
  have nd := scHeard.nd
  refine ⟨_, pss_cons (ps_set (i := 1) nd rfl (Or.inl rfl) pe_non)
    (pss_cons (ps_try_as (X := (cxOf C8.CX0 X.prog X.w X.K X.mg X.base nHeard "_law_heard" (defScope sLwHeard) g cdg X.A X.stack s H C8.E0).nox) (c := .ref eR) (i := 2)
      (tb := fun W D σ H => ∃ Ech : XK, (∀ cls d σ' H', Ech cls d H' → σ'.length = 3 → W cls d σ' H') ∧ σ[0]? = some (some (.ref f)) ∧ H c' = some (CodeO c' q) ∧ tl Ech H fun _ H' => D.nx σ H')
      rfl rfl nd rfl rfl ⟨rfl, rfl, .inl Hc.gRE⟩ L2.takes0 (fun W pn xe tk _ => ?_) (fun a oe cls d pn hz hf =>
        pss_cons (ps_set (i := 1) nd rfl (Or.inl rfl) (pe_tup (pa_cons pe_str (pa_cons pe_str pa_nil))))
        (pss_one (ps_if (pt_val (pe_callB (cr_isX hz hf) (by rfl) T.isinstance (by decide +kernel) (pa_cons (pv 2) (pa_cons (pe_glob (v := .ref c.r) rfl Hc.gr rfl) pa_nil))))
          (pss_one (ps_set (i := 1) nd rfl (Or.inl rfl) (pe_tup (pa_cons pe_str (pa_cons (pe_xfA hz hf (pv 2)) pa_nil)))))
          (pss_one (ps_if (pt_val (pe_callB (cr_isX hz hf) (by rfl) T.isinstance (by decide +kernel) (pa_cons (pv 2) (pa_cons (pe_glob (v := .ref c.t) rfl Hc.gt rfl) pa_nil))))
          (pss_one (ps_set (i := 1) nd rfl (Or.inl rfl) (pe_tup (pa_cons pe_str (pa_cons (pe_xfA hz hf (pv 2)) pa_nil)))))
          pss_nil))))))
    (pss_one (ps_ret (pv 1)))), ?_⟩
  · refine ⟨fun pins s' σ H' D I h' => ?_⟩
    obtain ⟨Ech, hW, h1, h2, h3⟩ := h'
    exact (pss_one (ps_expr (act _ pn xe Ech _ _ (takes_len tk) hW))).run pins s' σ H' D I ⟨h1, h2, h3⟩
  · refine ⟨Told c Q, ?_, rfl, hc, h _⟩
    rintro cls d σ' H' ⟨C, dd, nm, v, its, rfl, rfl, hdd, tells, q⟩ hl
    obtain ⟨x0, x1, x2, rfl⟩ : ∃ x0 x1 x2, σ' = [x0, x1, x2] := by
      match σ', hl with
      | [x0, x1, x2], _ => exact ⟨x0, x1, x2, rfl⟩
    have tells' := tells
    cases tells'
    · refine ⟨true, Hc.mr, fun _ a ha => ?_, fun z => by cases z⟩
      refine ⟨(by show 2 ≤ sizeLine; decide), fun y hy => ?_⟩
      have s2 : Same H' (upd H' y (.tup [.str "other", .str ""])) := (Same.refl H').new hy
      refine ⟨_, rfl, .ref c.r, .ref c.r, true, c.r, dd, _, rfl, fun _ r => r, rfl, Hc.er, rfl, s2 _ _ hdd, kit_self, _, rfl, iteT ?_⟩
      refine ⟨_, rfl, rfl, c.r, dd, _, v, rfl, Hc.xr, Hc.fr, rfl, s2 _ _ hdd, by simp [List.lookup], (by show 2 ≤ sizeLine; decide), fun p hp => ?_⟩
      exact ⟨_, rfl, q p _ (s2.new hp) upd_same⟩
    · refine ⟨true, Hc.mt, fun _ a ha => ?_, fun z => by cases z⟩
      refine ⟨(by show 2 ≤ sizeLine; decide), fun y hy => ?_⟩
      have s2 : Same H' (upd H' y (.tup [.str "other", .str ""])) := (Same.refl H').new hy
      refine ⟨_, rfl, .ref c.r, .ref c.r, false, c.t, dd, _, rfl, fun _ r => r, rfl, Hc.et, rfl, s2 _ _ hdd, Hc.ktr, _, rfl, iteF ?_⟩
      refine ⟨_, rfl, .ref c.t, .ref c.t, true, c.t, dd, _, rfl, fun _ r => r, rfl, Hc.et, rfl, s2 _ _ hdd, kit_self, _, rfl, iteT ?_⟩
      refine ⟨_, rfl, rfl, c.t, dd, _, v, rfl, Hc.xt, Hc.ft, rfl, s2 _ _ hdd, by simp [List.lookup], (by show 2 ≤ sizeLine; decide), fun p hp => ?_⟩
      exact ⟨_, rfl, q p _ (s2.new hp) upd_same⟩
/-- a lambda that raises is heard; Z: how things stand where it raises -/
theorem hear {c : Hs} {C : Addr} {n : Str} {v : V} {its : List V} (te : Tells c C n v its) {T : List (Addr × Str)} {H : Hp} {σ : L2.St} {t : XK → TE} {Q : VK} (Z : Hp → Prop) (tab : Tabs T H)
    (body : ∀ (E' : XK) (J : Hp) (Q' : VK), ExtN H J → Tabs T J → (∀ J2 : Hp, Z J2 → Errs E' C n v J2) → t E' σ J Q') (k : ∀ J2 M p, Z J2 → Same J2 M → M p = some (.tup its) → Q (.ref p) M) : tLam T (THeard c) t σ H Q := by
  refine ⟨tab, fun I extI tabsI R => ?_⟩
  refine body _ _ _ extI tabsI fun J2 z d L sL nd xd => ⟨C, d, n, v, its, rfl, rfl, xd, te, fun p M sM hp => k J2 M p z (sL.trans sM) hp⟩
end K
namespace K
open PySem L2 Rg LamX
open Evl (pss_cut)
def OddV (l : Addr) (ls : List Int) (M : Hp) (v : V) : Prop := v = .non ∨ v = .int 5 ∨ (∃ z, v = .str z) ∨ (v = .ref l ∧ M l = some (.lst (ls.map V.int)))
structure KitT (K : PySem.W.Frag) (C : Addr) : Prop where
  kN : PySem.W.kitOne K (.type "NoneType") (.ref C) = some false
  kI : PySem.W.kitOne K (.type "int") (.ref C) = some false
  kS : PySem.W.kitOne K (.type "str") (.ref C) = some false
  kL : PySem.W.kitOne K (.type "list") (.ref C) = some false
theorem OddV.no {K : PySem.W.Frag} {C l : Addr} {ls : List Int} {M : Hp} {v : V} (G : KitT K C) (h : OddV l ls M v) : NoR K C M v := by
  rcases h with rfl | rfl | ⟨z, rfl⟩ | ⟨rfl, h⟩
  · exact ⟨_, .base .non, G.kN⟩
  · exact ⟨_, .base (.int _), G.kI⟩
  · exact ⟨_, .base (.str _), G.kS⟩
  · exact ⟨_, .base (.lst h), G.kL⟩
theorem OddV.kp {l p : Addr} {ls : List Int} {M M' : Hp} {v : V} (h : OddV l ls M v) (n : l ≠ p) (s : Kp p M M') : OddV l ls M' v := by
  rcases h with h | h | h | ⟨h, g⟩
  · exact .inl h
  · exact .inr (.inl h)
  · exact .inr (.inr (.inl h))
  · exact .inr (.inr (.inr ⟨h, s _ _ g n (fun _ z => nomatch z)⟩))
theorem first_one {ls : List Int} {i j : Nat} (h : FirstL ls i) (k : FirstL ls j) : i = j := by
  obtain ⟨a, h1, h2, h3⟩ := h
  obtain ⟨b, k1, k2, k3⟩ := k
  have e : a = b := Int.le_antisymm (k2 a (List.mem_of_getElem? h1)) (h2 b (List.mem_of_getElem? k1))
  subst e
  rcases Nat.lt_trichotomy i j with c | c | c
  · exact absurd h1 (k3 i c)
  · exact c
  · exact absurd k1 (h3 j c)
structure LT (K : PySem.W.Frag) (CR P0 P1 P2 p : Addr) (e : Addr × List Int) (n : Nat) (la r : Addr) (ls : List Int) (odd : V) (H : Hp) : Prop where
  pen : PenAt K H p e n
  tab : Tabs (T2 P0 P1 P2) H
  hla : H la = some (.lst (ls.map V.int))
  lap : la ≠ p
  ra : RingAt K CR H r ls
  od : OddV la ls H odd
  l3 : 3 ≤ ls.length
  l8 : ls.length ≤ 8
  bd : Bd 1000000 ls
section
variable {K : PySem.W.Frag} {CR P0 P1 P2 p la r : Addr} {e : Addr × List Int} {n m : Nat} {ls : List Int} {odd : V} {H H' : Hp}
theorem LT.kp (h : LT K CR P0 P1 P2 p e n la r ls odd H) (k : Kp p H H') (pen : PenAt K H' p e m) (t : Tabs (T2 P0 P1 P2) H') : LT K CR P0 P1 P2 p e m la r ls odd H' :=
  let ⟨px, hp⟩ := h.pen.some
  ⟨pen, t, k _ _ h.hla h.lap (fun _ z => nomatch z), h.lap, h.ra.kp k hp, h.od.kp h.lap k, h.l3, h.l8, h.bd⟩
theorem LT.ext (h : LT K CR P0 P1 P2 p e n la r ls odd H) (x : ExtN H H') (t : Tabs (T2 P0 P1 P2) H') : LT K CR P0 P1 P2 p e n la r ls odd H' := h.kp (Kp.of x) (h.pen.ext x) t
theorem LT.same (h : LT K CR P0 P1 P2 p e n la r ls odd H) (s : Same H H') : LT K CR P0 P1 P2 p e n la r ls odd H' := h.ext (ExtN.of s) (h.tab.ext s)
end
/-! ### the law -/
theorem turn_size {K : PySem.W.Frag} {T : List (Addr × Str)} {σ : L2.St} {H : Hp} {Q : VK} {p : Addr} {e : Addr × List Int} {n i : Nat} (h1 : σ[1]? = some (some (.ref p))) (h2 : σ[2]? = some (some (.int (0 + (i : Nat))))) (pen : PenAt K H p e n) (hn : n < 700000) (tab : Tabs T H)
    (q : ∀ (m : Nat) (H3 : Hp), 3 ≤ m → m ≤ 8 → Tabs T H3 → PenAt K H3 p e (n + 1) → Q (.int (m : Nat)) H3) :
    tIf (tTest (tOp (rI0 fun i j => .bl (decide (j < i))) (tVar 2) (tC (.int 0)))) (tCall (spPick K) [] E0 (tCons (tVar 1) (tCons (tLst (tCons (tC (.int 3)) (tCons (tC (.int 4)) (tCons (tC (.int 5)) (tCons (tC (.int 5)) (tCons (tC (.int 6)) (tCons (tC (.int 7)) tNil))))))) tNil)))
      (tCall (spPick K) [] E0 (tCons (tVar 1) (tCons (tLst (tCons (tC (.int 5)) (tCons (tC (.int 6)) (tCons (tC (.int 8)) (tCons (tC (.int 3)) tNil))))) tNil))) σ H Q := by
  refine ⟨_, h2, _, _, rfl, rfl, _, rfl, ?_⟩
  by_cases c : (0 : Int) < 0 + (i : Nat)
  · refine iteDT c ⟨_, h1, (by show 6 ≤ sizeLine; decide), fun u nu => ?_⟩
    have npu := pen.ne nu
    have s2 : Same H (upd H u (.lst [.int 3, .int 4, .int 5, .int 5, .int 6, .int 7])) := (Same.refl H).new nu
    have hu : upd H u (.lst [.int 3, .int 4, .int 5, .int 5, .int 6, .int 7]) u = some (.lst [.int 3, .int 4, .int 5, .int 5, .int 6, .int 7]) := upd_same
    generalize upd H u (.lst [.int 3, .int 4, .int 5, .int 5, .int 6, .int 7]) = H2 at s2 hu ⊢
    refine ⟨p, u, e, _, _, rfl, SqL.of hu, npu, (by show 1 ≤ 6; decide), (by show 6 ≤ 1000; decide), by omega, pen.same s2, fun i0 v0 H3 hv0 b3 pen3 => ?_⟩
    obtain ⟨px, hpx⟩ := (pen.same s2).some
    have tab3 := tabs_but (tab.ext s2) b3 hpx
    have hm := List.mem_of_getElem? hv0
    simp only [List.mem_cons, List.not_mem_nil, or_false] at hm
    rcases hm with z | z | z | z | z | z <;> subst z
    · exact q 3 H3 (by decide) (by decide) tab3 pen3
    · exact q 4 H3 (by decide) (by decide) tab3 pen3
    · exact q 5 H3 (by decide) (by decide) tab3 pen3
    · exact q 5 H3 (by decide) (by decide) tab3 pen3
    · exact q 6 H3 (by decide) (by decide) tab3 pen3
    · exact q 7 H3 (by decide) (by decide) tab3 pen3
  · refine iteDF c ⟨_, h1, (by show 4 ≤ sizeLine; decide), fun u nu => ?_⟩
    have npu := pen.ne nu
    have s2 : Same H (upd H u (.lst [.int 5, .int 6, .int 8, .int 3])) := (Same.refl H).new nu
    have hu : upd H u (.lst [.int 5, .int 6, .int 8, .int 3]) u = some (.lst [.int 5, .int 6, .int 8, .int 3]) := upd_same
    generalize upd H u (.lst [.int 5, .int 6, .int 8, .int 3]) = H2 at s2 hu ⊢
    refine ⟨p, u, e, _, _, rfl, SqL.of hu, npu, (by show 1 ≤ 4; decide), (by show 4 ≤ 1000; decide), by omega, pen.same s2, fun i0 v0 H3 hv0 b3 pen3 => ?_⟩
    obtain ⟨px, hpx⟩ := (pen.same s2).some
    have tab3 := tabs_but (tab.ext s2) b3 hpx
    have hm := List.mem_of_getElem? hv0
    simp only [List.mem_cons, List.not_mem_nil, or_false] at hm
    rcases hm with z | z | z | z <;> subst z
    · exact q 5 H3 (by decide) (by decide) tab3 pen3
    · exact q 6 H3 (by decide) (by decide) tab3 pen3
    · exact q 8 H3 (by decide) (by decide) tab3 pen3
    · exact q 3 H3 (by decide) (by decide) tab3 pen3
theorem told_long {j : Nat} (h : j < 8) : SeqAt.shaped (.tuple [PyData.str "long", PyData.int (j : Nat)]) = true ∧ PyData.eqv (.tuple [PyData.str "long", PyData.int (j : Nat)]) (.tuple [PyData.str "long", PyData.int (j : Nat)]) = true := by
  have : j = 0 ∨ j = 1 ∨ j = 2 ∨ j = 3 ∨ j = 4 ∨ j = 5 ∨ j = 6 ∨ j = 7 := by omega
  rcases this with rfl | rfl | rfl | rfl | rfl | rfl | rfl | rfl <;> exact ⟨by decide +kernel, by decide +kernel⟩
/-- two told alike -/
theorem same_told {K : PySem.W.Frag} {M : Hp} {a b : Addr} {x : Str} {d : PyData} {v : V} {Q : VK} (ha : M a = some (.tup [.str x, v])) (hb : M b = some (.tup [.str x, v])) (dv : Dp K M v d) (sh : SeqAt.shaped (.tuple [.str x, d]) = true) (eq : PyData.eqv (.tuple [.str x, d]) (.tuple [.str x, d]) = true) (q : Q (.bl false) M) : rNeD K (.ref a) (.ref b) M Q :=
  ⟨_, _, .tup (.inl (.inl ha)) (.cons (.str _) (.cons dv .nil)), .tup (.inl (.inl hb)) (.cons (.str _) (.cons dv .nil)), sh, sh, by rw [eq]; exact q⟩
section
variable {P : Program} {w : World} {K : PySem.W.Frag} {mg : Str → Option Value} {base : Heap}
abbrev nLW : List Str := ["_law_script", "_law_bench_here", "_law_turn", "_law_lengths_here", "_law_ring", "_law_odd", "_law_due"]
theorem scLaw : FnScope nLW ["_law_script"] (defScope sLaw) := ⟨rfl, rfl, rfl, by decide +kernel, rfl, by decide +kernel, by decide +kernel⟩
def spLaw (K : PySem.W.Frag) (T : List (Addr × Str)) : Sp := fun vs H Q _ => ∃ (a : Addr) (ns : List Int), vs = [.ref a] ∧ SqL K H a (ns.map V.int) ∧ ns.length ≤ 63 ∧ Tabs T H ∧ ∀ H', Q (.bl true) H'
theorem ok_law {CR CL CM cd P0 P1 P2 eR f fR fP fLn fK fMR fMO fSM fH : Addr} {hc : Hs} {fd fdR fdP fdLn fdK fdMR fdMO fdSM fdH : FuncData} (F : FunC K "law" "law" sLaw f fd cd) (T : Bi mg) (R : RingP P w K mg base CR fR fdR) (RG : RingC K mg CR) (KT : KitT K CR)
    (PN : DefAt P w K mg base CX0 2 "_law_bench" ["_law_script"] (spPen K) fP fdP) (LN : DefAt P w K mg base CX0 3 "_law_lengths" ["_law_bench_here", "_law_many"] (spLengths K) fLn fdLn) (PK : DefAt P w K mg base CX0 3 "_law_pick" ["_law_bench_here", "_law_some"] (spPick K) fK fdK)
    (MR : DefAt P w K mg base CX0 12 "_law_most_right" ["_law_bench_here", "_law_lengths_here"] (spMR K (T2 P0 P1 P2)) fMR fdMR)
    (MOX : DefAt P w K mg base (L2.CX P w) 8 "most_on_one" ["ring"] (spMO K CR CL CM hc.r hc.t (T2 P0 P1 P2)) fMO fdMO) (SMX : DefAt P w K mg base (L2.CX P w) 10 "shows_most" ["ring", "value"] (spSM K CR CL CM hc.r hc.t (T2 P0 P1 P2)) fSM fdSM)
    (Hc : HeardC K mg hc eR) (TB : TabB base mg cd P1) (hmT : (P1, qLaw) ∈ T2 P0 P1 P2) (hu : ∀ p ∈ T2 P0 P1 P2, p.1 = P1 → p.2 = qLaw)
    (FH : Fun K "_law_heard" "_law_heard" sLwHeard fH fdH) (BH : Binds K fdH ["_law_ask"] []) (GH : mg "_law_heard" = some (.ref fH)) : FnOk P w K mg base CX0 13 f fd ["_law_script"] (spLaw K (T2 P0 P1 P2)) := by
  refine F.ok scLaw (fun vs H Q E h => ?_) (fun A outer s H vs Q E hr h => ?_)
  · obtain ⟨a, ns, rfl, _⟩ := h
    rfl
  · have nd := scLaw.nd
    obtain ⟨oc, od, kV, doc, pm, an, cdv, ct, osl, rfl, lk, hcd⟩ := FH.ex
    refine ⟨_, (pss_cons (ps_set (i := 1) nd rfl (Or.inl rfl) (pe_call PN.ok (hr.mono (by decide)) rfl PN.g PN.kp PN.b .nil pass0 (pa_cons (pv 0) pa_nil)))
      (pss_cons (ps_for PassesOwn.never rfl (pi_range1 (by rfl) T.range (pa_cons pe_int pa_nil)) (pg_name (i := 2) nd rfl (Or.inl rfl)) (pss_cons (ps_set (i := 3) nd rfl (Or.inl rfl) (pe_call LN.ok (hr.mono (by decide)) rfl LN.g LN.kp LN.b .nil pass0 (pa_cons (pv 1) (pa_cons (pe_ifExp (pt_cmpR op_gt (pv 2) pe_int (nomark _)) (pe_call PK.ok (hr.mono (by decide)) rfl PK.g PK.kp PK.b .nil pass0 (pa_cons (pv 1) (pa_cons (pe_lst (pa_cons pe_int (pa_cons pe_int (pa_cons pe_int (pa_cons pe_int (pa_cons pe_int (pa_cons pe_int pa_nil))))))) pa_nil))) (pe_call PK.ok (hr.mono (by decide)) rfl PK.g PK.kp PK.b .nil pass0 (pa_cons (pv 1) (pa_cons (pe_lst (pa_cons pe_int (pa_cons pe_int (pa_cons pe_int (pa_cons pe_int pa_nil))))) pa_nil)))) pa_nil))))
      (pss_cons (ps_asg (pe_tup (pa_cons (pe_make R.made R.ok (hr.mono (by decide)) (by rfl) RG.g R.b .nil pass0 (pa_cons (pv 3) pa_nil)) (pa_cons (pe_call PK.ok (hr.mono (by decide)) rfl PK.g PK.kp PK.b .nil pass0 (pa_cons (pv 1) (pa_cons (pe_lst (pa_cons pe_non (pa_cons pe_int (pa_cons (pv 3) (pa_cons pe_str pa_nil))))) pa_nil))) pa_nil))) (pg_tup (by rfl) (pgs_cons (pg_name (i := 4) nd rfl (Or.inr rfl)) (pgs_cons (pg_name (i := 5) nd rfl (Or.inr rfl)) pgs_nil))))
      (pss_cut (ps_if (pt_cmpR op_gt (pe_op op_mul pe_int (pe_callB (cr_max rfl) (by rfl) T.max (by decide +kernel) (pa_cons (pv 3) pa_nil))) (pe_callB (cr_sum rfl) (by rfl) T.sum (by decide +kernel) (pa_cons (pv 3) pa_nil)) (nomark _)) (pss_cons (ps_set (i := 6) nd rfl (Or.inl rfl) (pe_tup (pa_cons pe_str (pa_cons (pe_bm PySem.F.plainAttrs_list PySem.F.slot_list_index PySem.F.type_list_index mt_index (pv 3) (pa_cons (pe_callB (cr_max rfl) (by rfl) T.max (by decide +kernel) (pa_cons (pv 3) pa_nil)) pa_nil)) pa_nil))))
      (pss_cons (ps_if (pt_cmpR (op_neD hr.units) (pe_lamcall (T := T2 P0 P1 P2) (TT := THeard hc) (a := "_law_ask") (g := fH) (c := cd) (P := P1) (k := 10) (Ng := nHeard) rfl GH FH.kp lk hcd BH scHeard rfl (Or.inl rfl) (heard_gives T Hc) TB rfl hmT hu (hr.mono (by decide)) (lamS_by (sc := defScope sLaw) (by decide +kernel)) rfl (fun _ _ _ _ _ => rfl) (fun A outer s H E f c2 hr2 => (pe_call MOX.ok (hr2.mono (by decide)) rfl MOX.g MOX.kp MOX.b .nil (passes_call (takes_of rfl rfl rfl rfl) (fun _ _ _ _ h => h)) (pa_cons (pv 4) pa_nil)))) (pv 6) (nomark _)) (pss_one ps_never) pss_nil)
      (pss_one (ps_if (pt_cmpR (op_neD hr.units) (pe_lamcall (T := T2 P0 P1 P2) (TT := THeard hc) (a := "_law_ask") (g := fH) (c := cd) (P := P1) (k := 10) (Ng := nHeard) rfl GH FH.kp lk hcd BH scHeard rfl (Or.inl rfl) (heard_gives T Hc) TB rfl hmT hu (hr.mono (by decide)) (lamS_by (sc := defScope sLaw) (by decide +kernel)) rfl (fun _ _ _ _ _ => rfl) (fun A outer s H E f c2 hr2 => (pe_call SMX.ok hr2 rfl SMX.g SMX.kp SMX.b .nil (passes_call (takes_of rfl rfl rfl rfl) (fun _ _ _ _ h => h)) (pa_cons (pv 4) (pa_cons pe_non pa_nil))))) (pv 6) (nomark _)) (pss_one ps_never) pss_nil)))) (pss_one (ps_if (pt_not (pt_val (pe_call MR.ok (hr.mono (by decide)) rfl MR.g MR.kp MR.b .nil pass0 (pa_cons (pv 1) (pa_cons (pv 3) pa_nil))))) (pss_one ps_never) pss_nil)))
      (pss_cons (ps_if (pt_cmpR (op_neD hr.units) (pe_lamcall (T := T2 P0 P1 P2) (TT := THeard hc) (a := "_law_ask") (g := fH) (c := cd) (P := P1) (k := 10) (Ng := nHeard) rfl GH FH.kp lk hcd BH scHeard rfl (Or.inl rfl) (heard_gives T Hc) TB rfl hmT hu (hr.mono (by decide)) (lamS_by (sc := defScope sLaw) (by decide +kernel)) rfl (fun _ _ _ _ _ => rfl) (fun A outer s H E f c2 hr2 => (pe_call MOX.ok (hr2.mono (by decide)) rfl MOX.g MOX.kp MOX.b .nil (passes_call (takes_of rfl rfl rfl rfl) (fun _ _ _ _ h => h)) (pa_cons (pv 5) pa_nil)))) (pe_tup (pa_cons pe_str (pa_cons pe_str pa_nil))) (nomark _)) (pss_one ps_never) pss_nil)
      (pss_one (ps_if (pt_cmpR (op_neD hr.units) (pe_lamcall (T := T2 P0 P1 P2) (TT := THeard hc) (a := "_law_ask") (g := fH) (c := cd) (P := P1) (k := 10) (Ng := nHeard) rfl GH FH.kp lk hcd BH scHeard rfl (Or.inl rfl) (heard_gives T Hc) TB rfl hmT hu (hr.mono (by decide)) (lamS_by (sc := defScope sLaw) (by decide +kernel)) rfl (fun _ _ _ _ _ => rfl) (fun A outer s H E f c2 hr2 => (pe_call SMX.ok hr2 rfl SMX.g SMX.kp SMX.b .nil (passes_call (takes_of rfl rfl rfl rfl) (fun _ _ _ _ h => h)) (pa_cons (pv 5) (pa_cons pe_non pa_nil))))) (pe_tup (pa_cons pe_str (pa_cons pe_str pa_nil))) (nomark _)) (pss_one ps_never) pss_nil)))))))
      (pss_one (ps_ret pe_bl)))), ?_⟩
    obtain ⟨a, ns, rfl, hs, hl, tab, q⟩ := h
    refine ⟨_, rfl, a, ns, rfl, hs, hl, fun p e H1 s1 np pen1 => ?_⟩
    have tab1 := tab.ext s1
    refine ⟨_, rfl, by decide, by decide, ?_⟩
    refine for_range (lo := 0) (n := (3 : Int).toNat) (fun i σ H' => PenAt K H' p e (i * 100) ∧ Tabs (T2 P0 P1 P2) H' ∧ ∃ z2 z3 z4 z5 z6 : Option V, σ = [some (.ref a), some (.ref p), z2, z3, z4, z5, z6]) ⟨by simpa using pen1, tab1, _, _, _, _, _, rfl⟩ ?_ ?_
    · rintro i σ H1 hi ⟨pen1, tab1, z2, z3, z4, z5, z6, rfl⟩
      have hi3 : i < 3 := hi
      -- the number of bars
      refine ⟨_, rfl, turn_size rfl rfl pen1 (by omega) tab1 fun m H3 m3 m8 tab3 pen3 => ?_⟩
      clear tab1 pen1
      refine ⟨p, e, m, _, rfl, m3, m8, by omega, pen3, fun la ls H4 ll bd nl b4 hl4 pen4 => ?_⟩
      obtain ⟨px3, hpx3⟩ := pen3.some
      have tab4 := tabs_but tab3 b4 hpx3
      have lap := pen3.ne nl
      have l3 : 3 ≤ ls.length := by omega
      have l8 : ls.length ≤ 8 := by omega
      refine ⟨_, rfl, madeL2 hl4 l3 l8 bd fun r H5 ra s5 nr => ⟨rfl, _, rfl, _, rfl, (by show 4 ≤ sizeLine; decide), fun u nu => ?_⟩⟩
      have pen5 := pen4.same s5
      have npu := pen5.ne nu
      have s6 : Same H5 (upd H5 u (.lst [.non, .int 5, .ref la, .str "3 2 2"])) := (Same.refl H5).new nu
      have hu : upd H5 u (.lst [.non, .int 5, .ref la, .str "3 2 2"]) u = some (.lst [.non, .int 5, .ref la, .str "3 2 2"]) := upd_same
      generalize upd H5 u (.lst [.non, .int 5, .ref la, .str "3 2 2"]) = H6 at s6 hu ⊢
      have pen6 := pen5.same s6
      have s46 := s5.trans s6
      refine ⟨p, u, e, _, _, rfl, SqL.of hu, npu, (by show 1 ≤ 4; decide), (by show 4 ≤ 1000; decide), by omega, pen6, fun i0 odd H7 hv0 b7 pen7 => ?_⟩
      obtain ⟨px6, hpx6⟩ := pen6.some
      have tab7 := tabs_but (tab4.ext s46) b7 hpx6
      have hl7 := b7 _ _ lap (s46 _ _ hl4)
      have ra7 := (ra.same s6).kp ((Kp.refl p H6).but b7) hpx6
      have od7 : OddV la ls H7 odd := by
        have hm := List.mem_of_getElem? hv0
        simp only [List.mem_cons, List.not_mem_nil, or_false] at hm
        rcases hm with z | z | z | z
        · exact .inl z
        · exact .inr (.inl z)
        · exact .inr (.inr (.inr ⟨z, hl7⟩))
        · exact .inr (.inr (.inl ⟨_, z⟩))
      have st7 : LT K CR P0 P1 P2 p e (i * 100 + 1 + 12 + 1) la r ls odd H7 := ⟨pen7, tab7, hl7, lap, ra7, od7, l3, l8, bd⟩
      refine ⟨(by show 2 ≤ sizeLine; decide), fun t nt => ?_⟩
      have s8 : Same H7 (upd H7 t (.tup [.ref r, odd])) := (Same.refl H7).new nt
      have ht : upd H7 t (.tup [.ref r, odd]) t = some (.tup [.ref r, odd]) := upd_same
      generalize upd H7 t (.tup [.ref r, odd]) = H8 at s8 ht ⊢
      have st8 := st7.same s8
      refine ⟨t, _, rfl, .inl (.inl ht), rfl, _, _, rfl, _, _, rfl, rfl, ?_⟩
      clear st7 pen7 tab7 hl7 ra7 od7 hu hv0 b7 pen6 pen5 hl4 pen4 tab4 pen3 tab3 hpx3 hpx6 nu npu ht nt
      refine ⟨fun σ' G => ∃ z6 : Option V, σ' = [some (.ref a), some (.ref p), some (.int (0 + (i : Nat))), some (.ref la), some (.ref r), some odd, z6] ∧ LT K CR P0 P1 P2 p e (i * 100 + 17) la r ls odd G, ?_, ?_⟩
      · refine ⟨_, rfl, la, ls, rfl, SqL.of st8.hla, by omega, fun m hm hx => ⟨_, _, rfl, rfl, .inl ⟨by decide, by decide⟩, _, rfl, la, ls, rfl, SqL.of st8.hla, _, _, rfl, rfl, _, rfl, ?_⟩⟩
        have ce := closes_max hm hx
        by_cases c : ls.sum < 2 * m
        · refine iteDT c ?_
          have cl : closesB ls = false := by rw [← ce]; exact decide_eq_false (by omega)
          obtain ⟨j, hj, no⟩ := first_atU hm
          have fj : FirstL ls j := ⟨m, hj, hx, no⟩
          have jl : j < ls.length := (List.getElem?_eq_some_iff.mp hj).1
          refine ⟨_, rfl, .inl ⟨rfl, _, SqL.of st8.hla⟩, _, rfl, la, ls, rfl, SqL.of st8.hla, by omega, fun m' hm' hx' => ?_⟩
          obtain rfl : m = m' := Int.le_antisymm (hx' m hm) (hx m' hm')
          refine ⟨la, ls.map V.int, V.int m, j, V.int m, rfl, rfl, SqL.of st8.hla, rfl, ?_, ?_, ?_, ?_, ?_⟩
          · refine List.all_eq_true.mpr fun y hy => ?_
            obtain ⟨z, _, rfl⟩ := List.mem_map.mp hy
            rfl
          · rw [List.getElem?_map, hj]
            rfl
          · exact beq_self_eq_true m
          · intro i z hi hz
            obtain ⟨z', hz', rfl⟩ := int_at hz
            exact beq_eq_false_iff_ne.mpr (fun e => no i hi (by rw [hz', e]))
          refine ⟨(by show 2 ≤ sizeLine; decide), fun d nd => ?_⟩
          have s9 : Same H8 (upd H8 d (.tup [.str "long", .int (j : Nat)])) := (Same.refl H8).new nd
          have hd : upd H8 d (.tup [.str "long", .int (j : Nat)]) d = some (.tup [.str "long", .int (j : Nat)]) := upd_same
          generalize upd H8 d (.tup [.str "long", .int (j : Nat)]) = H9 at s9 hd ⊢
          have st9 := st8.same s9
          obtain ⟨sh, eq⟩ := told_long (j := j) (by omega)
          refine hear (.t (.int (j : Nat))) (fun J => LT K CR P0 P1 P2 p e (i * 100 + 1 + 12 + 1) la r ls odd J ∧ J d = some (.tup [.str "long", .int (j : Nat)])) st9.tab (fun E' J Q' xJ tJ er' => ?_) fun J2 M r1 z sM hr1 => ?_
          · have sJ := st9.ext xJ tJ
            exact ⟨_, rfl, .ref r, rfl, .inl ⟨r, ls, rfl, sJ.ra, l3, l8, bd, tJ, .inr ⟨cl, fun j' fj' => by rw [← first_one fj fj']; exact er' J ⟨sJ, xJ _ _ hd (fun _ z => nomatch z)⟩⟩⟩⟩
          refine ⟨_, rfl, same_told hr1 (sM _ _ z.2) (.int _) sh eq ⟨_, rfl, iteF ?_⟩⟩
          have stM := z.1.same sM
          have hdM := sM _ _ z.2
          refine hear (.t (.int (j : Nat))) (fun J => LT K CR P0 P1 P2 p e (i * 100 + 1 + 12 + 1) la r ls odd J ∧ J d = some (.tup [.str "long", .int (j : Nat)])) stM.tab (fun E' J Q' xJ tJ er' => ?_) fun J3 M2 r2 z2' sM2 hr2 => ?_
          · have sJ := stM.ext xJ tJ
            exact ⟨_, rfl, .ref r, .non, rfl, .inl ⟨r, ls, rfl, sJ.ra, l3, l8, bd, tJ, .inr ⟨cl, fun j' fj' => by rw [← first_one fj fj']; exact er' J ⟨sJ, xJ _ _ hdM (fun _ z => nomatch z)⟩⟩⟩⟩
          refine ⟨_, rfl, same_told hr2 (sM2 _ _ z2'.2) (.int _) sh eq ⟨_, rfl, iteF ?_⟩⟩
          have stE := z2'.1.same sM2
          exact ⟨_, rfl, stE.kp (Kp.refl _ _) (stE.pen.mono (by omega)) stE.tab⟩
        · refine iteDF c ?_
          have cl : closesB ls = true := by rw [← ce]; exact decide_eq_true (by omega)
          refine ⟨_, rfl, _, rfl, p, la, e, ls, _, rfl, st8.hla, lap, l3, l8, bd, cl, by omega, st8.pen, st8.tab, fun H9 k9 pen9 tab9 => ⟨_, rfl, iteF ?_⟩⟩
          exact ⟨_, rfl, st8.kp k9 pen9 tab9⟩
      rintro σ' H9 ⟨z6, rfl, st9⟩
      have sh : SeqAt.shaped (.tuple [PyData.str "ring", PyData.str "ring"]) = true := by decide +kernel
      have eq : PyData.eqv (.tuple [PyData.str "ring", PyData.str "ring"]) (.tuple [PyData.str "ring", PyData.str "ring"]) = true := by decide +kernel
      refine hear (.r (.str "ring")) (fun J => LT K CR P0 P1 P2 p e (i * 100 + 17) la r ls odd J) st9.tab (fun E' J Q' xJ tJ er' => ?_) fun J2 M r1 z sM hr1 => ?_
      · have sJ := st9.ext xJ tJ
        exact ⟨_, rfl, odd, rfl, .inr ⟨sJ.od.no KT, er' J sJ⟩⟩
      have stM := z.same sM
      refine ⟨(by show 2 ≤ sizeLine; decide), fun d nd => ?_⟩
      have sA : Same M (upd M d (.tup [.str "ring", .str "ring"])) := (Same.refl M).new nd
      have hd : upd M d (.tup [.str "ring", .str "ring"]) d = some (.tup [.str "ring", .str "ring"]) := upd_same
      generalize upd M d (.tup [.str "ring", .str "ring"]) = M1 at sA hd ⊢
      refine same_told (sA _ _ hr1) hd (.str _) sh eq ⟨_, rfl, iteF ?_⟩
      have stA := stM.same sA
      refine hear (.r (.str "ring")) (fun J => LT K CR P0 P1 P2 p e (i * 100 + 17) la r ls odd J) stA.tab (fun E' J Q' xJ tJ er' => ?_) fun J3 M2 r2 z2' sM2 hr2 => ?_
      · have sJ := stA.ext xJ tJ
        exact ⟨_, rfl, odd, .non, rfl, .inr ⟨sJ.od.no KT, er' J sJ⟩⟩
      have stM2 := z2'.same sM2
      refine ⟨(by show 2 ≤ sizeLine; decide), fun d2 nd2 => ?_⟩
      have sB : Same M2 (upd M2 d2 (.tup [.str "ring", .str "ring"])) := (Same.refl M2).new nd2
      have hd2 : upd M2 d2 (.tup [.str "ring", .str "ring"]) d2 = some (.tup [.str "ring", .str "ring"]) := upd_same
      generalize upd M2 d2 (.tup [.str "ring", .str "ring"]) = M3 at sB hd2 ⊢
      refine same_told (sB _ _ hr2) hd2 (.str _) sh eq ⟨_, rfl, iteF ?_⟩
      have stE := stM2.same sB
      exact ⟨stE.pen.mono (by omega), stE.tab, _, _, _, _, _, rfl⟩
    · rintro σ H' ⟨pen, tab, z2, z3, z4, z5, z6, rfl⟩
      exact q H'
end
end K
/-! the head by one kernel run, with the empty tables of the makers behind the written part -/
namespace K
open PySem
def tabF (ts : List Addr) : PySem.W.Frag := ts.map fun P => (P, PySem.W.tabObj #[])
theorem tabF_fst : ∀ ts : List Addr, (tabF ts).map (·.1) = ts
  | [] => rfl
  | P :: ts => congrArg (P :: ·) (tabF_fst ts)
theorem tabF_at : ∀ {ts : List Addr} {P : Addr}, P ∈ ts → List.lookup P (tabF ts) = some (PySem.W.tabObj #[])
  | Q :: ts, P, h => by
    show List.lookup P ((Q, PySem.W.tabObj #[]) :: tabF ts) = _
    rw [List.lookup_cons]
    by_cases c : P = Q
    · rw [c]
      simp
    · rw [show (P == Q) = false from beq_eq_false_iff_ne.mpr c]
      exact tabF_at ((List.mem_cons.mp h).resolve_left c)
section
variable {K : Params → PySem.W.Frag} {as ts : List Addr} {e : ∀ P, as ++ ts = (K P ++ tabF ts).map (·.1)} {w : World} {h : Heap}
theorem kk_in_of (Y : (PySem.W.kHook (fun P => K P ++ tabF ts) (as ++ ts) e).says w h) : (K w.params).In h := fun a o q => (show (K w.params ++ tabF ts).In h from Y) a o (by
  show List.lookup a (K w.params ++ tabF ts) = _
  rw [List.lookup_append, show List.lookup a (K w.params) = some o from q]
  rfl)
theorem kk_out_of (_ : (PySem.W.kHook (fun P => K P ++ tabF ts) (as ++ ts) e).says w h) {P : Addr} (hP : P ∉ as) : (K w.params).lookup P = none := by
  have q := e w.params
  rw [List.map_append, tabF_fst] at q
  have q2 : as = (K w.params).map (·.1) := List.append_cancel_right q
  show List.lookup P (K w.params) = none
  rw [q2] at hP
  clear q q2
  generalize K w.params = l at hP
  induction l with
  | nil => rfl
  | cons x l ih =>
    obtain ⟨a, o⟩ := x
    rw [List.lookup_cons]
    rw [List.map_cons] at hP
    rw [show (P == a) = false from beq_eq_false_iff_ne.mpr fun z => hP (by rw [z]; exact List.mem_cons_self ..)]
    exact ih fun z => hP (List.mem_cons_of_mem _ z)
theorem kk_tabs_of (Y : (PySem.W.kHook (fun P => K P ++ tabF ts) (as ++ ts) e).says w h) {P : Addr} (hP : P ∈ ts) (hn : P ∉ as) : h.get? P = some (PySem.W.tabObj #[]) := (show (K w.params ++ tabF ts).In h from Y) P _ (by
  show List.lookup P (K w.params ++ tabF ts) = _
  rw [List.lookup_append, show List.lookup P (K w.params) = none from kk_out_of Y hn, tabF_at hP]
  rfl)
end
end K
/-! the head by three kernel runs: the looks, the view (law alone), the written part -/
namespace K
open PySem PySem.W PySem.Calls PyProof.Rows HeadRun
def lo53_0 : List PySem.Str := ["_wall", "__name__", "fixed", "Paper", "Denial", "are_equal", "is_called", "__name__", "is_integer", "is_within", "is_list", "is_numbers", "first_twice", "twice_at", "__name__", "RingError", "BadRing", "BadLot", "BadLineUp", "BadNumber", "Misfit", "Missing", "NoBar", "Twice", "TooLong", "TooMany", "BadText", "__name__", "want_number", "want_bar", "want_lot", "want_as_many"]
def lo53_1 : List PySem.Str := ["__name__", "sort_by", "__name__", "MOST_DIGITS", "items_of", "integer_of", "item_at", "number_at", "__name__", "LEAST_BARS", "MOST_BARS", "MOST_LENGTH", "Ring", "are_lengths", "has_level", "read_ring", "want_ring", "__name__", "lots_of", "level_lots", "too_long", "in_order", "lots_by_sort", "want_closed", "__name__", "LineUp", "are_strands", "is_strand", "as_strand", "lineup_items", "item_of", "read_lineup"]
def lo53_2 : List PySem.Str := ["pairs_next", "__name__", "Nets", "TooGreat", "Most", "can_line", "most_on_one", "nets_of", "too_great", "is_had", "first_signs", "choices", "with_sign", "want_lineup", "want_lined", "__name__", "shows_most", "most_sizes", "__name__", "_law_bench", "_law_draw", "_law_pick", "_law_lengths", "_law_is_had", "_law_lots", "_law_rows", "_law_wide", "_law_is_level", "_law_most_right", "_law_heard"]
def lo53 : List PySem.Str := lo53_0 ++ lo53_1 ++ lo53_2
abbrev rr53 : OpenRow := OpenLaw.row PySem.Challenge.rw_ringbars_k53_most_bars_on_one_line
abbrev qv53 : Program := view rr53.prog [94]
def topD (p : Program) (i : Nat) : DefRec := match p.main.body[i]? with
  | some (.FunctionDef n a b _ _ _ sc _ _ pos) => ⟨n, a, b, sc, pos⟩
  | _ => ⟨"law", ⟨[], [], none, [], [], none, []⟩, [], ⟨.function, [], false, false, []⟩, default⟩
abbrev d53 : DefRec := topD rr53.prog 94
theorem d53_name : d53.name = ("law" : PySem.Str) := by kernel_rfl
theorem seen53 (w : World) (os : OsState) : (endF (stepQ (denQ tabQ) rr53.prog w) 14736 rr53.prog w os).map (fun s => seenQ qv53 lo53 (importedModules rr53.prog.main.body) (fun s => xlAt qv53 [] s && recOk (RowW.records rr53.toRowW) s) s.abs) = some (openGood qv53 lo53) := by kernel_rfl
theorem looks53 (w : World) (os : OsState) : (endF (stepQ (denQ tabQ) rr53.prog w) 14736 rr53.prog w os).map (fun s => looksF rr53.prog (boot_heap w.params) s.abs) = some true := by kernel_rfl
theorem map3 {α β γ δ : Type} {o : Option α} {A : α → β} {B : α → γ} {C : α → δ} {a : β} {b : γ} {c : δ} (h1 : o.map A = some a) (h2 : o.map B = some b) (h3 : o.map C = some c) : o.map (fun s => (A s, B s, C s)) = some (a, b, c) := by
  cases o with
  | none => cases h1
  | some x =>
    cases h1
    cases h2
    cases h3
    rfl
section
variable {Kf : Params → Frag} {as ts : List Addr}
theorem left53 (e : ∀ P, as ++ ts = (Kf P ++ tabF ts).map (·.1)) (ob : ∀ (w : World) (os : OsState), (endF (stepQ (denQ tabQ) rr53.prog w) 14736 rr53.prog w os).map (fun s => (as ++ ts).map (getT s)) = some ((Kf w.params ++ tabF ts).map fun x => some x.2)) :
    LeftO rr53.prog qv53 lo53 (fun s => xlAt qv53 [] s && recOk (RowW.records rr53.toRowW) s) (Hook.obs (kHook (fun P => Kf P ++ tabF ts) (as ++ ts) e)) (Hook.val (kHook (fun P => Kf P ++ tabF ts) (as ++ ts) e)) 15436 true :=
  left_oneK (M := 14736) (by kernel_rfl) (by rfl) (fun s => by kernel_rfl) (by rfl) fun w os => map3 (looks53 w os) (seen53 w os) (ob w os)
theorem head53 (e : ∀ P, as ++ ts = (Kf P ++ tabF ts).map (·.1)) (ob : ∀ (w : World) (os : OsState), (endF (stepQ (denQ tabQ) rr53.prog w) 14736 rr53.prog w os).map (fun s => (as ++ ts).map (getT s)) = some ((Kf w.params ++ tabF ts).map fun x => some x.2))
    (hw : rr53.toRowW.promised) (call : WalkO qv53 lo53 (XL qv53 []) (Hook.says (kHook (fun P => Kf P ++ tabF ts) (as ++ ts) e)) rr53.toRowW d53 [] fun f vs => PySem.call f vs) : rr53.Holds :=
  holds_open (r := rr53) (q := qv53) (loose := lo53) (XP := XL qv53 []) (YP := Hook.says (kHook (fun P => Kf P ++ tabF ts) (as ++ ts) e)) (d := d53) (kwd := []) (left53 e ob) (Hook.of _) (Hook.keeps _) (fun s z => xl_of s (Bool.and_eq_true_iff.mp z).1) XL.keeps (by kernel_rfl) (by kernel_rfl) (by kernel_rfl) (fun s z => recFacts_of (Bool.and_eq_true_iff.mp z).2) (by kernel_rfl) (by first | assumption | decide +kernel) (by decide +kernel) ⟨rfl, rfl, rfl, rfl, rfl, by decide +kernel⟩ hw call
end
end K
namespace K
open PySem L2 Rg LamX
theorem kb_one {K : PySem.W.Frag} {fd : FuncData} (h : ∀ (b : Value) (s : Shared), BindsTo s fd ⟨[], [("ring", b)]⟩ [("ring", b)]) : KBinds K fd ["ring"] ["ring"] gK1 gK1 := by
  refine ⟨fun s us ws _ hl => ?_, fun {vs us zs ws} r1 r2 => ?_⟩
  · match us, ws, hl with
    | [], [b], _ => exact h b s
  · cases r1 with
    | nil =>
      cases r2 with
      | nil => exact .nil
      | cons y t2 =>
        cases t2 with
        | nil => exact .cons y .nil
        | cons _ _ => exact .nil
    | cons _ _ => exact .nil
theorem kb_vr {K : PySem.W.Frag} {fd : FuncData} (h : ∀ (a b : Value) (s : Shared), BindsTo s fd ⟨[], [("value", a), ("ring", b)]⟩ [("ring", b), ("value", a)]) : KBinds K fd ["ring", "value"] ["value", "ring"] gK2 gK2 := by
  refine ⟨fun s us ws _ hl => ?_, fun {vs us zs ws} r1 r2 => ?_⟩
  · match us, ws, hl with
    | [], [a, b], _ => exact h a b s
  · cases r1 with
    | nil =>
      cases r2 with
      | nil => exact .nil
      | cons x t =>
        cases t with
        | nil => exact .nil
        | cons y t2 =>
          cases t2 with
          | nil => exact .cons y (.cons x .nil)
          | cons _ _ => exact .nil
    | cons _ _ => exact .nil
theorem kbn_two {K : PySem.W.Frag} {fd : FuncData} (h : ∀ (a b : Value) (s : Shared), BindsTo s fd ⟨[a], [("lineup", b)]⟩ [("self", a), ("lineup", b)]) : KBn K fd ["self", "lineup"] 1 ["lineup"] gM2 gM2 := by
  refine ⟨fun s us ws _ h1 h2 => ?_, fun {vs us zs ws} r1 r2 => ?_⟩
  · match us, ws, h1, h2 with
    | [a], [b], _, _ => exact h a b s
  · cases r1 with
    | nil => cases r2 <;> exact .nil
    | cons x t =>
      cases t with
      | nil =>
        cases r2 with
        | nil => exact .nil
        | cons y t2 =>
          cases t2 with
          | nil => exact .cons x (.cons y .nil)
          | cons _ _ => exact .nil
      | cons _ _ => exact .nil
section
variable {P : Program} {w : World} {K : PySem.W.Frag} {mg : Str → Option Value} {base : Heap}
theorem scBadRing : FnScope ["self", "part"] ["self", "part"] (defScope sBadRingInit) := ⟨rfl, rfl, rfl, by decide +kernel, rfl, by decide +kernel, by decide +kernel⟩
theorem ok_badRingI {f : Addr} {fd : FuncData} (F : Fun K "__init__" "BadRing.__init__" sBadRingInit f fd) : FnOk P w K mg base CX0 1 f fd ["self", "part"] (spIni K "part") := by
  refine F.ok scBadRing (fun vs H Q E h => ?_) (fun cdv A outer s H vs Q E hr h => ?_)
  · obtain ⟨a, C, v, rfl, _⟩ := h
    rfl
  · refine ⟨_, pss_one (ps_ost (pv 0) (pv 1)), ?_⟩
    obtain ⟨a, C, v, rfl, o, n, ha, k⟩ := h
    exact ⟨_, rfl, _, rfl, a, C, rfl, o, n, .inl ⟨ha, fun d h1 h2 => k d h1 h2⟩⟩
theorem scBadLineUp : FnScope ["self", "part"] ["self", "part"] (defScope sBadLineUpInit) := ⟨rfl, rfl, rfl, by decide +kernel, rfl, by decide +kernel, by decide +kernel⟩
theorem ok_badLineUpI {f : Addr} {fd : FuncData} (F : Fun K "__init__" "BadLineUp.__init__" sBadLineUpInit f fd) : FnOk P w K mg base CX0 1 f fd ["self", "part"] (spIni K "part") := by
  refine F.ok scBadLineUp (fun vs H Q E h => ?_) (fun cdv A outer s H vs Q E hr h => ?_)
  · obtain ⟨a, C, v, rfl, _⟩ := h
    rfl
  · refine ⟨_, pss_one (ps_ost (pv 0) (pv 1)), ?_⟩
    obtain ⟨a, C, v, rfl, o, n, ha, k⟩ := h
    exact ⟨_, rfl, _, rfl, a, C, rfl, o, n, .inl ⟨ha, fun d h1 h2 => k d h1 h2⟩⟩
theorem scMisfit : FnScope ["self", "part"] ["self", "part"] (defScope sMisfitInit) := ⟨rfl, rfl, rfl, by decide +kernel, rfl, by decide +kernel, by decide +kernel⟩
theorem ok_misfitI {f : Addr} {fd : FuncData} (F : Fun K "__init__" "Misfit.__init__" sMisfitInit f fd) : FnOk P w K mg base CX0 1 f fd ["self", "part"] (spIni K "part") := by
  refine F.ok scMisfit (fun vs H Q E h => ?_) (fun cdv A outer s H vs Q E hr h => ?_)
  · obtain ⟨a, C, v, rfl, _⟩ := h
    rfl
  · refine ⟨_, pss_one (ps_ost (pv 0) (pv 1)), ?_⟩
    obtain ⟨a, C, v, rfl, o, n, ha, k⟩ := h
    exact ⟨_, rfl, _, rfl, a, C, rfl, o, n, .inl ⟨ha, fun d h1 h2 => k d h1 h2⟩⟩
theorem scPBT : FnScope ["self"] ["self"] (defScope sPaperBool) := ⟨rfl, rfl, rfl, by decide +kernel, rfl, by decide +kernel, by decide +kernel⟩
theorem ok_PBT {f : Addr} {fd : FuncData} (F : Fun K "__bool__" "Paper.__bool__" sPaperBool f fd) : FnOk P w K mg base CX0 1 f fd ["self"] (fun vs H Q _ => ∃ v, vs = [v] ∧ Q (.bl true) H) := by
  refine F.ok scPBT (fun vs H Q E h => ?_) (fun cdv A outer s H vs Q E hr h => ?_)
  · obtain ⟨v, rfl, _⟩ := h
    rfl
  · refine ⟨_, (pss_one (ps_ret pe_bl)), ?_⟩
    obtain ⟨v, rfl, q⟩ := h
    exact q
theorem scPBF : FnScope ["self"] ["self"] (defScope sDenialBool) := ⟨rfl, rfl, rfl, by decide +kernel, rfl, by decide +kernel, by decide +kernel⟩
theorem ok_PBF {f : Addr} {fd : FuncData} (F : Fun K "__bool__" "Denial.__bool__" sDenialBool f fd) : FnOk P w K mg base CX0 1 f fd ["self"] (fun vs H Q _ => ∃ v, vs = [v] ∧ Q (.bl false) H) := by
  refine F.ok scPBF (fun vs H Q E h => ?_) (fun cdv A outer s H vs Q E hr h => ?_)
  · obtain ⟨v, rfl, _⟩ := h
    rfl
  · refine ⟨_, (pss_one (ps_ret pe_bl)), ?_⟩
    obtain ⟨v, rfl, q⟩ := h
    exact q
end
theorem code_hd {K : PySem.W.Frag} {c P : Addr} {o : Obj} (l : K.lookup c = some o) (h : PySem.W.codeHdIn [(c, o)] c P = true) : PySem.W.codeHdIn K c P = true := by
  have e : List.lookup c [(c, o)] = some o := by simp [List.lookup]
  unfold PySem.W.codeHdIn at h ⊢
  rw [e] at h
  rw [l]
  exact h
theorem lookup_out {K : PySem.W.Frag} {P : Addr} : ∀ {as : List Addr}, as = K.map (·.1) → P ∉ as → K.lookup P = none := by
  intro as e h
  subst e
  induction K with
  | nil => rfl
  | cons x r ih =>
    obtain ⟨a, o⟩ := x
    rw [List.map_cons, List.mem_cons, not_or] at h
    have hne : (P == a) = false := by simpa using h.1
    rw [List.lookup_cons, hne]
    exact ih h.2
theorem out_of {K : Params → PySem.W.Frag} {as : List Addr} {e : ∀ P, as = (K P).map (·.1)} {ts : List Addr} {w : World} {h : Heap} (_ : (PySem.W.kmHook K as e ts).says w h) {P : Addr} (hP : P ∉ as) : (K w.params).lookup P = none := lookup_out (e w.params) hP


theorem all_mk {oM : Obj} {fileEN fileEG fileEM : Str} {l : PySem.W.OpenLaw} {w : World} {K : PySem.W.Frag} {h : Heap} {mg : Str → Option Value} {fa : Addr} (X : K.In h) (G : h.Ns mainGlobals mg) (hfa : mg "law" = some (.ref fa))
    {C CL CN CG CM eX eR eL eN eT eU eM eG f0 f1 f2 f3 f4 f5 f6 f7 f8 f9 f10 f11 f12 f13 f14 f15 f16 f17 f18 f19 f20 cIO f21 f22 f23 f24 f25 f26 f27 cMO f28 f29 f30 f31 f32 f33 f34 f35 f36 f37 f38 f39 f40 f41 f42 f43 f44 f45 f46 f47 f48 f49 cLW fm0 fm1 fm2 fm3 fm4 fm5 fm6 fm7 fm8 fm9 fm10 fm11 fm12 fm13 fm14 fm15 fm16 P0 P1 P2 Pa fPi fEN ccEN cEN fEG ccEG cEG fEM ccEM cEM : Addr} {od0 an0 od1 an1 od2 an2 od3 an3 od4 an4 od5 an5 od6 an6 od7 an7 od8 an8 od9 an9 od10 an10 od11 an11 od12 an12 od13 an13 od14 an14 od15 an15 od16 an16 od17 an17 od18 an18 od19 an19 od20 an20 od21 an21 od22 an22 od23 an23 od24 an24 od25 an25 od26 an26 od27 an27 od28 an28 od29 an29 od30 an30 od31 an31 od32 an32 od33 an33 od34 an34 od35 an35 od36 an36 od37 an37 od38 an38 od39 an39 od40 an40 od41 an41 od42 an42 od43 an43 od44 an44 od45 an45 od46 an46 od47 an47 od48 an48 od49 an49 odm0 anm0 odm1 anm1 odm2 anm2 odm3 anm3 odm4 anm4 odm5 anm5 odm6 anm6 odm7 anm7 odm8 anm8 odm9 anm9 odm10 anm10 odm11 anm11 odm12 anm12 odm13 anm13 odm14 anm14 odm15 anm15 odm16 anm16 odc1 odc2 odc3 odP anP odEN anEN cddEN kcdEN odEG anEG cddEG kcdEG odEM anEM cddEM kcdEM : Option Addr} {sl0 sl1 sl2 sl3 sl4 sl5 sl6 sl7 sl8 sl9 sl10 sl11 sl12 sl13 sl14 sl15 sl16 sl17 sl18 sl19 sl20 sl21 sl22 sl23 sl24 sl25 sl26 sl27 sl28 sl29 sl30 sl31 sl32 sl33 sl34 sl35 sl36 sl37 sl38 sl39 sl40 sl41 sl42 sl43 sl44 sl45 sl46 sl47 sl48 sl49 slm0 slm1 slm2 slm3 slm4 slm5 slm6 slm7 slm8 slm9 slm10 slm11 slm12 slm13 slm14 slm15 slm16 slc1 slc2 slc3 slP slEN ccsEN kcsEN slEG ccsEG kcsEG slEM ccsEM kcsEM : Array (Option Value)} {oc0 kV0 dc0 pm0 ct0 cd0 oc1 kV1 dc1 pm1 ct1 cd1 oc2 kV2 dc2 pm2 ct2 cd2 oc3 kV3 dc3 pm3 ct3 cd3 oc4 kV4 dc4 pm4 ct4 cd4 oc5 kV5 dc5 pm5 ct5 cd5 oc6 kV6 dc6 pm6 ct6 cd6 oc7 kV7 dc7 pm7 ct7 cd7 oc8 kV8 dc8 pm8 ct8 cd8 oc9 kV9 dc9 pm9 ct9 cd9 oc10 kV10 dc10 pm10 ct10 cd10 oc11 kV11 dc11 pm11 ct11 cd11 oc12 kV12 dc12 pm12 ct12 cd12 oc13 kV13 dc13 pm13 ct13 cd13 oc14 kV14 dc14 pm14 ct14 cd14 oc15 kV15 dc15 pm15 ct15 cd15 oc16 kV16 dc16 pm16 ct16 cd16 oc17 kV17 dc17 pm17 ct17 cd17 oc18 kV18 dc18 pm18 ct18 cd18 oc19 kV19 dc19 pm19 ct19 cd19 oc20 kV20 dc20 pm20 ct20 oc21 kV21 dc21 pm21 ct21 cd21 oc22 kV22 dc22 pm22 ct22 cd22 oc23 kV23 dc23 pm23 ct23 cd23 oc24 kV24 dc24 pm24 ct24 cd24 oc25 kV25 dc25 pm25 ct25 cd25 oc26 kV26 dc26 pm26 ct26 cd26 oc27 kV27 dc27 pm27 ct27 oc28 kV28 dc28 pm28 ct28 cd28 oc29 kV29 dc29 pm29 ct29 cd29 oc30 kV30 dc30 pm30 ct30 cd30 oc31 kV31 dc31 pm31 ct31 cd31 oc32 kV32 dc32 pm32 ct32 cd32 oc33 kV33 dc33 pm33 ct33 cd33 oc34 kV34 dc34 pm34 ct34 cd34 oc35 kV35 dc35 pm35 ct35 cd35 oc36 kV36 dc36 pm36 ct36 cd36 oc37 kV37 dc37 pm37 ct37 cd37 oc38 kV38 dc38 pm38 ct38 cd38 oc39 kV39 dc39 pm39 ct39 cd39 oc40 kV40 dc40 pm40 ct40 cd40 oc41 kV41 dc41 pm41 ct41 cd41 oc42 kV42 dc42 pm42 ct42 cd42 oc43 kV43 dc43 pm43 ct43 cd43 oc44 kV44 dc44 pm44 ct44 cd44 oc45 kV45 dc45 pm45 ct45 cd45 oc46 kV46 dc46 pm46 ct46 cd46 oc47 kV47 dc47 pm47 ct47 cd47 oc48 kV48 dc48 pm48 ct48 cd48 oc49 kV49 dc49 pm49 ct49 ocm0 kVm0 dcm0 pmm0 ctm0 cdm0 ocm1 kVm1 dcm1 pmm1 ctm1 cdm1 ocm2 kVm2 dcm2 pmm2 ctm2 cdm2 ocm3 kVm3 dcm3 pmm3 ctm3 cdm3 ocm4 kVm4 dcm4 pmm4 ctm4 cdm4 ocm5 kVm5 dcm5 pmm5 ctm5 cdm5 ocm6 kVm6 dcm6 pmm6 ctm6 cdm6 ocm7 kVm7 dcm7 pmm7 ctm7 cdm7 ocm8 kVm8 dcm8 pmm8 ctm8 cdm8 ocm9 kVm9 dcm9 pmm9 ctm9 cdm9 ocm10 kVm10 dcm10 pmm10 ctm10 cdm10 ocm11 kVm11 dcm11 pmm11 ctm11 cdm11 ocm12 kVm12 dcm12 pmm12 ctm12 cdm12 ocm13 kVm13 dcm13 pmm13 ctm13 cdm13 ocm14 kVm14 dcm14 pmm14 ctm14 cdm14 ocm15 kVm15 dcm15 pmm15 ctm15 cdm15 ocm16 kVm16 dcm16 pmm16 ctm16 cdm16 ocP kVP dcP pmP cdP ctP ocEN kVEN dcEN pmEN ctEN cclEN kclEN ocEG kVEG dcEG pmEG ctEG cclEG kclEG ocEM kVEM dcEM pmEM ctEM cclEM kclEM : Value} {tkMOST_LENGTH tkLEAST_BARS tkMOST_BARS tkM tfEN tfEG tfEM : Tok} {vsc1 vsc2 vsc3 vsEN vsEG vsEM : Array Value}
    {nmeR nmeL nmeN nmeT nmeU nmeM nmeG qqeR qqeL qqeN qqeT qqeU qqeM qqeG : Str} {NeR NeL NeN NeT NeU NeM NeG : Addr} {bseR bseL bseN bseT bseU bseM bseG : List Value} {bmeR bmeL bmeN bmeT bmeU bmeM bmeG : List Value} {sneR sneL sneN sneT sneU sneM sneG : List Str} {subeR subeL subeN subeT subeU subeM subeG : List Value} {abeR abeL abeN abeT abeU abeM abeG : Bool} {coleR coleL coleN coleT coleU coleM coleG : Option Bool} {ddeR ddeL ddeN ddeT ddeU ddeM ddeG : Option Addr} {k0eR k1eR k2eR k3eR k5eR k0eL k1eL k2eL k3eL k5eL k0eN k1eN k2eN k3eN k5eN k0eT k1eT k2eT k3eT k5eT k0eU k1eU k2eU k3eU k5eU k0eM k1eM k2eM k3eM k5eM k0eG k1eG k2eG k3eG k5eG : Option Value}
    (aC : PySem.W.nsIn K mainGlobals "Ring" = some (some (.ref C)))
    (aCL : PySem.W.nsIn K mainGlobals "LineUp" = some (some (.ref CL)))
    (aCN : PySem.W.nsIn K mainGlobals "Nets" = some (some (.ref CN)))
    (aCG : PySem.W.nsIn K mainGlobals "TooGreat" = some (some (.ref CG)))
    (aCM : PySem.W.nsIn K mainGlobals "Most" = some (some (.ref CM)))
    (aeX : PySem.W.nsIn K mainGlobals "RingError" = some (some (.ref eX)))
    (aeR : PySem.W.nsIn K mainGlobals "BadRing" = some (some (.ref eR)))
    (aeL : PySem.W.nsIn K mainGlobals "BadLot" = some (some (.ref eL)))
    (aeN : PySem.W.nsIn K mainGlobals "NoBar" = some (some (.ref eN)))
    (aeT : PySem.W.nsIn K mainGlobals "Twice" = some (some (.ref eT)))
    (aeU : PySem.W.nsIn K mainGlobals "BadLineUp" = some (some (.ref eU)))
    (aeM : PySem.W.nsIn K mainGlobals "Misfit" = some (some (.ref eM)))
    (aeG : PySem.W.nsIn K mainGlobals "TooLong" = some (some (.ref eG)))
    (a0 : PySem.W.nsIn K mainGlobals "are_equal" = some (some (.ref f0)))
    (l0 : K.lookup f0 = some ⟨oc0, od0, .func (PySem.W.fnOf "are_equal" "are_equal" (defArgs sAreEqual) (defBody sAreEqual) (defScope sAreEqual) .none kV0 dc0 pm0 an0 cd0 ct0), sl0⟩)
    (c0 : PySem.W.codeIn K cd0 "are_equal" = true)
    (k0 : PySem.W.keepIn K (.ref f0) = true)
    (a1 : PySem.W.nsIn K mainGlobals "is_called" = some (some (.ref f1)))
    (l1 : K.lookup f1 = some ⟨oc1, od1, .func (PySem.W.fnOf "is_called" "is_called" (defArgs sIsCalled) (defBody sIsCalled) (defScope sIsCalled) .none kV1 dc1 pm1 an1 cd1 ct1), sl1⟩)
    (c1 : PySem.W.codeIn K cd1 "is_called" = true)
    (k1 : PySem.W.keepIn K (.ref f1) = true)
    (a2 : PySem.W.nsIn K mainGlobals "is_integer" = some (some (.ref f2)))
    (l2 : K.lookup f2 = some ⟨oc2, od2, .func (PySem.W.fnOf "is_integer" "is_integer" (defArgs sIsInteger) (defBody sIsInteger) (defScope sIsInteger) .none kV2 dc2 pm2 an2 cd2 ct2), sl2⟩)
    (c2 : PySem.W.codeIn K cd2 "is_integer" = true)
    (k2 : PySem.W.keepIn K (.ref f2) = true)
    (a3 : PySem.W.nsIn K mainGlobals "is_within" = some (some (.ref f3)))
    (l3 : K.lookup f3 = some ⟨oc3, od3, .func (PySem.W.fnOf "is_within" "is_within" (defArgs sIsWithin) (defBody sIsWithin) (defScope sIsWithin) .none kV3 dc3 pm3 an3 cd3 ct3), sl3⟩)
    (c3 : PySem.W.codeIn K cd3 "is_within" = true)
    (k3 : PySem.W.keepIn K (.ref f3) = true)
    (a4 : PySem.W.nsIn K mainGlobals "is_list" = some (some (.ref f4)))
    (l4 : K.lookup f4 = some ⟨oc4, od4, .func (PySem.W.fnOf "is_list" "is_list" (defArgs sIsList) (defBody sIsList) (defScope sIsList) .none kV4 dc4 pm4 an4 cd4 ct4), sl4⟩)
    (c4 : PySem.W.codeIn K cd4 "is_list" = true)
    (k4 : PySem.W.keepIn K (.ref f4) = true)
    (a5 : PySem.W.nsIn K mainGlobals "is_numbers" = some (some (.ref f5)))
    (l5 : K.lookup f5 = some ⟨oc5, od5, .func (PySem.W.fnOf "is_numbers" "is_numbers" (defArgs sIsNumbers) (defBody sIsNumbers) (defScope sIsNumbers) .none kV5 dc5 pm5 an5 cd5 ct5), sl5⟩)
    (c5 : PySem.W.codeIn K cd5 "is_numbers" = true)
    (k5 : PySem.W.keepIn K (.ref f5) = true)
    (a6 : PySem.W.nsIn K mainGlobals "fixed" = some (some (.ref f6)))
    (l6 : K.lookup f6 = some ⟨oc6, od6, .func (PySem.W.fnOf "fixed" "fixed" (defArgs sFixed) (defBody sFixed) (defScope sFixed) .none kV6 dc6 pm6 an6 cd6 ct6), sl6⟩)
    (c6 : PySem.W.codeIn K cd6 "fixed" = true)
    (k6 : PySem.W.keepIn K (.ref f6) = true)
    (a7 : PySem.W.nsIn K mainGlobals "first_twice" = some (some (.ref f7)))
    (l7 : K.lookup f7 = some ⟨oc7, od7, .func (PySem.W.fnOf "first_twice" "first_twice" (defArgs sFirstTwice) (defBody sFirstTwice) (defScope sFirstTwice) .none kV7 dc7 pm7 an7 cd7 ct7), sl7⟩)
    (c7 : PySem.W.codeIn K cd7 "first_twice" = true)
    (k7 : PySem.W.keepIn K (.ref f7) = true)
    (a8 : PySem.W.nsIn K mainGlobals "twice_at" = some (some (.ref f8)))
    (l8 : K.lookup f8 = some ⟨oc8, od8, .func (PySem.W.fnOf "twice_at" "twice_at" (defArgs sTwiceAt) (defBody sTwiceAt) (defScope sTwiceAt) .none kV8 dc8 pm8 an8 cd8 ct8), sl8⟩)
    (c8 : PySem.W.codeIn K cd8 "twice_at" = true)
    (k8 : PySem.W.keepIn K (.ref f8) = true)
    (a9 : PySem.W.nsIn K mainGlobals "want_number" = some (some (.ref f9)))
    (l9 : K.lookup f9 = some ⟨oc9, od9, .func (PySem.W.fnOf "want_number" "want_number" (defArgs sWantNumber) (defBody sWantNumber) (defScope sWantNumber) .none kV9 dc9 pm9 an9 cd9 ct9), sl9⟩)
    (c9 : PySem.W.codeIn K cd9 "want_number" = true)
    (k9 : PySem.W.keepIn K (.ref f9) = true)
    (a10 : PySem.W.nsIn K mainGlobals "want_bar" = some (some (.ref f10)))
    (l10 : K.lookup f10 = some ⟨oc10, od10, .func (PySem.W.fnOf "want_bar" "want_bar" (defArgs sWantBar) (defBody sWantBar) (defScope sWantBar) .none kV10 dc10 pm10 an10 cd10 ct10), sl10⟩)
    (c10 : PySem.W.codeIn K cd10 "want_bar" = true)
    (k10 : PySem.W.keepIn K (.ref f10) = true)
    (a11 : PySem.W.nsIn K mainGlobals "want_lot" = some (some (.ref f11)))
    (l11 : K.lookup f11 = some ⟨oc11, od11, .func (PySem.W.fnOf "want_lot" "want_lot" (defArgs sWantLot) (defBody sWantLot) (defScope sWantLot) .none kV11 dc11 pm11 an11 cd11 ct11), sl11⟩)
    (c11 : PySem.W.codeIn K cd11 "want_lot" = true)
    (k11 : PySem.W.keepIn K (.ref f11) = true)
    (a12 : PySem.W.nsIn K mainGlobals "want_as_many" = some (some (.ref f12)))
    (l12 : K.lookup f12 = some ⟨oc12, od12, .func (PySem.W.fnOf "want_as_many" "want_as_many" (defArgs sWantAsMany) (defBody sWantAsMany) (defScope sWantAsMany) .none kV12 dc12 pm12 an12 cd12 ct12), sl12⟩)
    (c12 : PySem.W.codeIn K cd12 "want_as_many" = true)
    (k12 : PySem.W.keepIn K (.ref f12) = true)
    (a13 : PySem.W.nsIn K mainGlobals "sort_by" = some (some (.ref f13)))
    (l13 : K.lookup f13 = some ⟨oc13, od13, .func (PySem.W.fnOf "sort_by" "sort_by" (defArgs sSortBy) (defBody sSortBy) (defScope sSortBy) .none kV13 dc13 pm13 an13 cd13 ct13), sl13⟩)
    (c13 : PySem.W.codeIn K cd13 "sort_by" = true)
    (k13 : PySem.W.keepIn K (.ref f13) = true)
    (a14 : PySem.W.nsIn K mainGlobals "are_lengths" = some (some (.ref f14)))
    (l14 : K.lookup f14 = some ⟨oc14, od14, .func (PySem.W.fnOf "are_lengths" "are_lengths" (defArgs sAreLengths) (defBody sAreLengths) (defScope sAreLengths) .none kV14 dc14 pm14 an14 cd14 ct14), sl14⟩)
    (c14 : PySem.W.codeIn K cd14 "are_lengths" = true)
    (k14 : PySem.W.keepIn K (.ref f14) = true)
    (a15 : PySem.W.nsIn K mainGlobals "has_level" = some (some (.ref f15)))
    (l15 : K.lookup f15 = some ⟨oc15, od15, .func (PySem.W.fnOf "has_level" "has_level" (defArgs sHasLevel) (defBody sHasLevel) (defScope sHasLevel) .none kV15 dc15 pm15 an15 cd15 ct15), sl15⟩)
    (c15 : PySem.W.codeIn K cd15 "has_level" = true)
    (k15 : PySem.W.keepIn K (.ref f15) = true)
    (a16 : PySem.W.nsIn K mainGlobals "want_ring" = some (some (.ref f16)))
    (l16 : K.lookup f16 = some ⟨oc16, od16, .func (PySem.W.fnOf "want_ring" "want_ring" (defArgs sWantRing) (defBody sWantRing) (defScope sWantRing) .none kV16 dc16 pm16 an16 cd16 ct16), sl16⟩)
    (c16 : PySem.W.codeIn K cd16 "want_ring" = true)
    (k16 : PySem.W.keepIn K (.ref f16) = true)
    (a17 : PySem.W.nsIn K mainGlobals "lots_of" = some (some (.ref f17)))
    (l17 : K.lookup f17 = some ⟨oc17, od17, .func (PySem.W.fnOf "lots_of" "lots_of" (defArgs sLotsOf) (defBody sLotsOf) (defScope sLotsOf) .none kV17 dc17 pm17 an17 cd17 ct17), sl17⟩)
    (c17 : PySem.W.codeIn K cd17 "lots_of" = true)
    (k17 : PySem.W.keepIn K (.ref f17) = true)
    (a18 : PySem.W.nsIn K mainGlobals "level_lots" = some (some (.ref f18)))
    (l18 : K.lookup f18 = some ⟨oc18, od18, .func (PySem.W.fnOf "level_lots" "level_lots" (defArgs sLevelLots) (defBody sLevelLots) (defScope sLevelLots) .none kV18 dc18 pm18 an18 cd18 ct18), sl18⟩)
    (c18 : PySem.W.codeIn K cd18 "level_lots" = true)
    (k18 : PySem.W.keepIn K (.ref f18) = true)
    (a19 : PySem.W.nsIn K mainGlobals "too_long" = some (some (.ref f19)))
    (l19 : K.lookup f19 = some ⟨oc19, od19, .func (PySem.W.fnOf "too_long" "too_long" (defArgs sTooLong) (defBody sTooLong) (defScope sTooLong) .none kV19 dc19 pm19 an19 cd19 ct19), sl19⟩)
    (c19 : PySem.W.codeIn K cd19 "too_long" = true)
    (k19 : PySem.W.keepIn K (.ref f19) = true)
    (a20 : PySem.W.nsIn K mainGlobals "in_order" = some (some (.ref f20)))
    (l20 : K.lookup f20 = some ⟨oc20, od20, .func (PySem.W.fnOf "in_order" "in_order" (defArgs sInOrder) (defBody sInOrder) (defScope sInOrder) .none kV20 dc20 pm20 an20 (.ref cIO) ct20), sl20⟩)
    (c20 : PySem.W.codeIn K (.ref cIO) "in_order" = true)
    (k20 : PySem.W.keepIn K (.ref f20) = true)
    (a21 : PySem.W.nsIn K mainGlobals "lots_by_sort" = some (some (.ref f21)))
    (l21 : K.lookup f21 = some ⟨oc21, od21, .func (PySem.W.fnOf "lots_by_sort" "lots_by_sort" (defArgs sLotsBySort) (defBody sLotsBySort) (defScope sLotsBySort) .none kV21 dc21 pm21 an21 cd21 ct21), sl21⟩)
    (c21 : PySem.W.codeIn K cd21 "lots_by_sort" = true)
    (k21 : PySem.W.keepIn K (.ref f21) = true)
    (a22 : PySem.W.nsIn K mainGlobals "want_closed" = some (some (.ref f22)))
    (l22 : K.lookup f22 = some ⟨oc22, od22, .func (PySem.W.fnOf "want_closed" "want_closed" (defArgs sWantClosed) (defBody sWantClosed) (defScope sWantClosed) .none kV22 dc22 pm22 an22 cd22 ct22), sl22⟩)
    (c22 : PySem.W.codeIn K cd22 "want_closed" = true)
    (k22 : PySem.W.keepIn K (.ref f22) = true)
    (a23 : PySem.W.nsIn K mainGlobals "are_strands" = some (some (.ref f23)))
    (l23 : K.lookup f23 = some ⟨oc23, od23, .func (PySem.W.fnOf "are_strands" "are_strands" (defArgs sAreStrands) (defBody sAreStrands) (defScope sAreStrands) .none kV23 dc23 pm23 an23 cd23 ct23), sl23⟩)
    (c23 : PySem.W.codeIn K cd23 "are_strands" = true)
    (k23 : PySem.W.keepIn K (.ref f23) = true)
    (a24 : PySem.W.nsIn K mainGlobals "is_strand" = some (some (.ref f24)))
    (l24 : K.lookup f24 = some ⟨oc24, od24, .func (PySem.W.fnOf "is_strand" "is_strand" (defArgs sIsStrand) (defBody sIsStrand) (defScope sIsStrand) .none kV24 dc24 pm24 an24 cd24 ct24), sl24⟩)
    (c24 : PySem.W.codeIn K cd24 "is_strand" = true)
    (k24 : PySem.W.keepIn K (.ref f24) = true)
    (a25 : PySem.W.nsIn K mainGlobals "as_strand" = some (some (.ref f25)))
    (l25 : K.lookup f25 = some ⟨oc25, od25, .func (PySem.W.fnOf "as_strand" "as_strand" (defArgs sAsStrand) (defBody sAsStrand) (defScope sAsStrand) .none kV25 dc25 pm25 an25 cd25 ct25), sl25⟩)
    (c25 : PySem.W.codeIn K cd25 "as_strand" = true)
    (k25 : PySem.W.keepIn K (.ref f25) = true)
    (a26 : PySem.W.nsIn K mainGlobals "can_line" = some (some (.ref f26)))
    (l26 : K.lookup f26 = some ⟨oc26, od26, .func (PySem.W.fnOf "can_line" "can_line" (defArgs sCanLine) (defBody sCanLine) (defScope sCanLine) .none kV26 dc26 pm26 an26 cd26 ct26), sl26⟩)
    (c26 : PySem.W.codeIn K cd26 "can_line" = true)
    (k26 : PySem.W.keepIn K (.ref f26) = true)
    (a27 : PySem.W.nsIn K mainGlobals "most_on_one" = some (some (.ref f27)))
    (l27 : K.lookup f27 = some ⟨oc27, od27, .func (PySem.W.fnOf "most_on_one" "most_on_one" (defArgs sMostOnOne) (defBody sMostOnOne) (defScope sMostOnOne) .none kV27 dc27 pm27 an27 (.ref cMO) ct27), sl27⟩)
    (c27 : PySem.W.codeIn K (.ref cMO) "most_on_one" = true)
    (k27 : PySem.W.keepIn K (.ref f27) = true)
    (a28 : PySem.W.nsIn K mainGlobals "nets_of" = some (some (.ref f28)))
    (l28 : K.lookup f28 = some ⟨oc28, od28, .func (PySem.W.fnOf "nets_of" "nets_of" (defArgs sNetsOf) (defBody sNetsOf) (defScope sNetsOf) .none kV28 dc28 pm28 an28 cd28 ct28), sl28⟩)
    (c28 : PySem.W.codeIn K cd28 "nets_of" = true)
    (k28 : PySem.W.keepIn K (.ref f28) = true)
    (a29 : PySem.W.nsIn K mainGlobals "too_great" = some (some (.ref f29)))
    (l29 : K.lookup f29 = some ⟨oc29, od29, .func (PySem.W.fnOf "too_great" "too_great" (defArgs sTooGreat) (defBody sTooGreat) (defScope sTooGreat) .none kV29 dc29 pm29 an29 cd29 ct29), sl29⟩)
    (c29 : PySem.W.codeIn K cd29 "too_great" = true)
    (k29 : PySem.W.keepIn K (.ref f29) = true)
    (a30 : PySem.W.nsIn K mainGlobals "is_had" = some (some (.ref f30)))
    (l30 : K.lookup f30 = some ⟨oc30, od30, .func (PySem.W.fnOf "is_had" "is_had" (defArgs sIsHad) (defBody sIsHad) (defScope sIsHad) .none kV30 dc30 pm30 an30 cd30 ct30), sl30⟩)
    (c30 : PySem.W.codeIn K cd30 "is_had" = true)
    (k30 : PySem.W.keepIn K (.ref f30) = true)
    (a31 : PySem.W.nsIn K mainGlobals "first_signs" = some (some (.ref f31)))
    (l31 : K.lookup f31 = some ⟨oc31, od31, .func (PySem.W.fnOf "first_signs" "first_signs" (defArgs sFirstSigns) (defBody sFirstSigns) (defScope sFirstSigns) .none kV31 dc31 pm31 an31 cd31 ct31), sl31⟩)
    (c31 : PySem.W.codeIn K cd31 "first_signs" = true)
    (k31 : PySem.W.keepIn K (.ref f31) = true)
    (a32 : PySem.W.nsIn K mainGlobals "choices" = some (some (.ref f32)))
    (l32 : K.lookup f32 = some ⟨oc32, od32, .func (PySem.W.fnOf "choices" "choices" (defArgs sChoices) (defBody sChoices) (defScope sChoices) .none kV32 dc32 pm32 an32 cd32 ct32), sl32⟩)
    (c32 : PySem.W.codeIn K cd32 "choices" = true)
    (k32 : PySem.W.keepIn K (.ref f32) = true)
    (a33 : PySem.W.nsIn K mainGlobals "with_sign" = some (some (.ref f33)))
    (l33 : K.lookup f33 = some ⟨oc33, od33, .func (PySem.W.fnOf "with_sign" "with_sign" (defArgs sWithSign) (defBody sWithSign) (defScope sWithSign) .none kV33 dc33 pm33 an33 cd33 ct33), sl33⟩)
    (c33 : PySem.W.codeIn K cd33 "with_sign" = true)
    (k33 : PySem.W.keepIn K (.ref f33) = true)
    (a34 : PySem.W.nsIn K mainGlobals "want_lineup" = some (some (.ref f34)))
    (l34 : K.lookup f34 = some ⟨oc34, od34, .func (PySem.W.fnOf "want_lineup" "want_lineup" (defArgs sWantLineup) (defBody sWantLineup) (defScope sWantLineup) .none kV34 dc34 pm34 an34 cd34 ct34), sl34⟩)
    (c34 : PySem.W.codeIn K cd34 "want_lineup" = true)
    (k34 : PySem.W.keepIn K (.ref f34) = true)
    (a35 : PySem.W.nsIn K mainGlobals "want_lined" = some (some (.ref f35)))
    (l35 : K.lookup f35 = some ⟨oc35, od35, .func (PySem.W.fnOf "want_lined" "want_lined" (defArgs sWantLined) (defBody sWantLined) (defScope sWantLined) .none kV35 dc35 pm35 an35 cd35 ct35), sl35⟩)
    (c35 : PySem.W.codeIn K cd35 "want_lined" = true)
    (k35 : PySem.W.keepIn K (.ref f35) = true)
    (a36 : PySem.W.nsIn K mainGlobals "shows_most" = some (some (.ref f36)))
    (l36 : K.lookup f36 = some ⟨oc36, od36, .func (PySem.W.fnOf "shows_most" "shows_most" (defArgs sShowsMost) (defBody sShowsMost) (defScope sShowsMost) .none kV36 dc36 pm36 an36 cd36 ct36), sl36⟩)
    (c36 : PySem.W.codeIn K cd36 "shows_most" = true)
    (k36 : PySem.W.keepIn K (.ref f36) = true)
    (a37 : PySem.W.nsIn K mainGlobals "most_sizes" = some (some (.ref f37)))
    (l37 : K.lookup f37 = some ⟨oc37, od37, .func (PySem.W.fnOf "most_sizes" "most_sizes" (defArgs sMostSizes) (defBody sMostSizes) (defScope sMostSizes) .none kV37 dc37 pm37 an37 cd37 ct37), sl37⟩)
    (c37 : PySem.W.codeIn K cd37 "most_sizes" = true)
    (k37 : PySem.W.keepIn K (.ref f37) = true)
    (a38 : PySem.W.nsIn K mainGlobals "_law_bench" = some (some (.ref f38)))
    (l38 : K.lookup f38 = some ⟨oc38, od38, .func (PySem.W.fnOf "_law_bench" "_law_bench" (defArgs sLwBench) (defBody sLwBench) (defScope sLwBench) .none kV38 dc38 pm38 an38 cd38 ct38), sl38⟩)
    (c38 : PySem.W.codeIn K cd38 "_law_bench" = true)
    (k38 : PySem.W.keepIn K (.ref f38) = true)
    (a39 : PySem.W.nsIn K mainGlobals "_law_draw" = some (some (.ref f39)))
    (l39 : K.lookup f39 = some ⟨oc39, od39, .func (PySem.W.fnOf "_law_draw" "_law_draw" (defArgs sLwDraw) (defBody sLwDraw) (defScope sLwDraw) .none kV39 dc39 pm39 an39 cd39 ct39), sl39⟩)
    (c39 : PySem.W.codeIn K cd39 "_law_draw" = true)
    (k39 : PySem.W.keepIn K (.ref f39) = true)
    (a40 : PySem.W.nsIn K mainGlobals "_law_pick" = some (some (.ref f40)))
    (l40 : K.lookup f40 = some ⟨oc40, od40, .func (PySem.W.fnOf "_law_pick" "_law_pick" (defArgs sLwPick) (defBody sLwPick) (defScope sLwPick) .none kV40 dc40 pm40 an40 cd40 ct40), sl40⟩)
    (c40 : PySem.W.codeIn K cd40 "_law_pick" = true)
    (k40 : PySem.W.keepIn K (.ref f40) = true)
    (a41 : PySem.W.nsIn K mainGlobals "_law_lengths" = some (some (.ref f41)))
    (l41 : K.lookup f41 = some ⟨oc41, od41, .func (PySem.W.fnOf "_law_lengths" "_law_lengths" (defArgs sLwLengths) (defBody sLwLengths) (defScope sLwLengths) .none kV41 dc41 pm41 an41 cd41 ct41), sl41⟩)
    (c41 : PySem.W.codeIn K cd41 "_law_lengths" = true)
    (k41 : PySem.W.keepIn K (.ref f41) = true)
    (a42 : PySem.W.nsIn K mainGlobals "_law_is_had" = some (some (.ref f42)))
    (l42 : K.lookup f42 = some ⟨oc42, od42, .func (PySem.W.fnOf "_law_is_had" "_law_is_had" (defArgs sLwIsHad) (defBody sLwIsHad) (defScope sLwIsHad) .none kV42 dc42 pm42 an42 cd42 ct42), sl42⟩)
    (c42 : PySem.W.codeIn K cd42 "_law_is_had" = true)
    (k42 : PySem.W.keepIn K (.ref f42) = true)
    (a43 : PySem.W.nsIn K mainGlobals "_law_lots" = some (some (.ref f43)))
    (l43 : K.lookup f43 = some ⟨oc43, od43, .func (PySem.W.fnOf "_law_lots" "_law_lots" (defArgs sLwLots) (defBody sLwLots) (defScope sLwLots) .none kV43 dc43 pm43 an43 cd43 ct43), sl43⟩)
    (c43 : PySem.W.codeIn K cd43 "_law_lots" = true)
    (k43 : PySem.W.keepIn K (.ref f43) = true)
    (a44 : PySem.W.nsIn K mainGlobals "_law_rows" = some (some (.ref f44)))
    (l44 : K.lookup f44 = some ⟨oc44, od44, .func (PySem.W.fnOf "_law_rows" "_law_rows" (defArgs sLwRows) (defBody sLwRows) (defScope sLwRows) .none kV44 dc44 pm44 an44 cd44 ct44), sl44⟩)
    (c44 : PySem.W.codeIn K cd44 "_law_rows" = true)
    (k44 : PySem.W.keepIn K (.ref f44) = true)
    (a45 : PySem.W.nsIn K mainGlobals "_law_wide" = some (some (.ref f45)))
    (l45 : K.lookup f45 = some ⟨oc45, od45, .func (PySem.W.fnOf "_law_wide" "_law_wide" (defArgs sLwWide) (defBody sLwWide) (defScope sLwWide) .none kV45 dc45 pm45 an45 cd45 ct45), sl45⟩)
    (c45 : PySem.W.codeIn K cd45 "_law_wide" = true)
    (k45 : PySem.W.keepIn K (.ref f45) = true)
    (a46 : PySem.W.nsIn K mainGlobals "_law_is_level" = some (some (.ref f46)))
    (l46 : K.lookup f46 = some ⟨oc46, od46, .func (PySem.W.fnOf "_law_is_level" "_law_is_level" (defArgs sLwIsLevel) (defBody sLwIsLevel) (defScope sLwIsLevel) .none kV46 dc46 pm46 an46 cd46 ct46), sl46⟩)
    (c46 : PySem.W.codeIn K cd46 "_law_is_level" = true)
    (k46 : PySem.W.keepIn K (.ref f46) = true)
    (a47 : PySem.W.nsIn K mainGlobals "_law_most_right" = some (some (.ref f47)))
    (l47 : K.lookup f47 = some ⟨oc47, od47, .func (PySem.W.fnOf "_law_most_right" "_law_most_right" (defArgs sLwMostRight) (defBody sLwMostRight) (defScope sLwMostRight) .none kV47 dc47 pm47 an47 cd47 ct47), sl47⟩)
    (c47 : PySem.W.codeIn K cd47 "_law_most_right" = true)
    (k47 : PySem.W.keepIn K (.ref f47) = true)
    (a48 : PySem.W.nsIn K mainGlobals "_law_heard" = some (some (.ref f48)))
    (l48 : K.lookup f48 = some ⟨oc48, od48, .func (PySem.W.fnOf "_law_heard" "_law_heard" (defArgs sLwHeard) (defBody sLwHeard) (defScope sLwHeard) .none kV48 dc48 pm48 an48 cd48 ct48), sl48⟩)
    (c48 : PySem.W.codeIn K cd48 "_law_heard" = true)
    (k48 : PySem.W.keepIn K (.ref f48) = true)
    (a49 : PySem.W.nsIn K mainGlobals "law" = some (some (.ref f49)))
    (l49 : K.lookup f49 = some ⟨oc49, od49, .func (PySem.W.fnOf "law" "law" (defArgs sLaw) (defBody sLaw) (defScope sLaw) .none kV49 dc49 pm49 an49 (.ref cLW) ct49), sl49⟩)
    (c49 : PySem.W.codeIn K (.ref cLW) "law" = true)
    (k49 : PySem.W.keepIn K (.ref f49) = true)
    (am0 : PySem.W.findIn K (.ref C) "__init__" = some (some (.ref fm0)))
    (im0 : PySem.W.isFn K (.ref fm0) = true)
    (lm0 : K.lookup fm0 = some ⟨ocm0, odm0, .func (PySem.W.fnOf "__init__" "Ring.__init__" (defArgs sRingInit) (defBody sRingInit) (defScope sRingInit) .none kVm0 dcm0 pmm0 anm0 cdm0 ctm0), slm0⟩)
    (cm0 : PySem.W.codeIn K cdm0 "Ring.__init__" = true)
    (km0 : PySem.W.keepIn K (.ref fm0) = true)
    (am1 : PySem.W.findIn K (.ref C) "__len__" = some (some (.ref fm1)))
    (im1 : PySem.W.isFn K (.ref fm1) = true)
    (lm1 : K.lookup fm1 = some ⟨ocm1, odm1, .func (PySem.W.fnOf "__len__" "Ring.__len__" (defArgs sRingLen) (defBody sRingLen) (defScope sRingLen) .none kVm1 dcm1 pmm1 anm1 cdm1 ctm1), slm1⟩)
    (cm1 : PySem.W.codeIn K cdm1 "Ring.__len__" = true)
    (km1 : PySem.W.keepIn K (.ref fm1) = true)
    (am2 : PySem.W.findIn K (.ref C) "length_of" = some (some (.ref fm2)))
    (im2 : PySem.W.isFn K (.ref fm2) = true)
    (lm2 : K.lookup fm2 = some ⟨ocm2, odm2, .func (PySem.W.fnOf "length_of" "Ring.length_of" (defArgs sRingLengthOf) (defBody sRingLengthOf) (defScope sRingLengthOf) .none kVm2 dcm2 pmm2 anm2 cdm2 ctm2), slm2⟩)
    (cm2 : PySem.W.codeIn K cdm2 "Ring.length_of" = true)
    (km2 : PySem.W.keepIn K (.ref fm2) = true)
    (am3 : PySem.W.findIn K (.ref C) "sort_of" = some (some (.ref fm3)))
    (im3 : PySem.W.isFn K (.ref fm3) = true)
    (lm3 : K.lookup fm3 = some ⟨ocm3, odm3, .func (PySem.W.fnOf "sort_of" "Ring.sort_of" (defArgs sRingSortOf) (defBody sRingSortOf) (defScope sRingSortOf) .none kVm3 dcm3 pmm3 anm3 cdm3 ctm3), slm3⟩)
    (cm3 : PySem.W.codeIn K cdm3 "Ring.sort_of" = true)
    (km3 : PySem.W.keepIn K (.ref fm3) = true)
    (am4 : PySem.W.findIn K (.ref CL) "__init__" = some (some (.ref fm4)))
    (im4 : PySem.W.isFn K (.ref fm4) = true)
    (lm4 : K.lookup fm4 = some ⟨ocm4, odm4, .func (PySem.W.fnOf "__init__" "LineUp.__init__" (defArgs sLineUpInit) (defBody sLineUpInit) (defScope sLineUpInit) .none kVm4 dcm4 pmm4 anm4 cdm4 ctm4), slm4⟩)
    (cm4 : PySem.W.codeIn K cdm4 "LineUp.__init__" = true)
    (km4 : PySem.W.keepIn K (.ref fm4) = true)
    (am5 : PySem.W.findIn K (.ref eR) "__init__" = some (some (.ref fm5)))
    (im5 : PySem.W.isFn K (.ref fm5) = true)
    (lm5 : K.lookup fm5 = some ⟨ocm5, odm5, .func (PySem.W.fnOf "__init__" "BadRing.__init__" (defArgs sBadRingInit) (defBody sBadRingInit) (defScope sBadRingInit) .none kVm5 dcm5 pmm5 anm5 cdm5 ctm5), slm5⟩)
    (cm5 : PySem.W.codeIn K cdm5 "BadRing.__init__" = true)
    (km5 : PySem.W.keepIn K (.ref fm5) = true)
    (tim5 : PySem.W.typeIn K (.ref fm5) = some (.type "function"))
    (am6 : PySem.W.findIn K (.ref eL) "__init__" = some (some (.ref fm6)))
    (im6 : PySem.W.isFn K (.ref fm6) = true)
    (lm6 : K.lookup fm6 = some ⟨ocm6, odm6, .func (PySem.W.fnOf "__init__" "BadLot.__init__" (defArgs sBadLotInit) (defBody sBadLotInit) (defScope sBadLotInit) .none kVm6 dcm6 pmm6 anm6 cdm6 ctm6), slm6⟩)
    (cm6 : PySem.W.codeIn K cdm6 "BadLot.__init__" = true)
    (km6 : PySem.W.keepIn K (.ref fm6) = true)
    (tim6 : PySem.W.typeIn K (.ref fm6) = some (.type "function"))
    (am7 : PySem.W.findIn K (.ref eN) "__init__" = some (some (.ref fm7)))
    (im7 : PySem.W.isFn K (.ref fm7) = true)
    (lm7 : K.lookup fm7 = some ⟨ocm7, odm7, .func (PySem.W.fnOf "__init__" "Missing.__init__" (defArgs sMissingInit) (defBody sMissingInit) (defScope sMissingInit) .none kVm7 dcm7 pmm7 anm7 cdm7 ctm7), slm7⟩)
    (cm7 : PySem.W.codeIn K cdm7 "Missing.__init__" = true)
    (km7 : PySem.W.keepIn K (.ref fm7) = true)
    (tim7 : PySem.W.typeIn K (.ref fm7) = some (.type "function"))
    (am8 : PySem.W.findIn K (.ref eT) "__init__" = some (some (.ref fm8)))
    (im8 : PySem.W.isFn K (.ref fm8) = true)
    (lm8 : K.lookup fm8 = some ⟨ocm8, odm8, .func (PySem.W.fnOf "__init__" "Twice.__init__" (defArgs sTwiceInit) (defBody sTwiceInit) (defScope sTwiceInit) .none kVm8 dcm8 pmm8 anm8 cdm8 ctm8), slm8⟩)
    (cm8 : PySem.W.codeIn K cdm8 "Twice.__init__" = true)
    (km8 : PySem.W.keepIn K (.ref fm8) = true)
    (tim8 : PySem.W.typeIn K (.ref fm8) = some (.type "function"))
    (am9 : PySem.W.findIn K (.ref eU) "__init__" = some (some (.ref fm9)))
    (im9 : PySem.W.isFn K (.ref fm9) = true)
    (lm9 : K.lookup fm9 = some ⟨ocm9, odm9, .func (PySem.W.fnOf "__init__" "BadLineUp.__init__" (defArgs sBadLineUpInit) (defBody sBadLineUpInit) (defScope sBadLineUpInit) .none kVm9 dcm9 pmm9 anm9 cdm9 ctm9), slm9⟩)
    (cm9 : PySem.W.codeIn K cdm9 "BadLineUp.__init__" = true)
    (km9 : PySem.W.keepIn K (.ref fm9) = true)
    (tim9 : PySem.W.typeIn K (.ref fm9) = some (.type "function"))
    (am10 : PySem.W.findIn K (.ref eM) "__init__" = some (some (.ref fm10)))
    (im10 : PySem.W.isFn K (.ref fm10) = true)
    (lm10 : K.lookup fm10 = some ⟨ocm10, odm10, .func (PySem.W.fnOf "__init__" "Misfit.__init__" (defArgs sMisfitInit) (defBody sMisfitInit) (defScope sMisfitInit) .none kVm10 dcm10 pmm10 anm10 cdm10 ctm10), slm10⟩)
    (cm10 : PySem.W.codeIn K cdm10 "Misfit.__init__" = true)
    (km10 : PySem.W.keepIn K (.ref fm10) = true)
    (tim10 : PySem.W.typeIn K (.ref fm10) = some (.type "function"))
    (am11 : PySem.W.findIn K (.ref eG) "__init__" = some (some (.ref fm11)))
    (im11 : PySem.W.isFn K (.ref fm11) = true)
    (lm11 : K.lookup fm11 = some ⟨ocm11, odm11, .func (PySem.W.fnOf "__init__" "TooLong.__init__" (defArgs sTooLongInit) (defBody sTooLongInit) (defScope sTooLongInit) .none kVm11 dcm11 pmm11 anm11 cdm11 ctm11), slm11⟩)
    (cm11 : PySem.W.codeIn K cdm11 "TooLong.__init__" = true)
    (km11 : PySem.W.keepIn K (.ref fm11) = true)
    (tim11 : PySem.W.typeIn K (.ref fm11) = some (.type "function"))
    (am12 : PySem.W.findIn K (.ref CL) "__eq__" = some (some (.ref fm12)))
    (im12 : PySem.W.isFn K (.ref fm12) = true)
    (lm12 : K.lookup fm12 = some ⟨ocm12, odm12, .func (PySem.W.fnOf "__eq__" "LineUp.__eq__" (defArgs sLineUpEq) (defBody sLineUpEq) (defScope sLineUpEq) .none kVm12 dcm12 pmm12 anm12 cdm12 ctm12), slm12⟩)
    (cm12 : PySem.W.codeIn K cdm12 "LineUp.__eq__" = true)
    (km12 : PySem.W.keepIn K (.ref fm12) = true)
    (am13 : PySem.W.findIn K (.ref CM) "__eq__" = some (some (.ref fm13)))
    (im13 : PySem.W.isFn K (.ref fm13) = true)
    (lm13 : K.lookup fm13 = some ⟨ocm13, odm13, .func (PySem.W.fnOf "__eq__" "Paper.__eq__" (defArgs sPaperEq) (defBody sPaperEq) (defScope sPaperEq) .none kVm13 dcm13 pmm13 anm13 cdm13 ctm13), slm13⟩)
    (cm13 : PySem.W.codeIn K cdm13 "Paper.__eq__" = true)
    (km13 : PySem.W.keepIn K (.ref fm13) = true)
    (am14 : PySem.W.findIn K (.ref CM) "__bool__" = some (some (.ref fm14)))
    (im14 : PySem.W.isFn K (.ref fm14) = true)
    (lm14 : K.lookup fm14 = some ⟨ocm14, odm14, .func (PySem.W.fnOf "__bool__" "Paper.__bool__" (defArgs sPaperBool) (defBody sPaperBool) (defScope sPaperBool) .none kVm14 dcm14 pmm14 anm14 cdm14 ctm14), slm14⟩)
    (cm14 : PySem.W.codeIn K cdm14 "Paper.__bool__" = true)
    (km14 : PySem.W.keepIn K (.ref fm14) = true)
    (am15 : PySem.W.findIn K (.ref CN) "__bool__" = some (some (.ref fm15)))
    (im15 : PySem.W.isFn K (.ref fm15) = true)
    (lm15 : K.lookup fm15 = some ⟨ocm15, odm15, .func (PySem.W.fnOf "__bool__" "Paper.__bool__" (defArgs sPaperBool) (defBody sPaperBool) (defScope sPaperBool) .none kVm15 dcm15 pmm15 anm15 cdm15 ctm15), slm15⟩)
    (cm15 : PySem.W.codeIn K cdm15 "Paper.__bool__" = true)
    (km15 : PySem.W.keepIn K (.ref fm15) = true)
    (am16 : PySem.W.findIn K (.ref CG) "__bool__" = some (some (.ref fm16)))
    (im16 : PySem.W.isFn K (.ref fm16) = true)
    (lm16 : K.lookup fm16 = some ⟨ocm16, odm16, .func (PySem.W.fnOf "__bool__" "Denial.__bool__" (defArgs sDenialBool) (defBody sDenialBool) (defScope sDenialBool) .none kVm16 dcm16 pmm16 anm16 cdm16 ctm16), slm16⟩)
    (cm16 : PySem.W.codeIn K cdm16 "Denial.__bool__" = true)
    (km16 : PySem.W.keepIn K (.ref fm16) = true)
    (rC_pg : PySem.W.plainGet K C Str.empty = true)
    (rC_hd : PySem.W.hasDictIn K C = true)
    (rC_po : PySem.W.plainOver K C = true)
    (rC_sa : PySem.W.findIn K (.ref C) "__setattr__" = some (some (.builtin "object.__setattr__")))
    (rC_mk : PySem.W.makesIn K C = true)
    (rC_kc : PySem.W.keepIn K (.ref C) = true)
    (rC_ha : PySem.W.findIn K (.ref C) "__class__" = some (some (.builtin "object.__class__")))
    (rC_hm : PySem.W.mroIn K C (.type "object") = some true)
    (rC_n_lengths : PySem.W.findIn K (.ref C) "lengths" = some none)
    (rC_n_total : PySem.W.findIn K (.ref C) "total" = some none)
    (rC_n_closes : PySem.W.findIn K (.ref C) "closes" = some none)
    (rC_n_is_clear : PySem.W.findIn K (.ref C) "is_clear" = some none)
    (rCL_pg : PySem.W.plainGet K CL Str.empty = true)
    (rCL_hd : PySem.W.hasDictIn K CL = true)
    (rCL_po : PySem.W.plainOver K CL = true)
    (rCL_sa : PySem.W.findIn K (.ref CL) "__setattr__" = some (some (.builtin "object.__setattr__")))
    (rCL_mk : PySem.W.makesIn K CL = true)
    (rCL_kc : PySem.W.keepIn K (.ref CL) = true)
    (rCL_ha : PySem.W.findIn K (.ref CL) "__class__" = some (some (.builtin "object.__class__")))
    (rCL_hm : PySem.W.mroIn K CL (.type "object") = some true)
    (rCL_n_strands : PySem.W.findIn K (.ref CL) "strands" = some none)
    (rCL_n_lots : PySem.W.findIn K (.ref CL) "lots" = some none)
    (rCL_n_many : PySem.W.findIn K (.ref CL) "many" = some none)
    (rCN_pg : PySem.W.plainGet K CN Str.empty = true)
    (rCN_hd : PySem.W.hasDictIn K CN = true)
    (rCN_po : PySem.W.plainOver K CN = true)
    (rCN_sa : PySem.W.findIn K (.ref CN) "__setattr__" = some (some (.builtin "object.__setattr__")))
    (rCN_mk : PySem.W.makesIn K CN = true)
    (rCN_kc : PySem.W.keepIn K (.ref CN) = true)
    (rCN_ha : PySem.W.findIn K (.ref CN) "__class__" = some (some (.builtin "object.__class__")))
    (rCN_hm : PySem.W.mroIn K CN (.type "object") = some true)
    (rCN_n_word : PySem.W.findIn K (.ref CN) "word" = some none)
    (rCN_n_parts : PySem.W.findIn K (.ref CN) "parts" = some none)
    (rCN_n_nets : PySem.W.findIn K (.ref CN) "nets" = some none)
    (rCG_pg : PySem.W.plainGet K CG Str.empty = true)
    (rCG_hd : PySem.W.hasDictIn K CG = true)
    (rCG_po : PySem.W.plainOver K CG = true)
    (rCG_sa : PySem.W.findIn K (.ref CG) "__setattr__" = some (some (.builtin "object.__setattr__")))
    (rCG_mk : PySem.W.makesIn K CG = true)
    (rCG_kc : PySem.W.keepIn K (.ref CG) = true)
    (rCG_ha : PySem.W.findIn K (.ref CG) "__class__" = some (some (.builtin "object.__class__")))
    (rCG_hm : PySem.W.mroIn K CG (.type "object") = some true)
    (rCG_n_word : PySem.W.findIn K (.ref CG) "word" = some none)
    (rCG_n_parts : PySem.W.findIn K (.ref CG) "parts" = some none)
    (rCG_n_lot : PySem.W.findIn K (.ref CG) "lot" = some none)
    (rCG_n_net : PySem.W.findIn K (.ref CG) "net" = some none)
    (rCG_n_others : PySem.W.findIn K (.ref CG) "others" = some none)
    (rCM_pg : PySem.W.plainGet K CM Str.empty = true)
    (rCM_hd : PySem.W.hasDictIn K CM = true)
    (rCM_po : PySem.W.plainOver K CM = true)
    (rCM_sa : PySem.W.findIn K (.ref CM) "__setattr__" = some (some (.builtin "object.__setattr__")))
    (rCM_mk : PySem.W.makesIn K CM = true)
    (rCM_kc : PySem.W.keepIn K (.ref CM) = true)
    (rCM_ha : PySem.W.findIn K (.ref CM) "__class__" = some (some (.builtin "object.__class__")))
    (rCM_hm : PySem.W.mroIn K CM (.type "object") = some true)
    (rCM_n_word : PySem.W.findIn K (.ref CM) "word" = some none)
    (rCM_n_parts : PySem.W.findIn K (.ref CM) "parts" = some none)
    (rCM_n_lineup : PySem.W.findIn K (.ref CM) "lineup" = some none)
    (rhn : PySem.W.specialIn K (.builtin "object.__class__") "__get__" = some (some (.builtin "getset_descriptor.__get__")))
    (rht : PySem.W.takesIn K (.builtin "object.__class__") = some true)
    (kN : PySem.W.kitOne K (.type "NoneType") (.ref C) = some false)
    (kI : PySem.W.kitOne K (.type "int") (.ref C) = some false)
    (kS : PySem.W.kitOne K (.type "str") (.ref C) = some false)
    (kL : PySem.W.kitOne K (.type "list") (.ref C) = some false)
    (lL : PySem.W.kitOne K (.ref CL) (.type "list") = some false)
    (lT : PySem.W.kitOne K (.ref CL) (.type "tuple") = some false)
    (kgr : PySem.W.kitOne K (.ref eG) (.ref eR) = some false)
    (kMP : PySem.W.kitOne K (.ref CM) (.ref Pa) = some true)
    (aPa : PySem.W.nsIn K mainGlobals "Paper" = some (some (.ref Pa)))
    (topS : (l.prog.main.scope.names.lookup ("super" : Str)).isSome = false)
    (thE : PySem.W.nsIn K cStatics "thirdparty.any" = some none)
    (tyP : PySem.W.typeIn K (.ref fPi) = some (.type "function"))
    (fnP : PySem.W.fnIn K fPi = true)
    (lPi : K.lookup fPi = some ⟨ocP, odP, .func (PySem.W.fnOf "__init__" "Paper.__init__" (defArgs sPaperInit) (defBody sPaperInit) (defScope sPaperInit) .none kVP dcP pmP anP cdP ctP), slP⟩)
    (cPi : PySem.W.codeIn K cdP "Paper.__init__" = true)
    (kPi : PySem.W.keepIn K (.ref fPi) = true)
    (aEiN : PySem.W.findIn K (.ref CN) "__init__" = some (some (.ref fEN)))
    (iEiN : PySem.W.isFn K (.ref fEN) = true)
    (lEiN : K.lookup fEN = some ⟨ocEN, odEN, .func (PySem.W.fnX "__init__" "Nets.__init__" (defArgs sNetsInit) (defBody sNetsInit) (defScope sNetsInit) [(("__class__" : Str), ccEN)] .none kVEN dcEN pmEN anEN (.ref cEN) ctEN), slEN⟩)
    (cEiN : PySem.W.codeIn K (.ref cEN) "Nets.__init__" = true)
    (kEiN : PySem.W.keepIn K (.ref fEN) = true)
    (loEN : K.lookup cEN = some ⟨cclEN, cddEN, .fields vsEN, ccsEN⟩)
    (vsE2N : vsEN[2]? = some (.str fileEN tfEN))
    (fiEN : ((l.prog.main.file : Str) == fileEN) = true)
    (ceEN : K.lookup ccEN = some ⟨kclEN, kcdEN, .cell (some (.ref CN)), kcsEN⟩)
    (mEEN : PySem.W.mroIn K CN (.ref CN) = some true)
    (toEN : PySem.W.ks_superIn K CN CN "__init__" = some (some (.ref fPi)))
    (aEiG : PySem.W.findIn K (.ref CG) "__init__" = some (some (.ref fEG)))
    (iEiG : PySem.W.isFn K (.ref fEG) = true)
    (lEiG : K.lookup fEG = some ⟨ocEG, odEG, .func (PySem.W.fnX "__init__" "TooGreat.__init__" (defArgs sTooGreatInit) (defBody sTooGreatInit) (defScope sTooGreatInit) [(("__class__" : Str), ccEG)] .none kVEG dcEG pmEG anEG (.ref cEG) ctEG), slEG⟩)
    (cEiG : PySem.W.codeIn K (.ref cEG) "TooGreat.__init__" = true)
    (kEiG : PySem.W.keepIn K (.ref fEG) = true)
    (loEG : K.lookup cEG = some ⟨cclEG, cddEG, .fields vsEG, ccsEG⟩)
    (vsE2G : vsEG[2]? = some (.str fileEG tfEG))
    (fiEG : ((l.prog.main.file : Str) == fileEG) = true)
    (ceEG : K.lookup ccEG = some ⟨kclEG, kcdEG, .cell (some (.ref CG)), kcsEG⟩)
    (mEEG : PySem.W.mroIn K CG (.ref CG) = some true)
    (toEG : PySem.W.ks_superIn K CG CG "__init__" = some (some (.ref fPi)))
    (aEiM : PySem.W.findIn K (.ref CM) "__init__" = some (some (.ref fEM)))
    (iEiM : PySem.W.isFn K (.ref fEM) = true)
    (lEiM : K.lookup fEM = some ⟨ocEM, odEM, .func (PySem.W.fnX "__init__" "Most.__init__" (defArgs sMostInit) (defBody sMostInit) (defScope sMostInit) [(("__class__" : Str), ccEM)] .none kVEM dcEM pmEM anEM (.ref cEM) ctEM), slEM⟩)
    (cEiM : PySem.W.codeIn K (.ref cEM) "Most.__init__" = true)
    (kEiM : PySem.W.keepIn K (.ref fEM) = true)
    (loEM : K.lookup cEM = some ⟨cclEM, cddEM, .fields vsEM, ccsEM⟩)
    (vsE2M : vsEM[2]? = some (.str fileEM tfEM))
    (fiEM : ((l.prog.main.file : Str) == fileEM) = true)
    (ceEM : K.lookup ccEM = some ⟨kclEM, kcdEM, .cell (some (.ref CM)), kcsEM⟩)
    (mEEM : PySem.W.mroIn K CM (.ref CM) = some true)
    (toEM : PySem.W.ks_superIn K CM CM "__init__" = some (some (.ref fPi)))
    (rdM : PySem.W.readsIn K CM (.type "type") = true)
    (atM : PySem.W.findCls K (.ref CM) (.type "type") "__name__" = some (.get (.builtin "getset_descriptor.__get__") (.builtin "type.__name__") (.ref CM) (.type "type")))
    (tyM : PySem.W.typeIn K (.ref CM) = some (.type "type"))
    (lkM : K.lookup CM = some oM)
    (slM2 : oM.slots[2]? = some (some (.str "Most" tkM)))
    (neM : PySem.W.findIn K (.ref CM) "__ne__" = some (some (.builtin "object.__ne__")))
    (suM : PySem.W.subIn K (.ref CM) (.type "object") = some true)
    (neL : PySem.W.findIn K (.ref CL) "__ne__" = some (some (.builtin "object.__ne__")))
    (suL : PySem.W.subIn K (.ref CL) (.type "object") = some true)
    (z_int : PySem.W.nsIn K mainGlobals "int" = some none)
    (z_len : PySem.W.nsIn K mainGlobals "len" = some none)
    (z_abs : PySem.W.nsIn K mainGlobals "abs" = some none)
    (z_list : PySem.W.nsIn K mainGlobals "list" = some none)
    (z_tuple : PySem.W.nsIn K mainGlobals "tuple" = some none)
    (z_bool : PySem.W.nsIn K mainGlobals "bool" = some none)
    (z_range : PySem.W.nsIn K mainGlobals "range" = some none)
    (z_sum : PySem.W.nsIn K mainGlobals "sum" = some none)
    (z_max : PySem.W.nsIn K mainGlobals "max" = some none)
    (z_all : PySem.W.nsIn K mainGlobals "all" = some none)
    (z_any : PySem.W.nsIn K mainGlobals "any" = some none)
    (z_sorted : PySem.W.nsIn K mainGlobals "sorted" = some none)
    (z_enumerate : PySem.W.nsIn K mainGlobals "enumerate" = some none)
    (z_isinstance : PySem.W.nsIn K mainGlobals "isinstance" = some none)
    (z_super : PySem.W.nsIn K mainGlobals "super" = some none)
    (z_zip : PySem.W.nsIn K mainGlobals "zip" = some none)
    (z_set : PySem.W.nsIn K mainGlobals "set" = some none)
    (g_MOST_LENGTH : PySem.W.nsIn K mainGlobals "MOST_LENGTH" = some (some (.int 1000000 tkMOST_LENGTH)))
    (g_LEAST_BARS : PySem.W.nsIn K mainGlobals "LEAST_BARS" = some (some (.int 3 tkLEAST_BARS)))
    (g_MOST_BARS : PySem.W.nsIn K mainGlobals "MOST_BARS" = some (some (.int 8 tkMOST_BARS)))
    (xeR : K.lookup eR = some (excClassObj nmeR qqeR eR NeR bseR bmeR true sneR subeR abeR coleR ddeR k0eR k1eR k2eR k3eR k5eR "ValueError.__new__"))
    (rveR : PySem.HandSPX.refsVE bmeR = true)
    (saeR : PySem.W.findIn K (.ref eR) "__setattr__" = some (some (.builtin "object.__setattr__")))
    (eCeR : PySem.W.subIn K (.ref eR) (.type "BaseException") = some true)
    (tCeR : PySem.W.typeIn K (.ref eR) = some (.type "type"))
    (kCeR : PySem.W.keepIn K (.ref eR) = true)
    (nfeRpart : PySem.W.findIn K (.ref eR) "part" = some none)
    (gaeR : PySem.W.findIn K (.ref eR) "__getattribute__" = some (some (.builtin "BaseException.__getattribute__")))
    (ggeR : PySem.W.findIn K (.ref eR) "__getattr__" = some none)
    (hdeR : PySem.W.hasDictIn K eR = true)
    (haeR : PySem.W.findIn K (.ref eR) "__class__" = some (some (.builtin "object.__class__")))
    (hmeR : PySem.W.mroIn K eR (.type "object") = some true)
    (sbeR : PySem.W.subIn K (.ref eR) (.ref eX) = some true)
    (xeL : K.lookup eL = some (excClassObj nmeL qqeL eL NeL bseL bmeL true sneL subeL abeL coleL ddeL k0eL k1eL k2eL k3eL k5eL "ValueError.__new__"))
    (rveL : PySem.HandSPX.refsVE bmeL = true)
    (saeL : PySem.W.findIn K (.ref eL) "__setattr__" = some (some (.builtin "object.__setattr__")))
    (eCeL : PySem.W.subIn K (.ref eL) (.type "BaseException") = some true)
    (tCeL : PySem.W.typeIn K (.ref eL) = some (.type "type"))
    (kCeL : PySem.W.keepIn K (.ref eL) = true)
    (nfeLpart : PySem.W.findIn K (.ref eL) "part" = some none)
    (xeN : K.lookup eN = some (excClassObj nmeN qqeN eN NeN bseN bmeN true sneN subeN abeN coleN ddeN k0eN k1eN k2eN k3eN k5eN "ValueError.__new__"))
    (rveN : PySem.HandSPX.refsVE bmeN = true)
    (saeN : PySem.W.findIn K (.ref eN) "__setattr__" = some (some (.builtin "object.__setattr__")))
    (eCeN : PySem.W.subIn K (.ref eN) (.type "BaseException") = some true)
    (tCeN : PySem.W.typeIn K (.ref eN) = some (.type "type"))
    (kCeN : PySem.W.keepIn K (.ref eN) = true)
    (nfeNvalue : PySem.W.findIn K (.ref eN) "value" = some none)
    (xeT : K.lookup eT = some (excClassObj nmeT qqeT eT NeT bseT bmeT true sneT subeT abeT coleT ddeT k0eT k1eT k2eT k3eT k5eT "ValueError.__new__"))
    (rveT : PySem.HandSPX.refsVE bmeT = true)
    (saeT : PySem.W.findIn K (.ref eT) "__setattr__" = some (some (.builtin "object.__setattr__")))
    (eCeT : PySem.W.subIn K (.ref eT) (.type "BaseException") = some true)
    (tCeT : PySem.W.typeIn K (.ref eT) = some (.type "type"))
    (kCeT : PySem.W.keepIn K (.ref eT) = true)
    (nfeTvalue : PySem.W.findIn K (.ref eT) "value" = some none)
    (xeU : K.lookup eU = some (excClassObj nmeU qqeU eU NeU bseU bmeU true sneU subeU abeU coleU ddeU k0eU k1eU k2eU k3eU k5eU "ValueError.__new__"))
    (rveU : PySem.HandSPX.refsVE bmeU = true)
    (saeU : PySem.W.findIn K (.ref eU) "__setattr__" = some (some (.builtin "object.__setattr__")))
    (eCeU : PySem.W.subIn K (.ref eU) (.type "BaseException") = some true)
    (tCeU : PySem.W.typeIn K (.ref eU) = some (.type "type"))
    (kCeU : PySem.W.keepIn K (.ref eU) = true)
    (nfeUpart : PySem.W.findIn K (.ref eU) "part" = some none)
    (xeM : K.lookup eM = some (excClassObj nmeM qqeM eM NeM bseM bmeM true sneM subeM abeM coleM ddeM k0eM k1eM k2eM k3eM k5eM "ValueError.__new__"))
    (rveM : PySem.HandSPX.refsVE bmeM = true)
    (saeM : PySem.W.findIn K (.ref eM) "__setattr__" = some (some (.builtin "object.__setattr__")))
    (eCeM : PySem.W.subIn K (.ref eM) (.type "BaseException") = some true)
    (tCeM : PySem.W.typeIn K (.ref eM) = some (.type "type"))
    (kCeM : PySem.W.keepIn K (.ref eM) = true)
    (nfeMpart : PySem.W.findIn K (.ref eM) "part" = some none)
    (xeG : K.lookup eG = some (excClassObj nmeG qqeG eG NeG bseG bmeG true sneG subeG abeG coleG ddeG k0eG k1eG k2eG k3eG k5eG "ValueError.__new__"))
    (rveG : PySem.HandSPX.refsVE bmeG = true)
    (saeG : PySem.W.findIn K (.ref eG) "__setattr__" = some (some (.builtin "object.__setattr__")))
    (eCeG : PySem.W.subIn K (.ref eG) (.type "BaseException") = some true)
    (tCeG : PySem.W.typeIn K (.ref eG) = some (.type "type"))
    (kCeG : PySem.W.keepIn K (.ref eG) = true)
    (nfeGbar : PySem.W.findIn K (.ref eG) "bar" = some none)
    (gaeG : PySem.W.findIn K (.ref eG) "__getattribute__" = some (some (.builtin "BaseException.__getattribute__")))
    (ggeG : PySem.W.findIn K (.ref eG) "__getattr__" = some none)
    (hdeG : PySem.W.hasDictIn K eG = true)
    (haeG : PySem.W.findIn K (.ref eG) "__class__" = some (some (.builtin "object.__class__")))
    (hmeG : PySem.W.mroIn K eG (.type "object") = some true)
    (sbeG : PySem.W.subIn K (.ref eG) (.ref eX) = some true)
    (eCeX : PySem.W.subIn K (.ref eX) (.type "BaseException") = some true)
    (hdeX : PySem.W.hasDictIn K eX = true)
    (tCeX : PySem.W.typeIn K (.ref eX) = some (.type "type"))
    (lc1 : K.lookup cMO = some ⟨.type "code", odc1, .fields vsc1, slc1⟩)
    (hdc1 : PySem.W.codeHdIn [(cMO, ⟨.type "code", odc1, .fields vsc1, slc1⟩)] cMO P0 = true)
    (nT1 : K.lookup P0 = none)
    (hT1 : h.get? P0 = some { cls := .none, data := .fields #[] })
    (lc2 : K.lookup cLW = some ⟨.type "code", odc2, .fields vsc2, slc2⟩)
    (hdc2 : PySem.W.codeHdIn [(cLW, ⟨.type "code", odc2, .fields vsc2, slc2⟩)] cLW P1 = true)
    (nT2 : K.lookup P1 = none)
    (hT2 : h.get? P1 = some { cls := .none, data := .fields #[] })
    (lc3 : K.lookup cIO = some ⟨.type "code", odc3, .fields vsc3, slc3⟩)
    (hdc3 : PySem.W.codeHdIn [(cIO, ⟨.type "code", odc3, .fields vsc3, slc3⟩)] cIO P2 = true)
    (nT3 : K.lookup P2 = none)
    (hT3 : h.get? P2 = some { cls := .none, data := .fields #[] })
    (nP01 : P0 ≠ P1)
    (nP02 : P0 ≠ P2)
    (nP12 : P1 ≠ P2) :
    LawAtS l w K CX0 13 63 "_law_script" mg fa h := by
  have e := hfa.symm.trans (PySem.W.mg_of X G a49)
  cases e
  have gl : ∀ {x : Str} {v : Value}, PySem.W.nsIn K mainGlobals x = some (some v) → mg x = some v := fun q => PySem.W.mg_of X G q
  have T : Bi mg := ⟨PySem.W.mg_none_of X G z_int, PySem.W.mg_none_of X G z_len, PySem.W.mg_none_of X G z_abs, PySem.W.mg_none_of X G z_list, PySem.W.mg_none_of X G z_tuple, PySem.W.mg_none_of X G z_bool, PySem.W.mg_none_of X G z_range, PySem.W.mg_none_of X G z_sum, PySem.W.mg_none_of X G z_max, PySem.W.mg_none_of X G z_all, PySem.W.mg_none_of X G z_any, PySem.W.mg_none_of X G z_sorted, PySem.W.mg_none_of X G z_enumerate, PySem.W.mg_none_of X G z_isinstance⟩
  have N : Nm mg := ⟨⟨_, gl g_MOST_LENGTH⟩, ⟨_, gl g_LEAST_BARS⟩, ⟨_, gl g_MOST_BARS⟩⟩
  have B2 : Bi2 mg := ⟨PySem.W.mg_none_of X G z_zip, PySem.W.mg_none_of X G z_set⟩
  have R : RingC K mg C := ⟨⟨rC_pg, rC_hd, rC_po, rC_sa⟩, rC_n_lengths, rC_n_total, rC_n_closes, rC_n_is_clear, gl aC, rC_ha, rhn, rht, rC_hm⟩
  have RL : LineC K mg CL := ⟨⟨rCL_pg, rCL_hd, rCL_po, rCL_sa⟩, rCL_n_strands, rCL_n_lots, rCL_n_many, gl aCL⟩
  have clN : Cls K CN := ⟨rCN_pg, rCN_hd, rCN_po, rCN_sa⟩
  have clG : Cls K CG := ⟨rCG_pg, rCG_hd, rCG_po, rCG_sa⟩
  have clM : Cls K CM := ⟨rCM_pg, rCM_hd, rCM_po, rCM_sa⟩
  have clL : Cls K CL := ⟨rCL_pg, rCL_hd, rCL_po, rCL_sa⟩
  have RN : NetsC K mg CN := ⟨⟨clN, rCN_n_word, rCN_n_parts⟩, rCN_n_nets, gl aCN⟩
  have TGC : TooGreatC K mg CG := ⟨⟨clG, rCG_n_word, rCG_n_parts⟩, rCG_n_lot, rCG_n_net, rCG_n_others, gl aCG⟩
  have RM : MostC K mg CM := ⟨⟨clM, rCM_n_word, rCM_n_parts⟩, rCM_n_lineup, gl aCM⟩
  have EM : C8.InsC K CM := ⟨clM, rCM_ha, rhn, rht, rCM_hm, kit_self⟩
  have EL : C8.InsC K CL := ⟨clL, rCL_ha, rhn, rht, rCL_hm, kit_self⟩
  have NS : NoSeq K CL := ⟨EL, lL, lT⟩
  have NM1 : NamC K CM "Most" := ⟨rdM, atM, tyM, ⟨_, _, lkM, slM2⟩⟩
  have KT : KitT K C := ⟨kN, kI, kS, kL⟩
  have oeR : OexC K eR := ⟨⟨_, _, _, _, _, _, _, _, _, _, _, _, _, _, _, xeR, rveR⟩, saeR, eCeR, tCeR, kCeR⟩
  have oeL : OexC K eL := ⟨⟨_, _, _, _, _, _, _, _, _, _, _, _, _, _, _, xeL, rveL⟩, saeL, eCeL, tCeL, kCeL⟩
  have oeN : OexC K eN := ⟨⟨_, _, _, _, _, _, _, _, _, _, _, _, _, _, _, xeN, rveN⟩, saeN, eCeN, tCeN, kCeN⟩
  have oeT : OexC K eT := ⟨⟨_, _, _, _, _, _, _, _, _, _, _, _, _, _, _, xeT, rveT⟩, saeT, eCeT, tCeT, kCeT⟩
  have oeU : OexC K eU := ⟨⟨_, _, _, _, _, _, _, _, _, _, _, _, _, _, _, xeU, rveU⟩, saeU, eCeU, tCeU, kCeU⟩
  have oeM : OexC K eM := ⟨⟨_, _, _, _, _, _, _, _, _, _, _, _, _, _, _, xeM, rveM⟩, saeM, eCeM, tCeM, kCeM⟩
  have oeG : OexC K eG := ⟨⟨_, _, _, _, _, _, _, _, _, _, _, _, _, _, _, xeG, rveG⟩, saeG, eCeG, tCeG, kCeG⟩
  have Hc : HeardC K mg ⟨eR, eG⟩ eX := ⟨gl aeX, gl aeR, ⟨gaeR, ggeR, eCeR, hdeR, haeR, rhn, rht, hmeR⟩, ⟨gaeR, ggeR, eCeR, hdeR⟩, PySem.W.exm_ref eCeX hdeX tCeX sbeR, nfeRpart, gl aeG, ⟨gaeG, ggeG, eCeG, hdeG, haeG, rhn, rht, hmeG⟩, ⟨gaeG, ggeG, eCeG, hdeG⟩, PySem.W.exm_ref eCeX hdeX tCeX sbeG, nfeGbar, kgr⟩
  have F0 := fun_mk (st := sAreEqual) l0 c0 k0
  have b0 := F0.binds (ps := ["one", "other"]) fun _ _ _ _ _ _ us hl => match us, hl with | [_, _], _ => rfl
  have F1 := fun_mk (st := sIsCalled) l1 c1 k1
  have b1 := F1.binds (ps := ["value", "name"]) fun _ _ _ _ _ _ us hl => match us, hl with | [_, _], _ => rfl
  have F2 := fun_mk (st := sIsInteger) l2 c2 k2
  have b2 := F2.binds (ps := ["value"]) fun _ _ _ _ _ _ us hl => match us, hl with | [_], _ => rfl
  have F3 := fun_mk (st := sIsWithin) l3 c3 k3
  have b3 := F3.binds (ps := ["value", "least", "most"]) fun _ _ _ _ _ _ us hl => match us, hl with | [_, _, _], _ => rfl
  have F4 := fun_mk (st := sIsList) l4 c4 k4
  have b4 := F4.binds (ps := ["value"]) fun _ _ _ _ _ _ us hl => match us, hl with | [_], _ => rfl
  have F5 := fun_mk (st := sIsNumbers) l5 c5 k5
  have b5 := F5.binds (ps := ["value"]) fun _ _ _ _ _ _ us hl => match us, hl with | [_], _ => rfl
  have F6 := fun_mk (st := sFixed) l6 c6 k6
  have b6 := F6.binds (ps := ["value"]) fun _ _ _ _ _ _ us hl => match us, hl with | [_], _ => rfl
  have F7 := fun_mk (st := sFirstTwice) l7 c7 k7
  have b7 := F7.binds (ps := ["values"]) fun _ _ _ _ _ _ us hl => match us, hl with | [_], _ => rfl
  have F8 := fun_mk (st := sTwiceAt) l8 c8 k8
  have b8 := F8.binds (ps := ["values"]) fun _ _ _ _ _ _ us hl => match us, hl with | [_], _ => rfl
  have F9 := fun_mk (st := sWantNumber) l9 c9 k9
  have b9 := F9.binds (ps := ["value", "least", "most", "part"]) fun _ _ _ _ _ _ us hl => match us, hl with | [_, _, _, _], _ => rfl
  have F10 := fun_mk (st := sWantBar) l10 c10 k10
  have b10 := F10.binds (ps := ["value", "many"]) fun _ _ _ _ _ _ us hl => match us, hl with | [_, _], _ => rfl
  have F11 := fun_mk (st := sWantLot) l11 c11 k11
  have b11 := F11.binds (ps := ["value", "many", "part"]) fun _ _ _ _ _ _ us hl => match us, hl with | [_, _, _], _ => rfl
  have F12 := fun_mk (st := sWantAsMany) l12 c12 k12
  have b12 := F12.binds (ps := ["one", "other"]) fun _ _ _ _ _ _ us hl => match us, hl with | [_, _], _ => rfl
  have F13 := fun_mk (st := sSortBy) l13 c13 k13
  have b13 := F13.binds (ps := ["excess"]) fun _ _ _ _ _ _ us hl => match us, hl with | [_], _ => rfl
  have F14 := fun_mk (st := sAreLengths) l14 c14 k14
  have b14 := F14.binds (ps := ["value"]) fun _ _ _ _ _ _ us hl => match us, hl with | [_], _ => rfl
  have F15 := fun_mk (st := sHasLevel) l15 c15 k15
  have b15 := F15.binds (ps := ["lengths"]) fun _ _ _ _ _ _ us hl => match us, hl with | [_], _ => rfl
  have F16 := fun_mk (st := sWantRing) l16 c16 k16
  have b16 := F16.binds (ps := ["value", "part"]) fun _ _ _ _ _ _ us hl => match us, hl with | [_, _], _ => rfl
  have F17 := fun_mk (st := sLotsOf) l17 c17 k17
  have b17 := F17.binds (ps := ["many"]) fun _ _ _ _ _ _ us hl => match us, hl with | [_], _ => rfl
  have F18 := fun_mk (st := sLevelLots) l18 c18 k18
  have b18 := F18.binds (ps := ["ring"]) fun _ _ _ _ _ _ us hl => match us, hl with | [_], _ => rfl
  have F19 := fun_mk (st := sTooLong) l19 c19 k19
  have b19 := F19.binds (ps := ["ring"]) fun _ _ _ _ _ _ us hl => match us, hl with | [_], _ => rfl
  have F20 : FunC K "in_order" "in_order" sInOrder f20 _ cIO := ⟨⟨_, _, _, _, _, _, _, _, rfl, l20, c20⟩⟩
  have F200 := fun_mk (st := sInOrder) l20 c20 k20
  have b20 := F200.binds (ps := ["lots"]) fun _ _ _ _ _ _ us hl => match us, hl with | [_], _ => rfl
  have F21 := fun_mk (st := sLotsBySort) l21 c21 k21
  have b21 := F21.binds (ps := ["ring", "sort"]) fun _ _ _ _ _ _ us hl => match us, hl with | [_, _], _ => rfl
  have F22 := fun_mk (st := sWantClosed) l22 c22 k22
  have b22 := F22.binds (ps := ["ring"]) fun _ _ _ _ _ _ us hl => match us, hl with | [_], _ => rfl
  have F23 := fun_mk (st := sAreStrands) l23 c23 k23
  have b23 := F23.binds (ps := ["value"]) fun _ _ _ _ _ _ us hl => match us, hl with | [_], _ => rfl
  have F24 := fun_mk (st := sIsStrand) l24 c24 k24
  have b24 := F24.binds (ps := ["value"]) fun _ _ _ _ _ _ us hl => match us, hl with | [_], _ => rfl
  have F25 := fun_mk (st := sAsStrand) l25 c25 k25
  have b25 := F25.binds (ps := ["pairs"]) fun _ _ _ _ _ _ us hl => match us, hl with | [_], _ => rfl
  have F26 := fun_mk (st := sCanLine) l26 c26 k26
  have b26 := F26.binds (ps := ["ring", "lineup"]) fun _ _ _ _ _ _ us hl => match us, hl with | [_, _], _ => rfl
  have F27 : FunC K "most_on_one" "most_on_one" sMostOnOne f27 _ cMO := ⟨⟨_, _, _, _, _, _, _, _, rfl, l27, c27⟩⟩
  have F270 := fun_mk (st := sMostOnOne) l27 c27 k27
  have b27 := F270.binds (ps := ["ring"]) fun _ _ _ _ _ _ us hl => match us, hl with | [_], _ => rfl
  have F28 := fun_mk (st := sNetsOf) l28 c28 k28
  have b28 := F28.binds (ps := ["ring", "lineup"]) fun _ _ _ _ _ _ us hl => match us, hl with | [_, _], _ => rfl
  have F29 := fun_mk (st := sTooGreat) l29 c29 k29
  have b29 := F29.binds (ps := ["nets"]) fun _ _ _ _ _ _ us hl => match us, hl with | [_], _ => rfl
  have F30 := fun_mk (st := sIsHad) l30 c30 k30
  have b30 := F30.binds (ps := ["ring", "lineup"]) fun _ _ _ _ _ _ us hl => match us, hl with | [_, _], _ => rfl
  have F31 := fun_mk (st := sFirstSigns) l31 c31 k31
  have b31 := F31.binds (ps := ["ring", "lots"]) fun _ _ _ _ _ _ us hl => match us, hl with | [_, _], _ => rfl
  have F32 := fun_mk (st := sChoices) l32 c32 k32
  have b32 := F32.binds (ps := ["lots"]) fun _ _ _ _ _ _ us hl => match us, hl with | [_], _ => rfl
  have F33 := fun_mk (st := sWithSign) l33 c33 k33
  have b33 := F33.binds (ps := ["row", "bar", "sign"]) fun _ _ _ _ _ _ us hl => match us, hl with | [_, _, _], _ => rfl
  have F34 := fun_mk (st := sWantLineup) l34 c34 k34
  have b34 := F34.binds (ps := ["value", "part"]) fun _ _ _ _ _ _ us hl => match us, hl with | [_, _], _ => rfl
  have F35 := fun_mk (st := sWantLined) l35 c35 k35
  have b35 := F35.binds (ps := ["ring", "lineup"]) fun _ _ _ _ _ _ us hl => match us, hl with | [_, _], _ => rfl
  have F36 := fun_mk (st := sShowsMost) l36 c36 k36
  have b36 := F36.binds (ps := ["ring", "value"]) fun _ _ _ _ _ _ us hl => match us, hl with | [_, _], _ => rfl
  have F37 := fun_mk (st := sMostSizes) l37 c37 k37
  have b37 := F37.binds (ps := ["ring"]) fun _ _ _ _ _ _ us hl => match us, hl with | [_], _ => rfl
  have F38 := fun_mk (st := sLwBench) l38 c38 k38
  have b38 := F38.binds (ps := ["_law_script"]) fun _ _ _ _ _ _ us hl => match us, hl with | [_], _ => rfl
  have F39 := fun_mk (st := sLwDraw) l39 c39 k39
  have b39 := F39.binds (ps := ["_law_bench_here", "_law_many"]) fun _ _ _ _ _ _ us hl => match us, hl with | [_, _], _ => rfl
  have F40 := fun_mk (st := sLwPick) l40 c40 k40
  have b40 := F40.binds (ps := ["_law_bench_here", "_law_some"]) fun _ _ _ _ _ _ us hl => match us, hl with | [_, _], _ => rfl
  have F41 := fun_mk (st := sLwLengths) l41 c41 k41
  have b41 := F41.binds (ps := ["_law_bench_here", "_law_many"]) fun _ _ _ _ _ _ us hl => match us, hl with | [_, _], _ => rfl
  have F42 := fun_mk (st := sLwIsHad) l42 c42 k42
  have b42 := F42.binds (ps := ["_law_lengths_here", "_law_strands"]) fun _ _ _ _ _ _ us hl => match us, hl with | [_, _], _ => rfl
  have F43 := fun_mk (st := sLwLots) l43 c43 k43
  have b43 := F43.binds (ps := ["_law_many", "_law_size"]) fun _ _ _ _ _ _ us hl => match us, hl with | [_, _], _ => rfl
  have F44 := fun_mk (st := sLwRows) l44 c44 k44
  have b44 := F44.binds (ps := ["_law_many"]) fun _ _ _ _ _ _ us hl => match us, hl with | [_], _ => rfl
  have F45 := fun_mk (st := sLwWide) l45 c45 k45
  have b45 := F45.binds (ps := ["_law_lengths_here", "_law_size"]) fun _ _ _ _ _ _ us hl => match us, hl with | [_, _], _ => rfl
  have F46 := fun_mk (st := sLwIsLevel) l46 c46 k46
  have b46 := F46.binds (ps := ["_law_lengths_here"]) fun _ _ _ _ _ _ us hl => match us, hl with | [_], _ => rfl
  have F47 := fun_mk (st := sLwMostRight) l47 c47 k47
  have b47 := F47.binds (ps := ["_law_bench_here", "_law_lengths_here"]) fun _ _ _ _ _ _ us hl => match us, hl with | [_, _], _ => rfl
  have F48 := fun_mk (st := sLwHeard) l48 c48 k48
  have b48 := F48.binds (ps := ["_law_ask"]) fun _ _ _ _ _ _ us hl => match us, hl with | [_], _ => rfl
  have F49 : FunC K "law" "law" sLaw fa _ cLW := ⟨⟨_, _, _, _, _, _, _, _, rfl, l49, c49⟩⟩
  have F490 := fun_mk (st := sLaw) l49 c49 k49
  have b49 := F490.binds (ps := ["_law_script"]) fun _ _ _ _ _ _ us hl => match us, hl with | [_], _ => rfl
  have Fm0 := fun_mk (st := sRingInit) lm0 cm0 km0
  have bm0 := Fm0.binds (ps := ["self", "lengths"]) fun _ _ _ _ _ _ us hl => match us, hl with | [_, _], _ => rfl
  have Fm1 := fun_mk (st := sRingLen) lm1 cm1 km1
  have bm1 := Fm1.binds (ps := ["self"]) fun _ _ _ _ _ _ us hl => match us, hl with | [_], _ => rfl
  have Fm2 := fun_mk (st := sRingLengthOf) lm2 cm2 km2
  have bm2 := Fm2.binds (ps := ["self", "lot"]) fun _ _ _ _ _ _ us hl => match us, hl with | [_, _], _ => rfl
  have Fm3 := fun_mk (st := sRingSortOf) lm3 cm3 km3
  have bm3 := Fm3.binds (ps := ["self", "lot"]) fun _ _ _ _ _ _ us hl => match us, hl with | [_, _], _ => rfl
  have Fm4 := fun_mk (st := sLineUpInit) lm4 cm4 km4
  have bm4 := Fm4.binds (ps := ["self", "strands"]) fun _ _ _ _ _ _ us hl => match us, hl with | [_, _], _ => rfl
  have Fm5 := fun_mk (st := sBadRingInit) lm5 cm5 km5
  have bm5 := Fm5.binds (ps := ["self", "part"]) fun _ _ _ _ _ _ us hl => match us, hl with | [_, _], _ => rfl
  have Fm6 := fun_mk (st := sBadLotInit) lm6 cm6 km6
  have bm6 := Fm6.binds (ps := ["self", "part"]) fun _ _ _ _ _ _ us hl => match us, hl with | [_, _], _ => rfl
  have Fm7 := fun_mk (st := sMissingInit) lm7 cm7 km7
  have bm7 := Fm7.binds (ps := ["self", "value"]) fun _ _ _ _ _ _ us hl => match us, hl with | [_, _], _ => rfl
  have Fm8 := fun_mk (st := sTwiceInit) lm8 cm8 km8
  have bm8 := Fm8.binds (ps := ["self", "value"]) fun _ _ _ _ _ _ us hl => match us, hl with | [_, _], _ => rfl
  have Fm9 := fun_mk (st := sBadLineUpInit) lm9 cm9 km9
  have bm9 := Fm9.binds (ps := ["self", "part"]) fun _ _ _ _ _ _ us hl => match us, hl with | [_, _], _ => rfl
  have Fm10 := fun_mk (st := sMisfitInit) lm10 cm10 km10
  have bm10 := Fm10.binds (ps := ["self", "part"]) fun _ _ _ _ _ _ us hl => match us, hl with | [_, _], _ => rfl
  have Fm11 := fun_mk (st := sTooLongInit) lm11 cm11 km11
  have bm11 := Fm11.binds (ps := ["self", "bar"]) fun _ _ _ _ _ _ us hl => match us, hl with | [_, _], _ => rfl
  have Fm12 := fun_mk (st := sLineUpEq) lm12 cm12 km12
  have bm12 := Fm12.binds (ps := ["self", "other"]) fun _ _ _ _ _ _ us hl => match us, hl with | [_, _], _ => rfl
  have Fm13 := fun_mk (st := sPaperEq) lm13 cm13 km13
  have bm13 := Fm13.binds (ps := ["self", "other"]) fun _ _ _ _ _ _ us hl => match us, hl with | [_, _], _ => rfl
  have Fm14 := fun_mk (st := sPaperBool) lm14 cm14 km14
  have bm14 := Fm14.binds (ps := ["self"]) fun _ _ _ _ _ _ us hl => match us, hl with | [_], _ => rfl
  have Fm15 := fun_mk (st := sPaperBool) lm15 cm15 km15
  have bm15 := Fm15.binds (ps := ["self"]) fun _ _ _ _ _ _ us hl => match us, hl with | [_], _ => rfl
  have Fm16 := fun_mk (st := sDenialBool) lm16 cm16 km16
  have bm16 := Fm16.binds (ps := ["self"]) fun _ _ _ _ _ _ us hl => match us, hl with | [_], _ => rfl
  refine ⟨PySem.W.fnOf "law" "law" (defArgs sLaw) (defBody sLaw) (defScope sLaw) .none kV49 dc49 pm49 an49 (.ref cLW) ct49, [(cMO, P0), (cLW, P1), (cIO, P2)], spLaw K (T2 P0 P1 P2), fun p hp => ?_, fun p hp => ?_, fun p hp => ?_, fun s v => .of_eq rfl, fun H a ns hl _ hT' hs => ?_, fun base KB GB TB => ?_⟩
  · rcases List.mem_cons.mp hp with e | e
    · rw [e]; exact hT1
    · rcases List.mem_cons.mp e with e | e
      · rw [e]; exact hT2
      · rw [List.mem_singleton.mp e]; exact hT3
  · rcases List.mem_cons.mp hp with e | e
    · rw [e]; exact nT1
    · rcases List.mem_cons.mp e with e | e
      · rw [e]; exact nT2
      · rw [List.mem_singleton.mp e]; exact nT3
  · rcases List.mem_cons.mp hp with e | e
    · rw [e]; exact PySem.W.codeHd_of_K X (code_hd lc1 hdc1)
    · rcases List.mem_cons.mp e with e | e
      · rw [e]; exact PySem.W.codeHd_of_K X (code_hd lc2 hdc2)
      · rw [List.mem_singleton.mp e]; exact PySem.W.codeHd_of_K X (code_hd lc3 hdc3)
  · refine ⟨a, ns, rfl, hs, by omega, fun p hp => ?_, fun _ => rfl⟩
    rcases List.mem_cons.mp hp with e | e
    · rw [e]; exact TabS.nil (hT' _ (List.mem_cons_self ..))
    · rcases List.mem_cons.mp e with e | e
      · rw [e]; exact TabS.nil (hT' _ (List.mem_cons_of_mem _ (List.mem_cons_self ..)))
      · rw [List.mem_singleton.mp e]; exact TabS.nil (hT' _ (List.mem_cons_of_mem _ (List.mem_cons_of_mem _ (List.mem_singleton.mpr rfl))))
  · have tb0 := TB _ (List.mem_cons_self ..)
    have tb1 := TB _ (List.mem_cons_of_mem _ (List.mem_cons_self ..))
    have tb2 := TB _ (List.mem_cons_of_mem _ (List.mem_cons_of_mem _ (List.mem_singleton.mpr rfl)))
    have hm0 : (P0, qMo) ∈ T2 P0 P1 P2 := List.mem_cons_self ..
    have hm1 : (P1, qLaw) ∈ T2 P0 P1 P2 := List.mem_cons_of_mem _ (List.mem_cons_self ..)
    have hm2 : (P2, qIO) ∈ T2 P0 P1 P2 := List.mem_cons_of_mem _ (List.mem_cons_of_mem _ (List.mem_singleton.mpr rfl))
    have hu0 : ∀ p ∈ T2 P0 P1 P2, p.1 = P0 → p.2 = qMo := fun p hp e => by
      rcases List.mem_cons.mp hp with z | z
      · rw [z]
      rcases List.mem_cons.mp z with z | z
      · rw [z] at e
        exact absurd e.symm nP01
      · rw [List.mem_singleton.mp z] at e
        exact absurd e.symm nP02
    have hu1 : ∀ p ∈ T2 P0 P1 P2, p.1 = P1 → p.2 = qLaw := fun p hp e => by
      rcases List.mem_cons.mp hp with z | z
      · rw [z] at e
        exact absurd e nP01
      rcases List.mem_cons.mp z with z | z
      · rw [z]
      · rw [List.mem_singleton.mp z] at e
        exact absurd e.symm nP12
    have hu2 : ∀ p ∈ T2 P0 P1 P2, p.1 = P2 → p.2 = qIO := fun p hp e => by
      rcases List.mem_cons.mp hp with z | z
      · rw [z] at e
        exact absurd e nP02
      rcases List.mem_cons.mp z with z | z
      · rw [z] at e
        exact absurd e nP12
      · rw [List.mem_singleton.mp z]
    have dInt := (⟨ok_isInt F2 T, gl a2, k2, b2⟩ : DefAt l.prog w K mg base _ _ "is_integer" _ _ _ _)
    have dList := (⟨ok_isList F4 T, gl a4, k4, b4⟩ : DefAt l.prog w K mg base _ _ "is_list" _ _ _ _)
    have dWith := (⟨ok_within F3 dInt, gl a3, k3, b3⟩ : DefAt l.prog w K mg base _ _ "is_within" _ _ _ _)
    have dNO := (⟨ok_numsO F5 T dInt dList, gl a5, k5, b5⟩ : DefAt l.prog w K mg base _ _ "is_numbers" _ _ _ _)
    have dNL := (⟨ok_numsL F5 T dInt dList, gl a5, k5, b5⟩ : DefAt l.prog w K mg base _ _ "is_numbers" _ _ _ _)
    have dNT := (⟨ok_numsT F5 T dInt dList, gl a5, k5, b5⟩ : DefAt l.prog w K mg base _ _ "is_numbers" _ _ _ _)
    have eR' : ErrAt l.prog w K mg base "BadRing" "part" eR fm5 _ := ⟨oeR, am5, tim5, nfeRpart, gl aeR, bm5, ok_badRingI Fm5⟩
    have eL' : ErrAt l.prog w K mg base "BadLot" "part" eL fm6 _ := ⟨oeL, am6, tim6, nfeLpart, gl aeL, bm6, ok_badLotI Fm6⟩
    have eN' : ErrAt l.prog w K mg base "NoBar" "value" eN fm7 _ := ⟨oeN, am7, tim7, nfeNvalue, gl aeN, bm7, ok_missingI Fm7⟩
    have eT' : ErrAt l.prog w K mg base "Twice" "value" eT fm8 _ := ⟨oeT, am8, tim8, nfeTvalue, gl aeT, bm8, ok_twiceI Fm8⟩
    have eU' : ErrAt l.prog w K mg base "BadLineUp" "part" eU fm9 _ := ⟨oeU, am9, tim9, nfeUpart, gl aeU, bm9, ok_badLineUpI Fm9⟩
    have eM' : ErrAt l.prog w K mg base "Misfit" "part" eM fm10 _ := ⟨oeM, am10, tim10, nfeMpart, gl aeM, bm10, ok_misfitI Fm10⟩
    have eG' : ErrAt l.prog w K mg base "TooLong" "bar" eG fm11 _ := ⟨oeG, am11, tim11, nfeGbar, gl aeG, bm11, ok_tooLongI Fm11⟩
    have dFx := (⟨ok_fixed F6 T, gl a6, k6, b6⟩ : DefAt l.prog w K mg base _ _ "fixed" _ _ _ _)
    have dAtL := (⟨ok_taL F8 T dFx, gl a8, k8, b8⟩ : DefAt l.prog w K mg base _ _ "twice_at" _ _ _ _)
    have dAtT := (⟨ok_taT F8 T dFx, gl a8, k8, b8⟩ : DefAt l.prog w K mg base _ _ "twice_at" _ _ _ _)
    have dTwL := (⟨ok_twL F7 dFx dAtL, gl a7, k7, b7⟩ : DefAt l.prog w K mg base _ _ "first_twice" _ _ _ _)
    have dTwT := (⟨ok_twT F7 dFx dAtT, gl a7, k7, b7⟩ : DefAt l.prog w K mg base _ _ "first_twice" _ _ _ _)
    have dF2 := at_fz (P := l.prog) (w := w) (base := base) F6 T (gl a6) k6 b6 2
    have dFzI := (⟨ok_fzI F6 T NS, gl a6, k6, b6⟩ : DefAt l.prog w K mg base _ _ "fixed" _ _ _ _)
    have dFzT := (⟨ok_fzT F6 T dFzI, gl a6, k6, b6⟩ : DefAt l.prog w K mg base _ _ "fixed" _ _ _ _)
    have dWB := (⟨ok_wantBar F10 dWith eN', gl a10, k10, b10⟩ : DefAt l.prog w K mg base _ _ "want_bar" _ _ _ _)
    have w1 := ok_wlO (c := ⟨eL, eN, eT⟩) F11 T dNO dWB dTwL eL' eT'
    have w2 := ok_wlL (c := ⟨eL, eN, eT⟩) F11 T dNL dWB dTwL eL' eT'
    have w3 := ok_wlT (c := ⟨eL, eN, eT⟩) F11 T dNT dWB dTwT eL' eT'
    have dWLt := (⟨ok_wl w1 w2 w3, gl a11, k11, b11⟩ : DefAt l.prog w K mg base _ _ "want_lot" _ _ _ _)
    have dSB := (⟨ok_sortBy F13, gl a13, k13, b13⟩ : DefAt l.prog w K mg base _ _ "sort_by" _ _ _ _)
    have dAL := (⟨ok_areL F14 T N dWith dList, gl a14, k14, b14⟩ : DefAt l.prog w K mg base _ _ "are_lengths" _ _ _ _)
    have dHL := (⟨ok_hasL F15 T, gl a15, k15, b15⟩ : DefAt l.prog w K mg base _ _ "has_level" _ _ _ _)
    have dNum := (⟨ok_numV F9 dWith, gl a9, k9, b9⟩ : DefAt l.prog w K mg base _ _ "want_number" _ _ _ _)
    have Gp : RingP l.prog w K mg base C fm0 _ := ⟨⟨rC_mk, am0, im0, rC_kc⟩, ok_ri (P := l.prog) (w := w) (base := base) Fm0 T N R dAL dHL, bm0⟩
    have NL := ok_rlen (P := l.prog) (w := w) (base := base) Fm1 T R
    have NM : Meth K C "__len__" fm1 := ⟨am1, im1, km1⟩
    have gLO := ok_lenOf (P := l.prog) (w := w) (base := base) Fm2 T R dWLt
    have gSO := ok_sortOf (P := l.prog) (w := w) (base := base) Fm3 R ⟨am2, im2, km2⟩ gLO bm2 dSB
    have MS : MethV l.prog w K mg base C "sort_of" _ _ fm3 _ := ⟨⟨am3, im3, km3⟩, ok_sortVal gSO, bm3⟩
    have dWR := (⟨ok_wantR F16 T R eR', gl a16, k16, b16⟩ : DefAt l.prog w K mg base _ _ "want_ring" _ _ _ _)
    have dIO := (⟨ok_inOrd F20 T tb2 hm2 hu2, gl a20, k20, b20⟩ : DefAt l.prog w K mg base _ _ "in_order" _ _ _ _)
    have dLO := (⟨ok_lotsOf F17 T N dNum dIO, gl a17, k17, b17⟩ : DefAt l.prog w K mg base _ _ "lots_of" _ _ _ _)
    have dBY := (⟨ok_by F21 T R dLO MS NM NL bm1, gl a21, k21, b21⟩ : DefAt l.prog w K mg base _ _ "lots_by_sort" _ _ _ _)
    have dLV := (⟨ok_level F18 dWR dBY, gl a18, k18, b18⟩ : DefAt l.prog w K mg base _ _ "level_lots" _ _ _ _)
    have dLVc := (⟨fn_calm dLV.ok, gl a18, k18, b18⟩ : DefAt l.prog w K mg base _ _ "level_lots" _ _ _ _)
    have dTL := (⟨ok_tooL F19 T R dWR, gl a19, k19, b19⟩ : DefAt l.prog w K mg base _ _ "too_long" _ _ _ _)
    have dWC := (⟨ok_wc F22 dTL eG', gl a22, k22, b22⟩ : DefAt l.prog w K mg base _ _ "want_closed" _ _ _ _)
    have dIS := (⟨ok_is F24 T dList dNT, gl a24, k24, b24⟩ : DefAt l.prog w K mg base _ _ "is_strand" _ _ _ _)
    have dASs := (⟨ok_asS F25 T, gl a25, k25, b25⟩ : DefAt l.prog w K mg base _ _ "as_strand" _ _ _ _)
    have dAre := (⟨ok_are F23 T N dList dIS, gl a23, k23, b23⟩ : DefAt l.prog w K mg base _ _ "are_strands" _ _ _ _)
    have Lp : LineP l.prog w K mg base CL fm4 _ := ⟨⟨rCL_mk, am4, im4, rCL_kc⟩, ok_lu (P := l.prog) (w := w) (base := base) Fm4 T RL dAre dASs dF2, bm4⟩
    have dWM := (⟨ok_asM F12 eM', gl a12, k12, b12⟩ : DefAt l.prog w K mg base _ _ "want_as_many" _ _ _ _)
    have dWU := (⟨ok_wantU F34 T (gl aCL) EL eU', gl a34, k34, b34⟩ : DefAt l.prog w K mg base _ _ "want_lineup" _ _ _ _)
    have dWL := (⟨ok_wld F35 T RL NM NL bm1 dWR dWU dWM, gl a35, k35, b35⟩ : DefAt l.prog w K mg base _ _ "want_lined" _ _ _ _)
    have dNe := (⟨ok_nets F28 T R RL, gl a28, k28, b28⟩ : DefAt l.prog w K mg base _ _ "nets_of" _ _ _ _)
    have dTG := (⟨ok_tg F29 T, gl a29, k29, b29⟩ : DefAt l.prog w K mg base _ _ "too_great" _ _ _ _)
    have FPi := fun_mk (st := sPaperInit) lPi cPi kPi
    have PI1 := ok_pi (P := l.prog) (w := w) (mg := mg) (base := base) (n := 1) FPi dF2
    have PIM := ok_pim (P := l.prog) (w := w) (mg := mg) (base := base) FPi RM.pc dFzT
    have FEiN : FunS K "__init__" "Nets.__init__" sNetsInit fEN cEN ccEN _ := ⟨⟨_, _, _, _, _, _, _, _, rfl, lEiN, cEiN⟩, kEiN⟩
    have bEiN := FEiN.binds (ps := ["self", "nets"]) fun _ _ _ _ _ us hl => match us, hl with | [_, _], _ => rfl
    have SAN : SupAt l.prog K mg (nfS sNetsInit "__init__" "Nets.__init__" ccEN cEN) fEN CN ccEN := ⟨rfl, ⟨_, rfl, rfl⟩, ⟨_, _, _, _, _, _, loEN, vsE2N, fiEN⟩, ⟨_, _, _, ceEN⟩, (let ⟨cd, hc, _⟩ := PySem.W.any_some clN.hd; ⟨cd, hc⟩), PySem.W.mg_none_of X G z_super, topS, show (defScope sNetsInit).names.lookup ("super" : Str) = some .globalImplicit by decide +kernel⟩
    have STN : SupTo K CN CN fPi := ⟨mEEN, thE, toEN, tyP, fnP⟩
    have FEiG : FunS K "__init__" "TooGreat.__init__" sTooGreatInit fEG cEG ccEG _ := ⟨⟨_, _, _, _, _, _, _, _, rfl, lEiG, cEiG⟩, kEiG⟩
    have bEiG := FEiG.binds (ps := ["self", "lot", "net", "others"]) fun _ _ _ _ _ us hl => match us, hl with | [_, _, _, _], _ => rfl
    have SAG : SupAt l.prog K mg (nfS sTooGreatInit "__init__" "TooGreat.__init__" ccEG cEG) fEG CG ccEG := ⟨rfl, ⟨_, rfl, rfl⟩, ⟨_, _, _, _, _, _, loEG, vsE2G, fiEG⟩, ⟨_, _, _, ceEG⟩, (let ⟨cd, hc, _⟩ := PySem.W.any_some clG.hd; ⟨cd, hc⟩), PySem.W.mg_none_of X G z_super, topS, show (defScope sTooGreatInit).names.lookup ("super" : Str) = some .globalImplicit by decide +kernel⟩
    have STG : SupTo K CG CG fPi := ⟨mEEG, thE, toEG, tyP, fnP⟩
    have FEiM : FunS K "__init__" "Most.__init__" sMostInit fEM cEM ccEM _ := ⟨⟨_, _, _, _, _, _, _, _, rfl, lEiM, cEiM⟩, kEiM⟩
    have bEiM := FEiM.binds (ps := ["self", "lineup"]) fun _ _ _ _ _ us hl => match us, hl with | [_, _], _ => rfl
    have SAM : SupAt l.prog K mg (nfS sMostInit "__init__" "Most.__init__" ccEM cEM) fEM CM ccEM := ⟨rfl, ⟨_, rfl, rfl⟩, ⟨_, _, _, _, _, _, loEM, vsE2M, fiEM⟩, ⟨_, _, _, ceEM⟩, (let ⟨cd, hc, _⟩ := PySem.W.any_some clM.hd; ⟨cd, hc⟩), PySem.W.mg_none_of X G z_super, topS, show (defScope sMostInit).names.lookup ("super" : Str) = some .globalImplicit by decide +kernel⟩
    have STM : SupTo K CM CM fPi := ⟨mEEM, thE, toEM, tyP, fnP⟩
    have NP : NetsP l.prog w K mg base CN fEN _ := ⟨⟨rCN_mk, aEiN, iEiN, rCN_kc⟩, ok_ni (P := l.prog) (w := w) (base := base) (n := 1) FEiN SAN RN STN PI1, bEiN⟩
    have GP : TooGreatP l.prog w K mg base CG fEG _ := ⟨⟨rCG_mk, aEiG, iEiG, rCG_kc⟩, ok_gi (P := l.prog) (w := w) (base := base) (n := 1) FEiG SAG TGC STG PI1, bEiG⟩
    have MP : MostP l.prog w K mg base CM CL fEM _ := ⟨⟨rCM_mk, aEiM, iEiM, rCM_kc⟩, ok_mi (P := l.prog) (w := w) (base := base) FEiM SAM RM STM PIM, bEiM⟩
    have dCL := (⟨ok_cl F26 T RL RN TGC NP GP dWL dNe dTG, gl a26, k26, b26⟩ : DefAt l.prog w K mg base _ _ "can_line" _ _ _ _)
    have dCLc := (⟨ok_clc dCL.ok, gl a26, k26, b26⟩ : DefAt l.prog w K mg base _ _ "can_line" _ _ _ _)
    have dWS := (⟨ok_ws F33, gl a33, k33, b33⟩ : DefAt l.prog w K mg base _ _ "with_sign" _ _ _ _)
    have dCH := (⟨ok_ch F32 T dWS, gl a32, k32, b32⟩ : DefAt l.prog w K mg base _ _ "choices" _ _ _ _)
    have dIH := (⟨ok_ih F30 T dNe dTG, gl a30, k30, b30⟩ : DefAt l.prog w K mg base _ _ "is_had" _ _ _ _)
    have dFS := (⟨ok_fs F31 T Lp RL dCH dNe dTG, gl a31, k31, b31⟩ : DefAt l.prog w K mg base _ _ "first_signs" _ _ _ _)
    have dMO := (⟨ok_mo F27 T tb0 hm0 hu0 RM MP dWC dLO dFS NM NL bm1, gl a27, k27, b27⟩ : DefAt l.prog w K mg base _ _ "most_on_one" _ _ _ _)
    have dMOc := (⟨ok_moc dMO.ok, gl a27, k27, b27⟩ : DefAt l.prog w K mg base _ _ "most_on_one" _ _ _ _)
    have dIC := (⟨ok_ic F1, gl a1, k1, b1⟩ : DefAt l.prog w K mg base _ _ "is_called" _ _ _ _)
    have dMS := (⟨ok_ms F37 T dLVc NM NL bm1, gl a37, k37, b37⟩ : DefAt l.prog w K mg base _ _ "most_sizes" _ _ _ _)
    have dSM := (⟨ok_sm F36 T RL RM EM NM1 EL dWC dIC dMS dIH, gl a36, k36, b36⟩ : DefAt l.prog w K mg base _ _ "shows_most" _ _ _ _)
    have dSMc := (⟨ok_smc dSM.ok, gl a36, k36, b36⟩ : DefAt l.prog w K mg base _ _ "shows_most" _ _ _ _)
    have LQ : LineQ l.prog w K mg base CL fm12 _ := ⟨ok_lq Fm12 T RL EL, neL, suL, am12, im12, bm12⟩
    have dAE := (⟨ok_aem F0 RM EM NM1 LQ, gl a0, k0, b0⟩ : DefAt l.prog w K mg base _ _ "are_equal" _ _ _ _)
    have MQ : MostQ l.prog w K mg base CM CL fm13 _ := ⟨ok_pem Fm13 T (gl aPa) kMP EM dAE, neM, suM, am13, im13, bm13⟩
    have BM : PapB l.prog w K mg base CM fm14 _ true := ⟨ok_PBT Fm14, bm14, am14, im14⟩
    have BN : PapB l.prog w K mg base CN fm15 _ true := ⟨ok_PBT Fm15, bm15, am15, im15⟩
    have BG : PapB l.prog w K mg base CG fm16 _ false := ⟨ok_PBF Fm16, bm16, am16, im16⟩
    have kmo : KBinds K _ ["ring"] ["ring"] gK1 gK1 := kb_one (fun b s => .of_eq rfl) (fd := PySem.W.fnOf "most_on_one" "most_on_one" (defArgs sMostOnOne) (defBody sMostOnOne) (defScope sMostOnOne) .none kV27 dc27 pm27 an27 (.ref cMO) ct27)
    have ksm : KBinds K _ ["ring", "value"] ["value", "ring"] gK2 gK2 := kb_vr (fun a b s => .of_eq rfl) (fd := PySem.W.fnOf "shows_most" "shows_most" (defArgs sShowsMost) (defBody sShowsMost) (defScope sShowsMost) .none kV36 dc36 pm36 an36 cd36 ct36)
    have kbm : KBn K _ ["self", "lineup"] 1 ["lineup"] gM2 gM2 := kbn_two (fd := PySem.W.fnX "__init__" "Most.__init__" (defArgs sMostInit) (defBody sMostInit) (defScope sMostInit) [(("__class__" : Str), ccEM)] .none kVEM dcEM pmEM anEM (.ref cEM) ctEM) (fun a b s => .of_eq rfl)
    have dDr : DrawAt l.prog w K mg base _ _ := ⟨ok_draw F39 T, gl a39, k39, b39⟩
    have dPn := (⟨ok_pen F38 T, gl a38, k38, b38⟩ : DefAt l.prog w K mg base _ _ "_law_bench" _ _ _ _)
    have dPk := (⟨ok_pick F40 T dDr, gl a40, k40, b40⟩ : DefAt l.prog w K mg base _ _ "_law_pick" _ _ _ _)
    have dLn := (⟨ok_lengths F41 T dDr, gl a41, k41, b41⟩ : DefAt l.prog w K mg base _ _ "_law_lengths" _ _ _ _)
    have dIHD := (⟨ok_ihd F42 T, gl a42, k42, b42⟩ : DefAt l.prog w K mg base _ _ "_law_is_had" _ _ _ _)
    have dLT := (⟨ok_lt F43 T, gl a43, k43, b43⟩ : DefAt l.prog w K mg base _ _ "_law_lots" _ _ _ _)
    have dRW := (⟨ok_rw F44 T, gl a44, k44, b44⟩ : DefAt l.prog w K mg base _ _ "_law_rows" _ _ _ _)
    have dWD := (⟨ok_wd F45 T B2 dLT dRW dIHD, gl a45, k45, b45⟩ : DefAt l.prog w K mg base _ _ "_law_wide" _ _ _ _)
    have dLVL := (⟨ok_lvl F46 T B2, gl a46, k46, b46⟩ : DefAt l.prog w K mg base _ _ "_law_is_level" _ _ _ _)
    have dMR := (⟨ok_mr F47 T B2 Gp R Lp RL MP RM kbm EL EM dLVL dWD dMOc kmo dSMc ksm dCLc LQ MQ BM BN BG dPk dLT dRW dIHD, gl a47, k47, b47⟩ : DefAt l.prog w K mg base _ _ "_law_most_right" _ _ _ _)
    exact ok_law (hc := ⟨eR, eG⟩) F49 T Gp R KT dPn dLn dPk dMR dMO dSM Hc tb1 hm1 hu1 F48 b48 (gl a48)
end K
local macro_rules | `(tactic| o_head ($_:ident $k $a $_ $ts)) => `(tactic| refine K.head53 (Kf := $k) (as := $a) (ts := $ts) (fun _ => by kernel_rfl) (fun w os => by kernel_rfl) ?$(Lean.mkIdent `hw) ?$(Lean.mkIdent `hc))
open PySem PySem.W PyProof.Rows in
set_option maxRecDepth 100000 in
set_option maxHeartbeats 0 in
theorem PySem.Challenge.cw_ringbars_k53_most_bars_on_one_line_holds : PySem.Challenge.rw_ringbars_k53_most_bars_on_one_line.Holds := by
  w_on; o_law; k_head; (case hw => w_witness2)
  k_fill
  refine LamX.walk_ofTs (l := PySem.Challenge.rw_ringbars_k53_most_bars_on_one_line) (n := 63) (k := 13) (x := "_law_script") (CX := fun _ => L2.CX0) rfl (by decide) rfl ⟨rfl, by decide, by decide⟩ (fun w h Y => K.kk_in_of Y) ?F (fun _ _ _ _ _ z => z)
  case F =>
    intro w mg fa h Y KX G hmg
    rw [K.d53_name] at hmg
    refine' K.all_mk KX G hmg ?aC ?aCL ?aCN ?aCG ?aCM ?aeX ?aeR ?aeL ?aeN ?aeT ?aeU ?aeM ?aeG ?a0 ?l0 ?c0 ?k0 ?a1 ?l1 ?c1 ?k1 ?a2 ?l2 ?c2 ?k2 ?a3 ?l3 ?c3 ?k3 ?a4 ?l4 ?c4 ?k4 ?a5 ?l5 ?c5 ?k5 ?a6 ?l6 ?c6 ?k6 ?a7 ?l7 ?c7 ?k7 ?a8 ?l8 ?c8 ?k8 ?a9 ?l9 ?c9 ?k9 ?a10 ?l10 ?c10 ?k10 ?a11 ?l11 ?c11 ?k11 ?a12 ?l12 ?c12 ?k12 ?a13 ?l13 ?c13 ?k13 ?a14 ?l14 ?c14 ?k14 ?a15 ?l15 ?c15 ?k15 ?a16 ?l16 ?c16 ?k16 ?a17 ?l17 ?c17 ?k17 ?a18 ?l18 ?c18 ?k18 ?a19 ?l19 ?c19 ?k19 ?a20 ?l20 ?c20 ?k20 ?a21 ?l21 ?c21 ?k21 ?a22 ?l22 ?c22 ?k22 ?a23 ?l23 ?c23 ?k23 ?a24 ?l24 ?c24 ?k24 ?a25 ?l25 ?c25 ?k25 ?a26 ?l26 ?c26 ?k26 ?a27 ?l27 ?c27 ?k27 ?a28 ?l28 ?c28 ?k28 ?a29 ?l29 ?c29 ?k29 ?a30 ?l30 ?c30 ?k30 ?a31 ?l31 ?c31 ?k31 ?a32 ?l32 ?c32 ?k32 ?a33 ?l33 ?c33 ?k33 ?a34 ?l34 ?c34 ?k34 ?a35 ?l35 ?c35 ?k35 ?a36 ?l36 ?c36 ?k36 ?a37 ?l37 ?c37 ?k37 ?a38 ?l38 ?c38 ?k38 ?a39 ?l39 ?c39 ?k39 ?a40 ?l40 ?c40 ?k40 ?a41 ?l41 ?c41 ?k41 ?a42 ?l42 ?c42 ?k42 ?a43 ?l43 ?c43 ?k43 ?a44 ?l44 ?c44 ?k44 ?a45 ?l45 ?c45 ?k45 ?a46 ?l46 ?c46 ?k46 ?a47 ?l47 ?c47 ?k47 ?a48 ?l48 ?c48 ?k48 ?a49 ?l49 ?c49 ?k49 ?am0 ?im0 ?lm0 ?cm0 ?km0 ?am1 ?im1 ?lm1 ?cm1 ?km1 ?am2 ?im2 ?lm2 ?cm2 ?km2 ?am3 ?im3 ?lm3 ?cm3 ?km3 ?am4 ?im4 ?lm4 ?cm4 ?km4 ?am5 ?im5 ?lm5 ?cm5 ?km5 ?tim5 ?am6 ?im6 ?lm6 ?cm6 ?km6 ?tim6 ?am7 ?im7 ?lm7 ?cm7 ?km7 ?tim7 ?am8 ?im8 ?lm8 ?cm8 ?km8 ?tim8 ?am9 ?im9 ?lm9 ?cm9 ?km9 ?tim9 ?am10 ?im10 ?lm10 ?cm10 ?km10 ?tim10 ?am11 ?im11 ?lm11 ?cm11 ?km11 ?tim11 ?am12 ?im12 ?lm12 ?cm12 ?km12 ?am13 ?im13 ?lm13 ?cm13 ?km13 ?am14 ?im14 ?lm14 ?cm14 ?km14 ?am15 ?im15 ?lm15 ?cm15 ?km15 ?am16 ?im16 ?lm16 ?cm16 ?km16 ?rC_pg ?rC_hd ?rC_po ?rC_sa ?rC_mk ?rC_kc ?rC_ha ?rC_hm ?rC_n_lengths ?rC_n_total ?rC_n_closes ?rC_n_is_clear ?rCL_pg ?rCL_hd ?rCL_po ?rCL_sa ?rCL_mk ?rCL_kc ?rCL_ha ?rCL_hm ?rCL_n_strands ?rCL_n_lots ?rCL_n_many ?rCN_pg ?rCN_hd ?rCN_po ?rCN_sa ?rCN_mk ?rCN_kc ?rCN_ha ?rCN_hm ?rCN_n_word ?rCN_n_parts ?rCN_n_nets ?rCG_pg ?rCG_hd ?rCG_po ?rCG_sa ?rCG_mk ?rCG_kc ?rCG_ha ?rCG_hm ?rCG_n_word ?rCG_n_parts ?rCG_n_lot ?rCG_n_net ?rCG_n_others ?rCM_pg ?rCM_hd ?rCM_po ?rCM_sa ?rCM_mk ?rCM_kc ?rCM_ha ?rCM_hm ?rCM_n_word ?rCM_n_parts ?rCM_n_lineup ?rhn ?rht ?kN ?kI ?kS ?kL ?lL ?lT ?kgr ?kMP ?aPa ?topS ?thE ?tyP ?fnP ?lPi ?cPi ?kPi ?aEiN ?iEiN ?lEiN ?cEiN ?kEiN ?loEN ?vsE2N ?fiEN ?ceEN ?mEEN ?toEN ?aEiG ?iEiG ?lEiG ?cEiG ?kEiG ?loEG ?vsE2G ?fiEG ?ceEG ?mEEG ?toEG ?aEiM ?iEiM ?lEiM ?cEiM ?kEiM ?loEM ?vsE2M ?fiEM ?ceEM ?mEEM ?toEM ?rdM ?atM ?tyM ?lkM ?slM2 ?neM ?suM ?neL ?suL ?z_int ?z_len ?z_abs ?z_list ?z_tuple ?z_bool ?z_range ?z_sum ?z_max ?z_all ?z_any ?z_sorted ?z_enumerate ?z_isinstance ?z_super ?z_zip ?z_set ?g_MOST_LENGTH ?g_LEAST_BARS ?g_MOST_BARS ?xeR ?rveR ?saeR ?eCeR ?tCeR ?kCeR ?nfeRpart ?gaeR ?ggeR ?hdeR ?haeR ?hmeR ?sbeR ?xeL ?rveL ?saeL ?eCeL ?tCeL ?kCeL ?nfeLpart ?xeN ?rveN ?saeN ?eCeN ?tCeN ?kCeN ?nfeNvalue ?xeT ?rveT ?saeT ?eCeT ?tCeT ?kCeT ?nfeTvalue ?xeU ?rveU ?saeU ?eCeU ?tCeU ?kCeU ?nfeUpart ?xeM ?rveM ?saeM ?eCeM ?tCeM ?kCeM ?nfeMpart ?xeG ?rveG ?saeG ?eCeG ?tCeG ?kCeG ?nfeGbar ?gaeG ?ggeG ?hdeG ?haeG ?hmeG ?sbeG ?eCeX ?hdeX ?tCeX ?lc1 ?hdc1 ?nT1 ?hT1 ?lc2 ?hdc2 ?nT2 ?hT2 ?lc3 ?hdc3 ?nT3 ?hT3 ?nP01 ?nP02 ?nP12
    (case hT3 => exact K.kk_tabs_of Y (List.mem_cons_self ..) (by decide +kernel))
    (case hT1 => exact K.kk_tabs_of Y (List.mem_cons_of_mem _ (List.mem_cons_self ..)) (by decide +kernel))
    (case hT2 => exact K.kk_tabs_of Y (List.mem_cons_of_mem _ (List.mem_cons_of_mem _ (List.mem_cons_self ..))) (by decide +kernel))
    (case aC => k_is)
    (case aCL => k_is)
    (case aCN => k_is)
    (case aCG => k_is)
    (case aCM => k_is)
    (case aeX => k_is)
    (case aPa => k_is)
    (case aeR => k_is)
    (case aeL => k_is)
    (case aeN => k_is)
    (case aeT => k_is)
    (case aeU => k_is)
    (case aeM => k_is)
    (case aeG => k_is)
    (case a0 => k_is)
    (case l0 => k_is)
    (case c0 => k_is)
    (case k0 => k_is)
    (case a1 => k_is)
    (case l1 => k_is)
    (case c1 => k_is)
    (case k1 => k_is)
    (case a2 => k_is)
    (case l2 => k_is)
    (case c2 => k_is)
    (case k2 => k_is)
    (case a3 => k_is)
    (case l3 => k_is)
    (case c3 => k_is)
    (case k3 => k_is)
    (case a4 => k_is)
    (case l4 => k_is)
    (case c4 => k_is)
    (case k4 => k_is)
    (case a5 => k_is)
    (case l5 => k_is)
    (case c5 => k_is)
    (case k5 => k_is)
    (case a6 => k_is)
    (case l6 => k_is)
    (case c6 => k_is)
    (case k6 => k_is)
    (case a7 => k_is)
    (case l7 => k_is)
    (case c7 => k_is)
    (case k7 => k_is)
    (case a8 => k_is)
    (case l8 => k_is)
    (case c8 => k_is)
    (case k8 => k_is)
    (case a9 => k_is)
    (case l9 => k_is)
    (case c9 => k_is)
    (case k9 => k_is)
    (case a10 => k_is)
    (case l10 => k_is)
    (case c10 => k_is)
    (case k10 => k_is)
    (case a11 => k_is)
    (case l11 => k_is)
    (case c11 => k_is)
    (case k11 => k_is)
    (case a12 => k_is)
    (case l12 => k_is)
    (case c12 => k_is)
    (case k12 => k_is)
    (case a13 => k_is)
    (case l13 => k_is)
    (case c13 => k_is)
    (case k13 => k_is)
    (case a14 => k_is)
    (case l14 => k_is)
    (case c14 => k_is)
    (case k14 => k_is)
    (case a15 => k_is)
    (case l15 => k_is)
    (case c15 => k_is)
    (case k15 => k_is)
    (case a16 => k_is)
    (case l16 => k_is)
    (case c16 => k_is)
    (case k16 => k_is)
    (case a17 => k_is)
    (case l17 => k_is)
    (case c17 => k_is)
    (case k17 => k_is)
    (case a18 => k_is)
    (case l18 => k_is)
    (case c18 => k_is)
    (case k18 => k_is)
    (case a19 => k_is)
    (case l19 => k_is)
    (case c19 => k_is)
    (case k19 => k_is)
    (case a20 => k_is)
    (case l20 => k_is)
    (case c20 => k_is)
    (case k20 => k_is)
    (case a21 => k_is)
    (case l21 => k_is)
    (case c21 => k_is)
    (case k21 => k_is)
    (case a22 => k_is)
    (case l22 => k_is)
    (case c22 => k_is)
    (case k22 => k_is)
    (case a23 => k_is)
    (case l23 => k_is)
    (case c23 => k_is)
    (case k23 => k_is)
    (case a24 => k_is)
    (case l24 => k_is)
    (case c24 => k_is)
    (case k24 => k_is)
    (case a25 => k_is)
    (case l25 => k_is)
    (case c25 => k_is)
    (case k25 => k_is)
    (case a26 => k_is)
    (case l26 => k_is)
    (case c26 => k_is)
    (case k26 => k_is)
    (case a27 => k_is)
    (case l27 => k_is)
    (case c27 => k_is)
    (case k27 => k_is)
    (case a28 => k_is)
    (case l28 => k_is)
    (case c28 => k_is)
    (case k28 => k_is)
    (case a29 => k_is)
    (case l29 => k_is)
    (case c29 => k_is)
    (case k29 => k_is)
    (case a30 => k_is)
    (case l30 => k_is)
    (case c30 => k_is)
    (case k30 => k_is)
    (case a31 => k_is)
    (case l31 => k_is)
    (case c31 => k_is)
    (case k31 => k_is)
    (case a32 => k_is)
    (case l32 => k_is)
    (case c32 => k_is)
    (case k32 => k_is)
    (case a33 => k_is)
    (case l33 => k_is)
    (case c33 => k_is)
    (case k33 => k_is)
    (case a34 => k_is)
    (case l34 => k_is)
    (case c34 => k_is)
    (case k34 => k_is)
    (case a35 => k_is)
    (case l35 => k_is)
    (case c35 => k_is)
    (case k35 => k_is)
    (case a36 => k_is)
    (case l36 => k_is)
    (case c36 => k_is)
    (case k36 => k_is)
    (case a37 => k_is)
    (case l37 => k_is)
    (case c37 => k_is)
    (case k37 => k_is)
    (case a38 => k_is)
    (case l38 => k_is)
    (case c38 => k_is)
    (case k38 => k_is)
    (case a39 => k_is)
    (case l39 => k_is)
    (case c39 => k_is)
    (case k39 => k_is)
    (case a40 => k_is)
    (case l40 => k_is)
    (case c40 => k_is)
    (case k40 => k_is)
    (case a41 => k_is)
    (case l41 => k_is)
    (case c41 => k_is)
    (case k41 => k_is)
    (case a42 => k_is)
    (case l42 => k_is)
    (case c42 => k_is)
    (case k42 => k_is)
    (case a43 => k_is)
    (case l43 => k_is)
    (case c43 => k_is)
    (case k43 => k_is)
    (case a44 => k_is)
    (case l44 => k_is)
    (case c44 => k_is)
    (case k44 => k_is)
    (case a45 => k_is)
    (case l45 => k_is)
    (case c45 => k_is)
    (case k45 => k_is)
    (case a46 => k_is)
    (case l46 => k_is)
    (case c46 => k_is)
    (case k46 => k_is)
    (case a47 => k_is)
    (case l47 => k_is)
    (case c47 => k_is)
    (case k47 => k_is)
    (case a48 => k_is)
    (case l48 => k_is)
    (case c48 => k_is)
    (case k48 => k_is)
    (case a49 => k_is)
    (case l49 => k_is)
    (case c49 => k_is)
    (case k49 => k_is)
    (case am0 => k_is)
    (case im0 => k_is)
    (case lm0 => k_is)
    (case cm0 => k_is)
    (case km0 => k_is)
    (case am1 => k_is)
    (case im1 => k_is)
    (case lm1 => k_is)
    (case cm1 => k_is)
    (case km1 => k_is)
    (case am2 => k_is)
    (case im2 => k_is)
    (case lm2 => k_is)
    (case cm2 => k_is)
    (case km2 => k_is)
    (case am3 => k_is)
    (case im3 => k_is)
    (case lm3 => k_is)
    (case cm3 => k_is)
    (case km3 => k_is)
    (case am4 => k_is)
    (case im4 => k_is)
    (case lm4 => k_is)
    (case cm4 => k_is)
    (case km4 => k_is)
    (case am5 => k_is)
    (case im5 => k_is)
    (case lm5 => k_is)
    (case cm5 => k_is)
    (case km5 => k_is)
    (case tim5 => k_is)
    (case am6 => k_is)
    (case im6 => k_is)
    (case lm6 => k_is)
    (case cm6 => k_is)
    (case km6 => k_is)
    (case tim6 => k_is)
    (case am7 => k_is)
    (case im7 => k_is)
    (case lm7 => k_is)
    (case cm7 => k_is)
    (case km7 => k_is)
    (case tim7 => k_is)
    (case am8 => k_is)
    (case im8 => k_is)
    (case lm8 => k_is)
    (case cm8 => k_is)
    (case km8 => k_is)
    (case tim8 => k_is)
    (case am9 => k_is)
    (case im9 => k_is)
    (case lm9 => k_is)
    (case cm9 => k_is)
    (case km9 => k_is)
    (case tim9 => k_is)
    (case am10 => k_is)
    (case im10 => k_is)
    (case lm10 => k_is)
    (case cm10 => k_is)
    (case km10 => k_is)
    (case tim10 => k_is)
    (case am11 => k_is)
    (case im11 => k_is)
    (case lm11 => k_is)
    (case cm11 => k_is)
    (case km11 => k_is)
    (case tim11 => k_is)
    (case am12 => k_is)
    (case im12 => k_is)
    (case lm12 => k_is)
    (case cm12 => k_is)
    (case km12 => k_is)
    (case am13 => k_is)
    (case im13 => k_is)
    (case lm13 => k_is)
    (case cm13 => k_is)
    (case km13 => k_is)
    (case am14 => k_is)
    (case im14 => k_is)
    (case lm14 => k_is)
    (case cm14 => k_is)
    (case km14 => k_is)
    (case am15 => k_is)
    (case im15 => k_is)
    (case lm15 => k_is)
    (case cm15 => k_is)
    (case km15 => k_is)
    (case am16 => k_is)
    (case im16 => k_is)
    (case lm16 => k_is)
    (case cm16 => k_is)
    (case km16 => k_is)
    (case rC_pg => k_is)
    (case rC_hd => k_is)
    (case rC_po => k_is)
    (case rC_sa => k_is)
    (case rC_mk => k_is)
    (case rC_kc => k_is)
    (case rC_ha => k_is)
    (case rC_hm => k_is)
    (case rC_n_lengths => k_is)
    (case rC_n_total => k_is)
    (case rC_n_closes => k_is)
    (case rC_n_is_clear => k_is)
    (case rCL_pg => k_is)
    (case rCL_hd => k_is)
    (case rCL_po => k_is)
    (case rCL_sa => k_is)
    (case rCL_mk => k_is)
    (case rCL_kc => k_is)
    (case rCL_ha => k_is)
    (case rCL_hm => k_is)
    (case rCL_n_strands => k_is)
    (case rCL_n_lots => k_is)
    (case rCL_n_many => k_is)
    (case rCN_pg => k_is)
    (case rCN_hd => k_is)
    (case rCN_po => k_is)
    (case rCN_sa => k_is)
    (case rCN_mk => k_is)
    (case rCN_kc => k_is)
    (case rCN_ha => k_is)
    (case rCN_hm => k_is)
    (case rCN_n_word => k_is)
    (case rCN_n_parts => k_is)
    (case rCN_n_nets => k_is)
    (case rCG_pg => k_is)
    (case rCG_hd => k_is)
    (case rCG_po => k_is)
    (case rCG_sa => k_is)
    (case rCG_mk => k_is)
    (case rCG_kc => k_is)
    (case rCG_ha => k_is)
    (case rCG_hm => k_is)
    (case rCG_n_word => k_is)
    (case rCG_n_parts => k_is)
    (case rCG_n_lot => k_is)
    (case rCG_n_net => k_is)
    (case rCG_n_others => k_is)
    (case rCM_pg => k_is)
    (case rCM_hd => k_is)
    (case rCM_po => k_is)
    (case rCM_sa => k_is)
    (case rCM_mk => k_is)
    (case rCM_kc => k_is)
    (case rCM_ha => k_is)
    (case rCM_hm => k_is)
    (case rCM_n_word => k_is)
    (case rCM_n_parts => k_is)
    (case rCM_n_lineup => k_is)
    (case rhn => k_is)
    (case rht => k_is)
    (case kN => kit_is)
    (case kI => kit_is)
    (case kS => kit_is)
    (case kL => kit_is)
    (case lL => kit_is)
    (case lT => kit_is)
    (case kgr => kit_is)
    (case kMP => kit_is)
    (case topS => first | rfl | decide +kernel)
    (case thE => k_is)
    (case aEiN => k_is)
    (case iEiN => k_is)
    (case lEiN => k_is)
    (case cEiN => k_is)
    (case kEiN => k_is)
    (case loEN => k_is)
    (case vsE2N => rfl)
    (case fiEN => first | rfl | decide +kernel)
    (case ceEN => k_is)
    (case mEEN => k_is)
    (case toEN => ks_is)
    (case tyP => k_is)
    (case fnP => k_is)
    (case lPi => k_is)
    (case cPi => k_is)
    (case kPi => k_is)
    (case aEiG => k_is)
    (case iEiG => k_is)
    (case lEiG => k_is)
    (case cEiG => k_is)
    (case kEiG => k_is)
    (case loEG => k_is)
    (case vsE2G => rfl)
    (case fiEG => first | rfl | decide +kernel)
    (case ceEG => k_is)
    (case mEEG => k_is)
    (case toEG => ks_is)
    (case aEiM => k_is)
    (case iEiM => k_is)
    (case lEiM => k_is)
    (case cEiM => k_is)
    (case kEiM => k_is)
    (case loEM => k_is)
    (case vsE2M => rfl)
    (case fiEM => first | rfl | decide +kernel)
    (case ceEM => k_is)
    (case mEEM => k_is)
    (case toEM => ks_is)
    (case rdM => k_is)
    (case atM => k_is)
    (case tyM => k_is)
    (case lkM => k_is)
    (case slM2 => rfl)
    (case neM => k_is)
    (case suM => k_is)
    (case neL => k_is)
    (case suL => k_is)
    (case z_int => k_is)
    (case z_len => k_is)
    (case z_abs => k_is)
    (case z_list => k_is)
    (case z_tuple => k_is)
    (case z_bool => k_is)
    (case z_range => k_is)
    (case z_sum => k_is)
    (case z_max => k_is)
    (case z_all => k_is)
    (case z_any => k_is)
    (case z_sorted => k_is)
    (case z_enumerate => k_is)
    (case z_isinstance => k_is)
    (case z_super => k_is)
    (case z_zip => k_is)
    (case z_set => k_is)
    (case g_MOST_LENGTH => k_is)
    (case g_LEAST_BARS => k_is)
    (case g_MOST_BARS => k_is)
    (case xeR => k_is)
    (case rveR => first | (with_reducible rfl) | decide +kernel | k_is)
    (case saeR => k_is)
    (case eCeR => k_is)
    (case tCeR => k_is)
    (case kCeR => k_is)
    (case nfeRpart => k_is)
    (case gaeR => k_is)
    (case ggeR => k_is)
    (case hdeR => k_is)
    (case haeR => k_is)
    (case hmeR => k_is)
    (case sbeR => k_is)
    (case xeL => k_is)
    (case rveL => first | (with_reducible rfl) | decide +kernel | k_is)
    (case saeL => k_is)
    (case eCeL => k_is)
    (case tCeL => k_is)
    (case kCeL => k_is)
    (case nfeLpart => k_is)
    (case xeN => k_is)
    (case rveN => first | (with_reducible rfl) | decide +kernel | k_is)
    (case saeN => k_is)
    (case eCeN => k_is)
    (case tCeN => k_is)
    (case kCeN => k_is)
    (case nfeNvalue => k_is)
    (case xeT => k_is)
    (case rveT => first | (with_reducible rfl) | decide +kernel | k_is)
    (case saeT => k_is)
    (case eCeT => k_is)
    (case tCeT => k_is)
    (case kCeT => k_is)
    (case nfeTvalue => k_is)
    (case xeU => k_is)
    (case rveU => first | (with_reducible rfl) | decide +kernel | k_is)
    (case saeU => k_is)
    (case eCeU => k_is)
    (case tCeU => k_is)
    (case kCeU => k_is)
    (case nfeUpart => k_is)
    (case xeM => k_is)
    (case rveM => first | (with_reducible rfl) | decide +kernel | k_is)
    (case saeM => k_is)
    (case eCeM => k_is)
    (case tCeM => k_is)
    (case kCeM => k_is)
    (case nfeMpart => k_is)
    (case xeG => k_is)
    (case rveG => first | (with_reducible rfl) | decide +kernel | k_is)
    (case saeG => k_is)
    (case eCeG => k_is)
    (case tCeG => k_is)
    (case kCeG => k_is)
    (case nfeGbar => k_is)
    (case gaeG => k_is)
    (case ggeG => k_is)
    (case hdeG => k_is)
    (case haeG => k_is)
    (case hmeG => k_is)
    (case sbeG => k_is)
    (case eCeX => k_is)
    (case hdeX => k_is)
    (case tCeX => k_is)
    (case lc1 => k_is)
    (case hdc1 => first | rfl | decide +kernel | with_unfolding_all rfl)
    (case nT1 => exact K.kk_out_of Y (by decide +kernel))
    (case lc2 => k_is)
    (case hdc2 => first | rfl | decide +kernel | with_unfolding_all rfl)
    (case nT2 => exact K.kk_out_of Y (by decide +kernel))
    (case lc3 => k_is)
    (case hdc3 => first | rfl | decide +kernel | with_unfolding_all rfl)
    (case nT3 => exact K.kk_out_of Y (by decide +kernel))
    (case nP01 => decide)
    (case nP02 => decide)
    (case nP12 => decide)
