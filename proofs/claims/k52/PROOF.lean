import PyProof.Rows.All
import Wide.All
import OpenK.AllK
import Wide.FinOn
import HandS.ForMost
import HandS.IsInst
import HandS.Strs
import HandS.ExcInit
import HandS.ExcField
import HandS.ExcIs
import HandS.TryOnly
import HandS.Lambda
import HandS.EndTab
import HandS.Flow
import HandS.SortInts
import HandS.SortRule
import HandS.SortKw
import KE.KTupSum
import HandS.NamedTupSort
import PyProof.P3Eq
import HandS.ReCall
import HandS.OwnEq
import HandS.TupAny
import HandS.Deep
import PyProof.InstNe
import KE.SortKeyHeap
import HandS.Walk
import KE.GoesEnum
import HandS.Evl
import HandS.WordsExc
import KE.KExcIs
import HandS.DictComp
import KE.GoesZip
import KE.KDictZip
import HandS.Zip
import PyProof.P3In
import HandS.Conv
import HandS.Style
import HandS.Codes
import HandS.Star
import KE.KTypeName
import KE.KSuper
import HandS.ClsMeth
import HandS.Nested
import HandS.Records
import HandS.Words
import KE.SortData
import HandS.SetFor
import PyProof.Rows.SetFrom
import PyProof.Rows.Range3
import PyProof.Conv_bool
import PyProof.NeKinds
import HandS.CallLocal
import HandS.Comp
import HandS.Exc
import KE.SortCalls
import PyProof.ReprRoads
import PyProof.CallFns
import HandS.MakeKwOnly
import HandS.RaiseMore
import HandS.Dict
import KE.KNestM
import KE.OsRunLaw
import PySem.Challenge.RW_ringbars_k52_signs_for_told_lots
set_option Elab.async false
set_option linter.all false
set_option maxRecDepth 100000
set_option maxHeartbeats 4000000
/-! ## rules of our own, for what the rings' program says and the layer has no rule for -/
namespace Rg
open PySem PySem.Spec PyProof.Rows L2

/-! ### f(k = v, ..), oj.m(k = v, ..) -/
section
variable {X : Cx} {CX : CXT} {k : Nat} {f C : Addr} {fd : FuncData} {ps ks : List Str} {sp : Sp} {E : XK} {x m : Str} {p pos apos : Pos} {oj : Expr} {kws : List Keyword} {ta : TE} {tkn : TA}
variable {g : List Value → List Value → List Value} {gV : List V → List V → List V}
theorem pe_callK0 (F : FnOk X.prog X.w X.K X.mg X.base CX k f fd ps sp) (hr : Room k X.A) (hg : Gl X x) (hmm : X.mg x = some (.ref f)) (hk : PySem.W.keepIn X.K (.ref f) = true) (hb : KBinds X.K fd ps ks g gV) (hx : Passes CX X E)
    (hkw : PK X kws tkn) (hall : (backToKw pos (keywordEach kws X.env)).all (·.1.isSome) = true := by rfl) (hks : (backToKw pos (keywordEach kws X.env)).filterMap (·.1) = ks := by rfl)
    (hdb : (x == ("__debug__" : Str)) = false := by decide)
    (hpl : ((backTo pos (starEach [] X.env)).any (·.1) || (backToKw pos (keywordEach kws X.env)).any (·.1.isNone)) = false := by rfl) :
    PE X (.Call (.Name x p) [] kws pos) (tCallK sp gV E tNil tkn) := by
  refine ⟨fun pns s σs Hh Qq Iv h => ?_⟩
  refine wpAny_Call_Name_kw (ld_glob Iv hg hmm ?_ hdb)
  refine PySem.W.callWith_KW0 (h₀ := X.base) Iv.ok.mod.kin hk hall ?_ hpl
  refine thn (hkw.run pos pns s σs Hh _ Iv h) fun kvs2 sh2 ⟨zvs, H2, I2, rlz, q2⟩ => ⟨I2.kIn, ?_⟩
  rw [hks]
  exact run_fnk (us := []) (vs := []) F hr hb hx I2 .nil rlz q2
/-- oj.m(k = v, ..) -/
def tMethK (C : Addr) (m : Str) (sp : Sp) (gV : List V → List V → List V) (E : XK) (ta : TE) (tkn : TA) : TE := fun σs Hh Qq => ta σs Hh fun x H1 => ∃ a dx fs, x = .ref a ∧ H1 a = some (.ins C dx fs) ∧ fs.lookup m = none ∧
  tkn σs H1 fun zvs H2 => sp (gV [.ref a] zvs) H2 Qq E
theorem pe_methK0 {pl : Sem Bool} (he : PE X oj ta) (c : Cls X.K C) (hmm : Meth X.K C m f) (F : FnOk X.prog X.w X.K X.mg X.base CX k f fd ps sp) (hr : Room k X.A) (hb : KBinds X.K fd ps ks g gV) (hx : Passes CX X E)
    (hkw : PK X kws tkn) (hall : (backToKw pos (keywordEach kws X.env)).all (·.1.isSome) = true := by rfl) (hks : (backToKw pos (keywordEach kws X.env)).filterMap (·.1) = ks := by rfl)
    (hpl : ((backTo pos (starEach [] X.env)).any (·.1) || (backToKw pos (keywordEach kws X.env)).any (·.1.isNone)) = false := by rfl)
    (ht : eval (.Call (.Attribute oj m apos) [] kws pos) X.env = (do
      let ov ← eval oj X.env
      standAt apos.atName
      let (f, first) ← holding [ov] (getMethod ov m pl)
      callWith pos f first (backTo pos (starEach [] X.env)) (backToKw pos (keywordEach kws X.env))) := by rfl) :
    PE X (.Call (.Attribute oj m apos) [] kws pos) (tMethK C m sp gV E ta tkn) := by
  refine ⟨fun pns s σs Hh Qq Iv h => ?_⟩
  refine PySem.W.methodCall_KW (pl := pl) (thn (he.run pns s σs Hh _ Iv h) fun u sh1 ⟨x, H1, I1, rlx, a, dx, fs, ex, eqa, l, qq⟩ => ?_) ht
  subst ex
  obtain rfl : u = Value.ref a := rlx
  refine getmeth_ok I1 eqa c hmm l ?_
  refine PySem.W.callWith_KW0 (first := [.ref a]) (h₀ := X.base) Iv.ok.mod.kin hmm.kp hall ?_ hpl
  refine thn (hkw.run pos pns sh1 σs H1 _ I1 qq) fun kvs2 sh2 ⟨zvs, H2, I2, rlz, q2⟩ => ⟨I2.kIn, ?_⟩
  rw [hks]
  exact run_fnk (us := [.ref a]) (vs := [.ref a]) F hr hb hx I2 (.cons rfl .nil) rlz q2
end

/-! ### len(oj), the instance's own __len__ -/
section
variable {X : Cx} {k : Nat} {f : Addr} {fd : FuncData} {sp : Sp}
def rLenO (K : PySem.W.Frag) (f : Addr) (sp : Sp) : List V → Hp → VK → Prop := fun vxs Hh Qq => ∃ a C dx fs, vxs = [.ref a] ∧ Hh a = some (.ins C dx fs) ∧ PySem.W.findIn K (.ref C) "__len__" = some (some (.ref f)) ∧ PySem.W.isFn K (.ref f) = true ∧
  sp [.ref a] Hh (fun v H' => ∃ n : Int, v = .int n ∧ 0 ≤ n ∧ n < 2 ^ 63 ∧ Qq (.int n) H') E0
theorem call_lenO (F : FnOk X.prog X.w X.K X.mg X.base CX0 k f fd ["self"] sp) (hr : Room (k + 1) X.A) (hb : Binds X.K fd ["self"] []) : CallR X (.builtin "len") (rLenO X.K f sp) := by
  intro pns s σs Hh vxs uvs Qq Iv r h
  obtain ⟨a, C, dx, fs, rfl, eqa, hs, hf, qq⟩ := h
  obtain ⟨u, rfl, rlu⟩ := vals1 r
  obtain rfl : u = Value.ref a := rlu
  obtain ⟨mA, O, _, _, _, _⟩ := ins_get Iv.hok eqa
  obtain ⟨m, fr⟩ := Iv.fr
  obtain ⟨od, hod⟩ : ∃ od, s.heap.get? dx = some od := let ⟨oj, _, _, e', _⟩ := O.ns; ⟨oj, e'⟩
  refine PySem.W.len_K fr Iv.ok.mod.kin (ox := PySem.W.instObj C dx) (C := C) (od := some od) ⟨O.obj, rfl, rfl, hod⟩ hs hf ?_
  have hlst : ([Value.ref a] ++ []).length = (["self"] : List Str).length := rfl
  refine wpAny_call (codeAny_mono (F.run X.A.in1 X.stack s Hh ⟨[.ref a], []⟩ [.ref a] [.ref a] _ E0 hr.in1 Iv.env0.in1 (hb s [.ref a] Iv.kIn hlst) (.cons rfl .nil) qq) fun r s' hsq => ?_)
  cases r with
  | error e => exact hsq.elim
  | ok fl =>
    cases fl with
    | ret u =>
      obtain ⟨v, H', I3, rlv, n, ev, h0, hh1, q3⟩ := Iv.after hsq
      subst ev
      obtain ⟨t, rfl⟩ := rlv
      exact ⟨⟨h0, hh1⟩, ⟨.int n, H', I3.tok _, ⟨_, rfl⟩, q3⟩⟩
    | next => exact False.elim hsq
    | brk => exact False.elim hsq
    | cont => exact False.elim hsq
end

/-! ### sum, max of a tuple of ints; vls index -/
section
variable {prog : Program} {w : World} {A : Around} {E : Value → Shared → Prop} {s : Shared} {l : Addr} {vls : List Value} {nms : List Int} {Qq : Value → Shared → Prop}
theorem isTuple_of {h : Heap} (x : IsTup h l vls.toArray) : h.IsTuple l vls.toArray := x
theorem sumT_raw (hcal : A.handled = none) (hlst : s.heap.IsTuple l vls.toArray) (hint : IntsAre vls nms)
    (h : ∀ h' tkn t', (∀ b oj, s.heap.get? b = some oj → h'.get? b = some oj) → Qq (.int nms.sum t') { s with heap := h', toks := tkn }) : wpAny (model prog w) A (call (.builtin "sum") [.ref l]) Qq E s := by
  obtain ⟨vxs, e⟩ := hint.allInts.items
  have hnn : numsOf (intItems vxs).toList = nms := by rw [← e]; exact hint.numsOf
  rw [nums_intItems] at hnn
  rw [e] at hlst
  refine PySem.W.ktm_sumG hcal hlst fun h' tkn t' hk => ?_
  have := h h' tkn t' hk
  rw [preSum_eq, List.take_of_length_le (by simp), hnn]; exact this
end
section
variable {X : Cx}
def rSumT (K : PySem.W.Frag) : List V → Hp → VK → Prop := fun vs Hh Qq => ∃ (a : Addr) (nms : List Int), vs = [V.ref a] ∧ SqT K Hh a (nms.map V.int) ∧ Qq (.int nms.sum) Hh
theorem cr_sumT (hc : X.calm = true) : CallR X (.builtin "sum") (rSumT X.K) := by
  intro pns s σs Hh vs uvs Qq Iv r h
  obtain ⟨a, nms, rfl, hs, qq⟩ := h
  obtain ⟨vls, rlv, hlst, _⟩ := Iv.tuple hs
  rw [Vals.ref1 r]
  exact sumT_raw (Iv.ok.hd hc) (isTuple_of hlst) rlv.ints fun h' tkn t' hk => ⟨.int _, Hh, Iv.kept hk, ⟨_, rfl⟩, qq⟩
end
end Rg
namespace Rg
open PySem PySem.Spec PyProof.Rows L2
/-! ### max of a tuple of ints, vls index, isinstance of a caught error with fields -/
section
variable {prog : Program} {w : World} {A : Around} {E : Value → Shared → Prop} {s : Shared} {l : Addr} {vls : List Value} {nms : List Int} {Qq : Value → Shared → Prop}
theorem max_intTup {vxs : Array (Int × Tok)} (hcal : A.handled = none) (ht : s.heap.IsTuple l (intItems vxs)) (hpos : 0 < vxs.size)
    (h : ∀ v h' tkn, (intItems vxs)[argBest (fun i j => decide (numAt vxs i > numAt vxs j)) (vxs.size - 1)]? = some v → (∀ b oj, s.heap.get? b = some oj → h'.get? b = some oj) → Qq v { s with heap := h', toks := tkn }) :
    wpAny (model prog w) A (call (.builtin "max") [.ref l]) Qq E s := by
  obtain ⟨oj, hob, hc, n, hd⟩ := id ht
  have hI : l ≠ s.heap.objs.size := Nat.ne_of_lt (Heap.lt_size hob)
  refine call_max_walk (wpAny_pyIter_tuple ht ?_)
  refine ⟨s.heap.objs.size, _, _, _, _, _, _, rfl, Walks.tuple (A := A.in1) hcal _ l hI (intItems vxs), ⟨⟨_, Heap.get?_push_size _ rfl, rfl, rfl⟩, ht.at fun oj e => Heap.get?_push_of_some _ e⟩, fun b hb => ?_, by simpa [intItems] using hpos, CmpOf.ints_gt (numAt vxs) (fun _ _ => intItems_at), fun v h' tkn hP hk => ?_⟩
  · rcases List.mem_cons.mp hb with rfl | hb
    · exact Heap.lt_size (Heap.get?_push_size _ rfl)
    · obtain rfl := List.mem_singleton.mp hb
      exact Heap.lt_size (Heap.get?_push_of_some _ hob)
  · refine h v h' tkn (by simpa [intItems] using hP) fun b oj e => ?_
    exact hk b oj (fun hb => absurd (Heap.lt_size e) ((List.mem_singleton.mp hb) ▸ Nat.lt_irrefl _)) (Heap.get?_push_of_some _ e)
theorem maxT_raw (hcal : A.handled = none) (hlst : s.heap.IsTuple l vls.toArray) (hint : IntsAre vls nms) (hpos : 0 < nms.length)
    (h : ∀ h' tkn M t', (∀ b oj, s.heap.get? b = some oj → h'.get? b = some oj) → M ∈ nms → (∀ a, a ∈ nms → a ≤ M) → Qq (.int M t') { s with heap := h', toks := tkn }) : wpAny (model prog w) A (call (.builtin "max") [.ref l]) Qq E s := by
  obtain ⟨vxs, e⟩ := hint.allInts.items
  have hnn : numsOf (intItems vxs).toList = nms := by rw [← e]; exact hint.numsOf
  rw [nums_intItems] at hnn
  subst hnn
  rw [e] at hlst
  have hsz : 0 < vxs.size := by simpa using hpos
  refine max_intTup hcal hlst hsz fun v h' tkn hval hk => ?_
  obtain ⟨t, rfl⟩ := intItems_at hval
  obtain ⟨hh1, hh2⟩ := argBest_gt (numAt vxs) (vxs.size - 1)
  refine h h' tkn _ t hk ?_ fun a ha => ?_
  · rw [numAt_eq]; exact PySem.getD_mem (by rw [List.length_map, Array.length_toList]; omega)
  · obtain ⟨j, hjj, rfl⟩ := mem_getD ha
    rw [List.length_map, Array.length_toList] at hjj
    rw [← numAt_eq]; exact hh2 j (by omega)
end
section
variable {X : Cx}
def rMaxT (K : PySem.W.Frag) : List V → Hp → VK → Prop := fun vs Hh Qq => ∃ (a : Addr) (nms : List Int), vs = [V.ref a] ∧ SqT K Hh a (nms.map V.int) ∧ 0 < nms.length ∧ ∀ m, m ∈ nms → (∀ y, y ∈ nms → y ≤ m) → Qq (.int m) Hh
theorem cr_maxT (hc : X.calm = true) : CallR X (.builtin "max") (rMaxT X.K) := by
  intro pns s σs Hh vs uvs Qq Iv r h
  obtain ⟨a, nms, rfl, hs, hpos, qq⟩ := h
  obtain ⟨vls, rlv, hlst, _⟩ := Iv.tuple hs
  rw [Vals.ref1 r]
  exact maxT_raw (Iv.ok.hd hc) (isTuple_of hlst) rlv.ints hpos fun h' tkn m t' hk hh1 hh2 => ⟨.int _, Hh, Iv.kept hk, ⟨_, rfl⟩, qq m hh1 hh2⟩
theorem flat_ints (yms : List Int) : (yms.map V.int).all flatV = true := by
  rw [List.all_map]
  exact List.all_eq_true.mpr fun _ _ => rfl
def rTIdx (K : PySem.W.Frag) : V → List V → Hp → VK → Prop := fun x vxs Hh Qq => ∃ (p : Addr) (yms : List Int) (z : Int) (j : Nat), x = .ref p ∧ vxs = [.int z] ∧ SqT K Hh p (yms.map V.int) ∧ yms[j]? = some z ∧ (∀ m, m < j → yms[m]? ≠ some z) ∧ Qq (.int (j : Nat)) Hh
theorem mt_tupIdx : MtR X "tuple.index" (rTIdx X.K) := by
  intro pns s σs Hh x vxs v uvs Qq Iv rlx rs h
  obtain ⟨p, yms, z, j, rfl, rfl, hsq, hatj, hnot, qq⟩ := h
  cases rlx
  obtain ⟨u, rfl, t, rfl⟩ := vals1 rs
  obtain ⟨vls, r, pl, hszz⟩ := Iv.tuple hsq
  obtain ⟨⟨cls, dct, dta, slt⟩, hob, hc, n, hd⟩ := pl
  simp only at hc hd
  subst hc
  subst hd
  have hlst : vls.toArray.size = yms.length := by rw [List.size_toArray, ← r.length, List.length_map]
  have hjj : j < vls.toArray.size := by rw [hlst]; exact (List.getElem?_eq_some_iff.mp hatj).1
  have at' : ∀ (m : Nat) (hmm : m < vls.toArray.size), ∃ y t', yms[m]? = some y ∧ vls.toArray[m] = Value.int y t' := fun m hmm => by
    have hm' : m < yms.length := by rw [← hlst]; exact hmm
    obtain ⟨w, hwv, t', hw'⟩ := r.get (i := m) (x := .int yms[m]) (by simp [hm'])
    refine ⟨yms[m], t', List.getElem?_eq_getElem hm', ?_⟩
    have e := (List.getElem?_eq_some_iff.mp hwv).2
    rw [← hw', ← e]
    simp
  refine call_meets PySem.F.slot_tuple_index ⟨_, hob, rfl⟩ PySem.F.entry_tuple_index (PySem.F.args_tuple_index_2 _ _) (TI.tuple_indexAt p vls.toArray n dct slt (.int z t) (eqU (.int z)) j hjj ?_ ?_)
    ⟨hob, fun w hwv => mem_eqAt (x := .int z) ⟨t, rfl⟩ rfl r (flat_ints yms) w (by simpa using hwv), ⟨.int (j : Nat), Hh, Iv.tok _, ⟨_, rfl⟩, qq⟩⟩
  · obtain ⟨y, t', hh1, hh2⟩ := at' j hjj
    rw [hatj] at hh1
    cases hh1
    rw [hh2]
    simp [eqU, eqV]
  · intro m hmm hlt
    obtain ⟨y, t', hh1, hh2⟩ := at' m hmm
    rw [hh2]
    have : y ≠ z := fun e => hnot m hlt (by rw [hh1, e])
    simp [eqU, eqV, this]
end
/-! isinstance(e, c), e the exception that the suite holds, with vls dict -/
def rIsED (K : PySem.W.Frag) (D a : Addr) : List V → Hp → VK → Prop := fun vxs Hh Qq => ∃ (c : V) (cv : Value) (b : Bool), vxs = [.ref a, c] ∧ (∀ u, RelV c u → u = cv) ∧ PySem.W.kitOne K (.ref D) cv = some b ∧ Qq (.bl b) Hh
end Rg
namespace Rg
open PySem PySem.Spec PyProof.Rows L2 SrtO
/-! ### sorted(t), t a tuple -/
section
variable {prog : Program} {w : World} {A : Around} {E : Value → Shared → Prop} {s : Shared} {l : Addr} {vs : List Value}
/-- the heap behind the collecting -/
abbrev colHeap (h : Heap) (vs : List Value) : Heap := (h.push (seqObj "list" #[] 0)).update h.objs.size (Obj.mapSeq (· ++ vs.toArray))
theorem col_tup {Qq : List Value → Shared → Prop} (hlst : s.heap.IsTuple l vs.toArray) (hszz : vs.length ≤ sizeLine) (h : Qq vs { s with heap := colHeap s.heap vs }) : wpAny (model prog w) A (collect (.ref l)) Qq E s := by
  obtain ⟨oj, hob, hc, n, hd⟩ := hlst
  have hnew : (s.heap.push (seqObj "list" #[] 0)).get? s.heap.objs.size = some (seqObj "list" #[] 0) := Heap.get?_push_size _ rfl
  have hold : (s.heap.push (seqObj "list" #[] 0)).get? l = some oj := Heap.get?_push_of_some _ hob
  have tt : (Value.type "tuple" == Value.type "tuple") = true := by rfl
  unfold collect
  refine wpAny_bind (wpAny_runValue (codeAny_builtin entry_proto_collect' ?_))
  show wpAny _ _ (do again (.builtin "list.__iadd__" ⟨[← newList [], .ref l], []⟩)) _ _ s
  refine wpAny_bind (wpAny_newList (wpAny_pure ⟨Code.quiet_builtin _ (by decide +kernel), codeAny_builtin entry_list_iadd' ?_⟩))
  show wpAny _ _ (Builtin.List.listExtendWith (.ref s.heap.objs.size) (.ref l) (.ref s.heap.objs.size)) _ _ { s with heap := s.heap.push (seqObj "list" #[] 0) }
  unfold Builtin.List.listExtendWith
  refine wpAny_bind (wpAny_typeOf (T := "tuple") ⟨oj, hold, hc⟩ ?_)
  rw [if_pos (by rw [tt]; simp)]
  refine wpAny_bind (listItems_at hold hd (wpAny_bind (listItems_at (xs := #[]) (n := 0) hnew rfl ?_)))
  rw [if_neg (by simp)]
  refine wpAny_bind (listUpdate_at (xs := #[]) (n := 0) hnew rfl (wpAny_pure ?_) (Nat.zero_le _) (by show (#[] ++ vs.toArray).size ≤ sizeLine + 1; simp only [Array.size_append, List.size_toArray, List.length_nil]; omega))
  show wpAny (model prog w) A (do
      let oj ← load s.heap.objs.size
      match oj.data with
      | .seq vxs _ => pure vxs.toList
      | _ => unsupported "internal:collect") Qq E { s with heap := colHeap s.heap vs }
  refine wpAny_bind (wpAny_load (get?_update_seq hnew _) ?_)
  show wpAny _ _ (pure ((#[] : Array Value) ++ vs.toArray).toList) Qq E _
  have e : ((#[] : Array Value) ++ vs.toArray).toList = vs := by simp
  rw [e]
  exact wpAny_pure h
theorem sorted_tup {ltv : Value → Value → Bool} {Qq : Value → Shared → Prop} (O : Swo ltv) (hlst : s.heap.IsTuple l vs.toArray) (hszz : vs.length ≤ sizeLine)
    (hS : 2 ≤ vs.length → ∀ (h₁ : Heap) (a : Addr), h₁.get? a = some (seqObj "list" vs.toArray 0) → (∀ b oj, s.heap.get? b = some oj → b ≠ a ∧ h₁.get? b = some oj) → SortableO prog w A.in1.in1 { s with heap := h₁ } a vs ltv)
    (h : ∀ out : List Value, Srtd ltv out → Stb ltv out vs → Qq (.ref (s.heap.objs.size + 1)) { s with heap := sortedAll s.heap vs out.toArray }) : wpAny (model prog w) A (call (.builtin "sorted") [.ref l]) Qq E s := by
  have size1 : (colHeap s.heap vs).objs.size = s.heap.objs.size + 1 := by rw [Heap.size_update, size_push']
  have at1 : ((colHeap s.heap vs).push (seqObj "list" vs.toArray 0)).get? (s.heap.objs.size + 1) = some (seqObj "list" vs.toArray 0) := size1 ▸ Heap.get?_push_size (colHeap s.heap vs) rfl
  have old : ∀ b oj, s.heap.get? b = some oj → b ≠ s.heap.objs.size + 1 ∧ ((colHeap s.heap vs).push (seqObj "list" vs.toArray 0)).get? b = some oj := fun b oj qq => by
    have lt : b < s.heap.objs.size := Heap.lt_size qq
    exact ⟨Nat.ne_of_lt (Nat.lt_succ_of_lt lt), Heap.get?_push_of_some _ ((Heap.get?_update_ne _ _ _ _ (Nat.ne_of_lt lt)).trans (Heap.get?_push_of_some _ qq))⟩
  refine Calls.call_function_entry kind_sorted plain_sorted entry_sorted (args_sorted1 _) ?_
  unfold Builtin.«sorted»
  refine wpAny_bind (m := checkCount "sorted" 1 1 _) (wpAny_pure (wpAny_bind (col_tup hlst hszz (wpAny_bind (wpAny_newList ?_ hszz)))))
  show wpAny _ _ _ _ _ { s with heap := (colHeap s.heap vs).push (seqObj "list" vs.toArray 0) }
  rw [size1]
  exact wpAny_bind (wpAny_holding (wpAny_call_entry slot_list_sort ⟨_, at1, rfl⟩ entry_list_sort (list_sort_ord O at1 hszz (fun hh2 => hS hh2 _ _ at1 old) fun out hs hb => ⟨_, rfl, wpAny_pure ⟨_, rfl, h out hs hb⟩⟩) (args_list_sort _)))
end
section
variable {X : Cx}
def rSortedT (K : PySem.W.Frag) : List V → Hp → VK → Prop := fun vs Hh Qq => ∃ (a : Addr) (nms : List Int), vs = [V.ref a] ∧ SqT K Hh a (nms.map V.int) ∧
  ∀ (ns' : List Int) (p : Addr), ns'.Perm nms → ns'.Pairwise (· ≤ ·) → Hh p = none → Qq (.ref p) (upd Hh p (.lst (ns'.map V.int)))
theorem cr_sortedT : CallR X (.builtin "sorted") (rSortedT X.K) := by
  intro pns s σs Hh vs uvs Qq Iv r h
  obtain ⟨a, nms, rfl, hs, qq⟩ := h
  obtain ⟨vls, rlv, hlst, hszz⟩ := Iv.tuple hs
  have hint := rlv.ints
  rw [List.length_map] at hszz
  rw [Vals.ref1 r]
  refine sorted_tup swo_int (isTuple_of hlst) (by rw [hint.length]; exact hszz) (fun hh2 h₁ a' _ _ => ints_sortable hint hh2) fun out hh1 hh2 => ?_
  obtain ⟨k1, k2, k3⟩ := ints_out hint hh1 hh2
  obtain ⟨ep, he'⟩ := PyProof.Rows.sortedAll_at s.heap vls out.toArray
  exact ⟨.ref _, upd Hh (s.heap.objs.size + 1) (.lst ((out.map iv).map V.int)), Iv.laid (t' := s.toks) (fun _ _ => PyProof.Rows.sortedAll_old) (Nat.le_succ _) ⟨by rw [List.length_map, k2.length_eq]; exact hszz, out, ep, vals_of_ints k1, he'⟩, rfl, qq _ _ k2 k3 (Iv.hok.fresh (Nat.le_succ _))⟩
end
end Rg
namespace Rg
open PySem PySem.Spec PyProof.Rows L2 SrtO
/-! ### sorted(vxs), vxs a list of pairs (k, t): k an int, t a tuple of ints -/
/-- at v a pair of x and a tuple of the ints nms -/
def Nest (h : Heap) (v : Value) (x : Int) (nms : List Int) : Prop := ∃ (a b : Addr) (oj : Obj) (t : Tok) (n : Nat) (vls : List Value), v = .ref a ∧ h.get? a = some oj ∧ oj.cls = .type "tuple" ∧ oj.data = .seq #[.int x t, .ref b] n ∧ IsTup h b vls.toArray ∧ IntsAre vls nms
theorem Nest.kept {h h' : Heap} {v : Value} {x : Int} {nms : List Int} (p : Nest h v x nms) (k : ∀ b oj, h.get? b = some oj → oj.cls = .type "tuple" → h'.get? b = some oj) : Nest h' v x nms := by
  obtain ⟨a, b, oj, t, n, vls, e, hob, hc, hd, ⟨ob, hb, hbc, hbd⟩, hint⟩ := p
  exact ⟨a, b, oj, t, n, vls, e, k _ _ hob hc, hc, hd, ⟨ob, k _ _ hb hbc, hbc, hbd⟩, hint⟩
theorem reads_ints {h : Heap} : ∀ {vs : List Value} {nms : List Int}, IntsAre vs nms → ∃ as, ReadsAll h vs (nms.map PyData.int) as
  | _, _, .nil => ⟨_, .nil⟩
  | _, _, .cons i t r => by
    obtain ⟨as, qq⟩ := reads_ints (h := h) r
    exact ⟨_, .cons (.int i t) qq⟩
theorem eqvA_ints : ∀ vxs yms : List Int, PyData.eqvAll (vxs.map PyData.int) (yms.map PyData.int) = decide (vxs = yms)
  | [], [] => by simp [PyData.eqvAll]
  | [], y :: yms => by simp [PyData.eqvAll]
  | x :: vxs, [] => by simp [PyData.eqvAll]
  | x :: vxs, y :: yms => by
    simp only [List.map_cons, PyData.eqvAll, eqvA_ints vxs yms, PyData.eqv]
    by_cases e : x = y <;> by_cases f : vxs = yms <;> simp [e, f]
theorem layA_ints : ∀ l : List Int, PyData.canLayAll0 (l.map PyData.int) = true
  | [] => by simp [PyData.canLayAll0]
  | i :: l => by simp [PyData.canLayAll0, PyData.canLay0, layA_ints l]
theorem depA_ints : ∀ l : List Int, PyData.depthAll (l.map PyData.int) = 0
  | [] => by simp [PyData.depthAll]
  | i :: l => by simp [PyData.depthAll, PyData.depth, depA_ints l]
theorem lex_self : ∀ l : List Int, HT.lexLt l l = false
  | [] => rfl
  | x :: l => by rw [HT.lexLt_cons, if_pos rfl]; exact lex_self l
section
variable {prog : Program} {w : World} {A : Around} {E : Value → Shared → Prop} {s : Shared}
theorem eq_tupInts {b c : Addr} {vls jts : List Value} {nms ms : List Int} (hb : IsTup s.heap b vls.toArray) (hc : IsTup s.heap c jts.toArray) (hint : IntsAre vls nms) (hjj : IntsAre jts ms) (hu : A.units + 1 < cLine) :
    SeqAt.EqAt A s (.ref b) (.ref c) (decide (nms = ms)) := by
  obtain ⟨o1, hh1, c1, n1, d1⟩ := hb
  obtain ⟨o2, hh2, c2, n2, d2⟩ := hc
  obtain ⟨as, r1⟩ := reads_ints (h := s.heap) hint
  obtain ⟨bs, r2⟩ := reads_ints (h := s.heap) hjj
  have qq := SeqAt.eqAt_reads (.tuple (nms.map PyData.int)) (.tuple (ms.map PyData.int)) A s (.ref b) (.ref c) _ _ (Reads.tuple hh1 c1 d1 r1) (Reads.tuple hh2 c2 d2 r2) (by simp only [PyData.canLay0]; exact layA_ints nms) (by simp only [PyData.canLay0]; exact layA_ints ms)
    (by simp only [PyData.depth, depA_ints]; omega)
  have e : PyData.eqv (.tuple (nms.map PyData.int)) (.tuple (ms.map PyData.int)) = decide (nms = ms) := by
    simp only [PyData.eqv]
    exact eqvA_ints nms ms
  rwa [e] at qq
theorem nest_cmp {vs : List Value} {k : Value → Int × List Int} (hp : ∀ v ∈ vs, Nest s.heap v (k v).1 (k v).2) (hu : A.units + 1 < cLine) :
    SrtO.Cmp prog w A s (tuples' true) (fun p => p.1 ∈ vs) (lt2 fun v u => HT.lexLt ((k v).1 :: (k v).2) ((k u).1 :: (k u).2)) := by
  intro p qq hmm hm'
  have hh1 := hp _ hmm
  have hh2 := hp _ hm'
  show wpAny (model prog w) A (keyLt' (tuples' true) p.1 qq.1) (fun r s' => s' = s ∧ r = HT.lexLt ((k p.1).1 :: (k p.1).2) ((k qq.1).1 :: (k qq.1).2)) (fun _ _ => False) s
  generalize (k p.1).1 = x at hh1 ⊢
  generalize (k p.1).2 = nms at hh1 ⊢
  generalize (k qq.1).1 = y at hh2 ⊢
  generalize (k qq.1).2 = ms at hh2 ⊢
  obtain ⟨a, b, oj, t, n, vls, e, hob, hc, hd, hb, hint⟩ := hh1
  obtain ⟨a', b', o', t', n', its', e', ho', hc', hd', hb', hi'⟩ := hh2
  rw [e, e', HT.lexLt_cons]
  refine PySem.W.kat_lt hob hd ho' hd' ?_
  show PySem.W.KatLex prog w A true (decide (2 < 2)) _ [(.int x t, .int y t'), (.ref b, .ref b')] 0 s
  refine PySem.W.kat_cons (SeqAt.EqAt.int_int x t y t' prog w _ _ (PySem.W.kat_go (fun e1 => PySem.W.kat_yes (PySem.W.kat_cons (eq_tupInts hb hb' hint hi' hu prog w _ _ (PySem.W.kat_go (fun ee2 => ?_) (fun ee2 => ?_))))) (fun e1 => ?_)))
  · have ex : x = y := by simpa using e1
    have ey : nms = ms := of_decide_eq_true ee2
    refine PySem.W.kat_yes (PySem.W.kat_nil ⟨rfl, ?_⟩)
    rw [if_pos ex, ey, lex_self]
    rfl
  · have ex : x = y := by simpa using e1
    rw [if_pos ex]
    exact PySem.W.kat_no (PySem.W.kat_one _ _ (HT.lt_tupInts hb hb' hint hi' (by omega) ⟨rfl, rfl⟩))
  · have ex : ¬ x = y := by simpa using e1
    rw [if_neg ex]
    exact PySem.W.kat_no (oneLt_int ⟨rfl, rfl⟩)
theorem nest_firsts {h : Heap} {k : Value → Int × List Int} : ∀ {vs : List Value}, (∀ v ∈ vs, Nest h v (k v).1 (k v).2) → ∃ fs : List Value, PySem.W.KatTups h vs fs ∧ fs.length = vs.length ∧ ∀ f ∈ fs, ∃ x t, f = Value.int x t
  | [], _ => ⟨[], PySem.W.KatTups.nil, rfl, fun _ z => nomatch z⟩
  | v :: vs, hp => by
    obtain ⟨fs, q1, q2, q3⟩ := nest_firsts fun v' z => hp v' (List.mem_cons_of_mem _ z)
    obtain ⟨a, b, oj, t, n, vls, e, hob, hc, hd, _⟩ := hp v (List.mem_cons_self ..)
    rw [e]
    refine ⟨.int _ t :: fs, PySem.W.KatTups.cons hob hc hd rfl q1, congrArg (· + 1) q2, fun f z => ?_⟩
    rcases List.mem_cons.mp z with z | z
    · exact ⟨_, t, z⟩
    · exact q3 f z
theorem nest_sortable {a : Addr} {vs : List Value} {k : Value → Int × List Int} (h0 : 0 < vs.length) (hu : A.units + 1 < cLine) (hp : ∀ v ∈ vs, Nest s.heap v (k v).1 (k v).2) (ha : ∀ oj, s.heap.get? a = some oj → oj.cls ≠ .type "tuple") :
    SortableO prog w A s a vs fun v u => HT.lexLt ((k v).1 :: (k v).2) ((k u).1 :: (k u).2) := by
  intro h' keep
  have hp' : ∀ v ∈ vs, Nest h' v (k v).1 (k v).2 := fun v z => (hp v z).kept fun b oj e c => keep b oj (fun z => ha oj (z ▸ e) c) e
  obtain ⟨fs, q1, q2, q3⟩ := nest_firsts hp'
  refine ⟨tuples' true, fun Qq E hsq => PySem.W.kat_kind (T := .type "int") q1 (by omega) (fun f z => ?_) (by rfl) ?_, nest_cmp hp' hu⟩
  · obtain ⟨x, t, e⟩ := q3 f z
    rw [e]
    exact PySem.W.Looks.now
  · rw [show (Value.type "int" != Value.type "tuple") = true by decide +kernel]
    exact hsq
end
section
variable {X : Cx}
/-- k says what stands at each item -/
def rSortedN (K : PySem.W.Frag) : List V → Hp → VK → Prop := fun vs Hh Qq => ∃ (a : Addr) (vxs : List V) (k : V → Int × List Int), vs = [V.ref a] ∧ SqL K Hh a vxs ∧ (∀ x ∈ vxs, ∃ t b, x = V.ref t ∧ Hh t = some (.tup [.int (k x).1, .ref b]) ∧ Hh b = some (.tup ((k x).2.map V.int))) ∧
  ∀ yms p, Srtd (fun v u => HT.lexLt ((k v).1 :: (k v).2) ((k u).1 :: (k u).2)) yms → yms.Perm vxs → Hh p = none → Qq (.ref p) (upd Hh p (.lst yms))
theorem cr_sortedN (hu : X.A.units + 64 < cLine) : CallR X (.builtin "sorted") (rSortedN X.K) := by
  intro pns s σs Hh vs uvs Qq Iv r h
  obtain ⟨a, vxs, k, rfl, hs, hx, qq⟩ := h
  obtain ⟨vls, rlv, hlst, hszz⟩ := Iv.list hs
  rw [Vals.ref1 r]
  obtain ⟨e1, ee2⟩ := refs_back rlv fun x m => let ⟨t, _, e, _⟩ := hx x m; ⟨t, e⟩
  have nst : ∀ v ∈ vls, Nest s.heap v (k (backV v)).1 (k (backV v)).2 := fun v hval => by
    obtain ⟨t, rfl⟩ := ee2 v hval
    obtain ⟨t', b, et, hh1, hh2⟩ := hx (V.ref t) (by rw [e1]; exact List.mem_map.mpr ⟨_, hval, rfl⟩)
    cases et
    obtain ⟨_, jts, r2, oj, hob, hc, n, hd⟩ := Iv.hok _ _ hh1
    obtain ⟨u1, u2, rfl, ⟨t1, rfl⟩, r3⟩ := vals2 r2
    obtain rfl : u2 = Value.ref b := r3
    obtain ⟨_, kts, r4, p4⟩ := Iv.hok _ _ hh2
    exact ⟨t, b, oj, t1, n, kts, rfl, hob, hc, hd, p4, r4.ints⟩
  refine sorted_ord (NtL.swo_lexL fun u : Value => (k (backV u)).1 :: (k (backV u)).2) hlst.isList (by rw [← rlv.length]; exact hszz) (fun hh2 h₁ a' ha kk => ?_) fun out hh1 hh2 => ?_
  · refine nest_sortable (s := { s with heap := h₁ }) (k := fun u => k (backV u)) (by omega) (show X.A.units + 1 + 1 + 1 < cLine by omega) (fun v hval => (nst v hval).kept fun b oj e _ => (kk b oj e).2) fun oj e c => ?_
    cases e.symm.trans ha
    exact absurd (Value.type.inj c) (by decide)
  · have h3 : ∀ u ∈ out, ∃ a, u = Value.ref a := fun u hu => ee2 u (hh2.perm.mem_iff.mp hu)
    have hp : (out.map backV).Perm vxs := by rw [e1]; exact hh2.perm.map backV
    obtain ⟨n, hnn⟩ := PyProof.Rows.sortedAll_at s.heap vls out.toArray
    exact ⟨.ref _, upd Hh (s.heap.objs.size + 1) (.lst (out.map backV)), Iv.laid (t' := s.toks) (fun _ _ => PyProof.Rows.sortedAll_old) (Nat.le_succ _) ⟨by rw [hp.length_eq]; exact hszz, out, n, vals_back h3, hnn⟩, rfl,
      qq _ _ (List.pairwise_map.mpr hh1) hp (Iv.hok.fresh (Nat.le_succ _))⟩
end
end Rg
namespace Rg
open PySem PySem.Spec PyProof.Rows L2
/-! tuple(list), whose object is known to have no dict: so that vls methods can be called -/
section
variable {X : Cx}
def rTupF (K : PySem.W.Frag) : List V → Hp → VK → Prop := fun vxs Hh Qq => ∃ p yms, vxs = [V.ref p] ∧ SqL K Hh p yms ∧ ∀ l oj, Hh l = none → oj.dict = none → Qq (.ref l) (upd Hh l (.frz oj (.tup yms)))
theorem cr_tupF : CallR X (.type "tuple") (rTupF X.K) := by
  intro pns s σs Hh vxs uvs Qq Iv r ⟨p, yms, e, hsq, qq⟩
  subst e
  obtain ⟨u, rfl, rlx⟩ := vals1 r
  cases rlx
  obtain ⟨vls, rlv, pl, sz⟩ := Iv.list hsq
  have hnn := rlv.length
  refine call_tuple_list pl.isList (fun hh1 kp => ?_) (by rw [List.size_toArray]; omega)
  have J : Inv X pns σs Hh { s with heap := hh1 } := Iv.kept (t' := s.toks) kp
  have J2 : Inv X pns σs (upd Hh hh1.objs.size (.frz { cls := .type "tuple", data := .seq vls.toArray } (.tup yms))) { s with heap := hh1.push { cls := .type "tuple", data := .seq vls.toArray } } :=
    J.laid (t' := s.toks) (fun b oj e => Heap.get?_push_of_some _ e) (Nat.le_refl _)
      (show ObjOk X.prog X.w _ _ _ (.frz _ (.tup yms)) from ⟨Heap.get?_push_size _ rfl, sz, vls, rlv, IsTup.new _ _⟩)
  exact ⟨.ref hh1.objs.size, _, J2, rfl, qq _ _ (J.hok.fresh (Nat.le_refl _)) rfl⟩
def tyTF (x : V) (Hh : Hp) : Prop := ∃ a oj yms, x = .ref a ∧ Hh a = some (.frz oj (.tup yms)) ∧ oj.dict = none
theorem ty_tf : TyOk X "tuple" tyTF := by
  intro pns σs Hh s x v Iv r ⟨a, oj, yms, e, h, hd⟩
  subst e
  cases r
  obtain ⟨e, _, vls, _, o2, ee2, hc, _⟩ := (show ObjOk X.prog X.w Hh s.heap a (.frz oj (.tup yms)) from Iv.hok a _ h)
  refine ⟨⟨_, ee2, hc⟩, fun b qq => ?_⟩
  cases qq
  exact ⟨oj, e, hd⟩
end
end Rg
namespace Rg
open PySem PySem.Spec PyProof.Rows L2
/-! ### x != y, x == y of instances whose class has an own == and no own != -/
section
variable {prog : Program} {w : World} {A : Around} {E : Value → Shared → Prop} {s : Shared} {K : PySem.W.Frag} {x C L f : Addr} {h₀ : Heap} {m : Str → Option Value} {ox : Obj} {od : Option Obj} {b tb : Value}
theorem boundNe {M : Model} {args : List Value} {Q : Option Value → Shared → Prop} (Xk : K.In s.heap) (Ia : PySem.W.InstAt s.heap x ox C od) (hs : PySem.W.findIn K (.ref C) "__ne__" = some (some (.builtin "object.__ne__")))
    (h : wpAny M A (call (.builtin "object.__ne__") (.ref x :: args)) (fun v => Q (some v)) E s) : wpAny M A (callSpecialIfBound? (.ref x) "__ne__" args) Q E s := by
  simp only [callSpecialIfBound?, bindSpecialIfBound?]
  refine wpAny_holding (wpAny_bind (wpAny_bind (wpAny_bind (Ia.type.here ((PySem.W.looks_findIn Xk hs).here ?_)))))
  dsimp only
  simp only [F.cmp_object.ne.bind]
  refine wpAny_bind (wpAny_askSetting (wpAny_ite ?_))
  have fin : wpAny M A (call (.builtin "object.__ne__") ([.ref x] ++ args) >>= fun v => pure (some v)) Q E s := wpAny_bind (wpAny_mono h (fun v s' h' => wpAny_pure h') fun _ _ h' => h')
  split
  · exact wpAny_bind (wpAny_pure (wpAny_pure fin))
  · exact wpAny_tryCatch (wpAny_bind (wpAny_pure (wpAny_pure fin)))
theorem checkNe {M : Model} {Q : Unit → Shared → Prop} (Xk : K.In s.heap) (Ia : PySem.W.InstAt s.heap x ox C od) (ho : PySem.W.subIn K (.ref C) (.type "object") = some true) (hq : Q () s) : wpAny M A (checkBuiltinCall "object.__ne__" ⟨[.ref x, b], []⟩) Q E s := by
  simp only [checkBuiltinCall, F.cmpKind_ne, F.cmpSplit_ne]
  refine wpAny_bind ?_
  unfold isInstance
  refine wpAny_bind (Ia.type.here ((PySem.W.looks_subIn Xk ho).here ?_))
  simp only [Bool.not_true, Bool.false_eq_true, if_false]
  have ha := F.cmpArgs_ne (.ref x) b
  cases hsig : Manifest.signature? "object.__ne__" with
  | none => exact wpAny_pure hq
  | some sig =>
    simp only [argsOk, hsig] at ha
    have h2 : Bind.checkArgs "object.__ne__" sig ⟨[.ref x, b], []⟩ = pure () := ha
    show wpAny M A (Bind.checkArgs "object.__ne__" sig ⟨[.ref x, b], []⟩) Q E _
    rw [h2]; exact wpAny_pure hq
theorem objNeK {Q : Fin → Shared → Prop} (Xk : K.In s.heap) (Ia : PySem.W.InstAt s.heap x ox C od) (hs : PySem.W.findIn K (.ref C) "__eq__" = some (some (.ref f))) (hf : PySem.W.isFn K (.ref f) = true) (hu : A.units < cLine)
    (h : wpAny (model prog w) A (call (.ref f) [.ref x, b]) (fun v s' => ∃ r, v = .bool r ∧ Q (.done (.ret (.bool (!r)))) s') E s) :
    wpAny (model prog w) A (Builtin.«object.__ne__» ⟨[.ref x, b], []⟩) Q E s := by
  unfold Builtin.«object.__ne__»
  repeat (first
    | with_reducible refine wpAny_cRoomFor hu ?_
    | (refine wpAny_bind (m := callSpecialIfBound? (.ref x) (Str.ofString "__eq__") [b])
        (PySem.W.ifBound_K Xk Ia hs hf (wpAny_mono h (fun r s' hr => by
          obtain ⟨b, rfl, hq⟩ := hr
          repeat (first | exact hq | exact wpAny_pure hq | exact wpAny_truthy_bool hq | (refine wpAny_bind (m := truthy (.bool _)) (wpAny_truthy_bool ?_)) | wp_step)) fun _ _ e => e)))
    | wp_step)
theorem neK {Q : Value → Shared → Prop} (hu : A.units + 1 < cLine) (Fr0 : Fr h₀ L s.heap m) (X₀ : K.In h₀) (Ia : PySem.W.InstAt s.heap x ox C od) (hb : PySem.W.Looks (model prog w) s.heap (typeOf b) tb) (hn : PySem.W.notFirst K C tb = true)
    (hne : PySem.W.findIn K (.ref C) "__ne__" = some (some (.builtin "object.__ne__"))) (ho : PySem.W.subIn K (.ref C) (.type "object") = some true) (hs : PySem.W.findIn K (.ref C) "__eq__" = some (some (.ref f))) (hf : PySem.W.isFn K (.ref f) = true)
    (h : wpAny (model prog w) A.in1 (call (.ref f) [.ref x, b]) (fun v s' => ∃ r, v = .bool r ∧ Q (.bool (!r)) s') E s) : wpAny (model prog w) A (richCompare .NotEq (.ref x) b) Q E s := by
  have Xk := X₀.keeps Fr0.keep
  have one : wpAny (model prog w) A (tryCompare (.ref x) "__ne__" b) (fun r s' => ∃ v, r = some v ∧ Q v s') E s := by
    unfold tryCompare
    refine wpAny_bind (boundNe Xk Ia hne (wpAny_call (codeAny_call_builtin F.cmp_object.ne.plain F.cmpEntry_ne (checkNe Xk Ia ho (objNeK (A := A.in1) Xk Ia hs hf hu (wpAny_mono h (fun v s' hv => ?_) fun _ _ e => e))))))
    obtain ⟨r, rfl, hq⟩ := hv
    exact ⟨r, rfl, wpAny_pure ⟨_, rfl, hq⟩⟩
  unfold richCompare
  simp only [oneThing_ref]
  refine wpAny_holding (wpAny_bind (wpAny_cRoomFor (Nat.lt_of_succ_lt hu) ?_))
  refine wpAny_bind (Ia.type.here (wpAny_bind (hb.here ?_)))
  split
  · rename_i q
    have e : PySem.W.subIn K tb (.ref C) = some false := by
      rcases Bool.or_eq_true_iff.mp hn with e | e
      · rw [beq_iff_eq.mp e] at q; simp at q
      · exact beq_iff_eq.mp e
    refine wpAny_bind ((PySem.W.looks_subIn Xk e).here ?_)
    simp only [Bool.false_eq_true, if_false]
    refine wpAny_bind (wpAny_mono one (fun r s' z => ?_) fun _ _ e => e)
    obtain ⟨v, rfl, hq⟩ := z
    exact wpAny_pure hq
  · refine wpAny_bind (wpAny_pure ?_)
    simp only [Bool.false_eq_true, if_false]
    refine wpAny_bind (wpAny_mono one (fun r s' z => ?_) fun _ _ e => e)
    obtain ⟨v, rfl, hq⟩ := z
    exact wpAny_pure hq
end
section
variable {X : Cx} {n : Nat} {C f : Addr} {fd : FuncData} {ps : List Str} {sp : Sp}
/-- both are instances of C; what the own == says of them, as a bool -/
def rInsEq (C : Addr) (sp : Sp) : R2 := fun x y H Q => ∃ a b dx dy fs gs, x = .ref a ∧ y = .ref b ∧ H a = some (.ins C dx fs) ∧ H b = some (.ins C dy gs) ∧ sp [.ref a, .ref b] H (fun v H' => ∃ r, v = .bl r ∧ Q (.bl r) H') E0
def rInsNe (C : Addr) (sp : Sp) : R2 := fun x y H Q => ∃ a b dx dy fs gs, x = .ref a ∧ y = .ref b ∧ H a = some (.ins C dx fs) ∧ H b = some (.ins C dy gs) ∧ sp [.ref a, .ref b] H (fun v H' => ∃ r, v = .bl r ∧ Q (.bl (!r)) H') E0
theorem op_insNe (F : FnOk X.prog X.w X.K X.mg X.base CX0 n f fd ps sp) (hne : PySem.W.findIn X.K (.ref C) "__ne__" = some (some (.builtin "object.__ne__"))) (ho : PySem.W.subIn X.K (.ref C) (.type "object") = some true)
    (hs : PySem.W.findIn X.K (.ref C) "__eq__" = some (some (.ref f))) (hf : PySem.W.isFn X.K (.ref f) = true) (hb : Binds X.K fd ps []) (hr : Room (n + 1) X.A) : OpR X (compareOp .NotEq) (rInsNe C sp) := by
  intro pins s σ H x y u v Q I rx ry ⟨a, b, dx, dy, fs, gs, ex, ey, ha, hb', hsp⟩
  subst ex ey
  cases rx
  cases ry
  obtain ⟨mA, J, _⟩ := ins_get I.hok ha
  obtain ⟨mB, J', _⟩ := ins_get I.hok hb'
  obtain ⟨od, J, _⟩ := J.look
  obtain ⟨od', J', _⟩ := J'.look
  obtain ⟨m, hF⟩ := I.fr
  show wpAny (model X.prog X.w) X.A (richCompare .NotEq (.ref a) (.ref b)) (EP X pins σ Q) X.xe s
  refine neK (tb := .ref C) (by have := hr.un; omega) hF I.ok.mod.kin J J'.type (by simp [PySem.W.notFirst]) hne ho hs hf ?_
  have hl := F.len _ _ _ _ hsp
  have r2 : Vals [V.ref a, V.ref b] [Value.ref a, Value.ref b] := .cons rfl (.cons rfl .nil)
  refine wpAny_call (codeAny_mono (F.run X.A.in1 X.stack s H ⟨[.ref a, .ref b], []⟩ [.ref a, .ref b] [.ref a, .ref b] _ E0 hr.in1 I.env0.in1 (by
    have := hb s [.ref a, .ref b] I.kIn (by simpa using hl)
    simpa using this) r2 hsp) fun r s' hq => ?_)
  cases r with
  | error e => exact hq.elim
  | ok fl =>
    cases fl with
    | ret w =>
      obtain ⟨z, H', I', rz, r0, ez, q⟩ := I.after hq
      subst ez
      cases rz
      exact ⟨r0, rfl, .bl (!r0), H', I', rfl, q⟩
    | next => exact False.elim hq
    | brk => exact False.elim hq
    | cont => exact False.elim hq
theorem op_insEq (F : FnOk X.prog X.w X.K X.mg X.base CX0 n f fd ps sp)
    (hs : PySem.W.findIn X.K (.ref C) "__eq__" = some (some (.ref f))) (hf : PySem.W.isFn X.K (.ref f) = true) (hb : Binds X.K fd ps []) (hr : Room n X.A) : OpR X (compareOp .Eq) (rInsEq C sp) := by
  intro pins s σ H x y u v Q I rx ry ⟨a, b, dx, dy, fs, gs, ex, ey, ha, hb', hsp⟩
  subst ex ey
  cases rx
  cases ry
  obtain ⟨mA, J, _⟩ := ins_get I.hok ha
  obtain ⟨mB, J', _⟩ := ins_get I.hok hb'
  obtain ⟨od, J, _⟩ := J.look
  obtain ⟨od', J', _⟩ := J'.look
  obtain ⟨m, hF⟩ := I.fr
  show wpAny (model X.prog X.w) X.A (richCompare .Eq (.ref a) (.ref b)) (EP X pins σ Q) X.xe s
  refine PySem.W.cmp_K (op := .Eq) (tb := .ref C) hr.units0 hF I.ok.mod.kin J J'.type (by simp [PySem.W.notFirst]) hs hf ?_
  have hl := F.len _ _ _ _ hsp
  have r2 : Vals [V.ref a, V.ref b] [Value.ref a, Value.ref b] := .cons rfl (.cons rfl .nil)
  refine wpAny_call (codeAny_mono (F.run X.A X.stack s H ⟨[.ref a, .ref b], []⟩ [.ref a, .ref b] [.ref a, .ref b] _ E0 hr I.env0 (by
    have := hb s [.ref a, .ref b] I.kIn (by simpa using hl)
    simpa using this) r2 hsp) fun r s' hq => ?_)
  cases r with
  | error e => exact hq.elim
  | ok fl =>
    cases fl with
    | ret w =>
      obtain ⟨z, H', I', rz, r0, ez, q⟩ := I.after hq
      subst ez
      cases rz
      exact ⟨.bl r0, H', I', rfl, q⟩
    | next => exact False.elim hq
    | brk => exact False.elim hq
    | cont => exact False.elim hq
end
end Rg
namespace Rg
open PySem PySem.Spec PyProof.Rows L2 LamX
/-! ### sorted(lots, key=lambda lot: (len(lot), lot)), lots tuples of ints -/
theorem reads_intsN {h : Heap} : ∀ {vs : List Value} {nms : List Int}, IntsAre vs nms → ReadsAll h vs (nms.map PyData.int) []
  | _, _, .nil => .nil
  | _, _, .cons i t r => .cons (.int i t) (reads_intsN r)
def lotKey (l : List Int) : PyData := .tuple [.int (l.length : Nat), .tuple (l.map PyData.int)]
theorem alike_lotKey (a b : List Int) : PySem.W.alike (lotKey a) (lotKey b) = true := by
  simp [lotKey, PySem.W.alike, PySem.W.alikeAll, PySem.W.alike_ints]
theorem depth_lotKey (a : List Int) : (lotKey a).depth ≤ 4 := by
  simp [lotKey, PyData.depth, PyData.depthAll, PySem.W.depth_ints]
theorem eqvA_ints8 : ∀ vxs yms : List Int, PyData.eqvAll (vxs.map PyData.int) (yms.map PyData.int) = decide (vxs = yms)
  | [], [] => by simp [PyData.eqvAll]
  | [], y :: yms => by simp [PyData.eqvAll]
  | x :: vxs, [] => by simp [PyData.eqvAll]
  | x :: vxs, y :: yms => by
    simp only [List.map_cons, PyData.eqvAll, eqvA_ints8 vxs yms, PyData.eqv]
    by_cases e : x = y <;> by_cases f : vxs = yms <;> simp [e, f]
/-- fewer bars first, then as tuples -/
def lotLe (a b : List Int) : Bool := !PySem.W.dataLt (lotKey b) (lotKey a)
section
variable {prog : Program} {w : World} {A : Around} {s : Shared} {h : Heap}
theorem lotkey_turn {tk : Nat} {f c' t : Addr} {q y : Str} {params : Arguments} {scope : Scope} {pm ctv : Value} {p1 p2 p3 p4 p5 : Pos} {x1 : Nat} {mg mb : Str → Option Value} {ns : List Int} {its : List Value}
    (hroom : A.depth < recursionLimit)
    (hf : h.get? f = some (PySem.W.kla_obj "<lambda>" q params (.Tuple [.Call (.Name "len" p1) [.Name y p2] [] p3, .Name y p4] x1 p5) scope [] pm c' ctv))
    (hco : scope.isCoroutine = false) (hgen : scope.isGenerator = false) (hk : scope.kind = .function)
    (hcell : ∀ x ∈ scope.names, x.2 ≠ .cell) (hy : scope.names.lookup y = some .local) (hlen : scope.names.lookup ("len" : Str) = some .globalImplicit)
    (hbind : ∀ v : Value, bindArgs (PySem.W.kla_fn "<lambda>" q params (.Tuple [.Call (.Name "len" p1) [.Name y p2] [] p3, .Name y p4] x1 p5) scope [] pm (.ref c') ctv) ⟨[v], []⟩ = pure [(y, v)])
    (hcd : h.CodeRec (.ref c') q) (hg : h.Ns mainGlobals mg) (hm : mg ("len" : Str) = none) (hb : h.Ns builtinsNs mb) (hmb : mb ("len" : Str) = some (.builtin "len")) (hnl : h.NoLimit)
    (ht : IsTup h t its.toArray) (hi : IntsAre its ns) (hz : its.length ≤ sizeLine) (hyd : (y == ("__debug__" : Str)) = false) :
    wpAny (model prog w) A (call (.ref f) [.ref t]) (PySem.W.KeyPure (lotKey ns) { s with heap := h, toks := tk }) (fun _ _ => False) { s with heap := h, toks := tk } := by
  refine wpAny_call (PySem.W.kla_callFunE hroom hf rfl hco hgen rfl hcd ?_)
  rw [hbind]
  refine wpAny_pure (wpAny_newFunctionEnv hcell (fun z hz => by rw [List.mem_singleton.mp hz]; exact hy) (fun h₁ hns hsb => ⟨hnl.fresh _ hsb, ?_⟩) hk)
  have kp : ∀ b o, h.get? b = some o → h₁.get? b = some o := fun b o e => hsb.extBut b o (Nat.ne_of_lt (Heap.lt_size e)) (Heap.get?_push_of_some _ e)
  show codeAny _ _ (.expr _ (PySem.W.envX q scope h.objs.size f (.ref c') [])) _ _
  refine PySem.W.kla_codeExpr ?_
  refine wpAny_Tuple_spliced ?_
  have rd : ∀ (A' : Around) (tk' : Nat) (pos : Pos) (Q : Value → Shared → Prop) (E : Value → Shared → Prop), Q (.ref t) { s with heap := h₁, toks := tk' } → wpAny (model prog w) A' (eval (.Name y pos) (PySem.W.envX q scope h.objs.size f (.ref c') [])) Q E { s with heap := h₁, toks := tk' } := fun A' tk' pos Q E hQ =>
    wpAny_Name (wpAny_loadName_local hk hy hns (by show ([(y, Value.ref t)].reverse).lookup y = _; simp) hQ) hyd
  refine Calls.spliced_cons (wpAny_Call_Name_kw (Calls.Name_function_global hk hlen (Calls.loadGlobal_builtin (hg.keeps kp) hm (hb.keeps kp) hmb ?_)))
  refine PyProof.Rows.callWith_builtin1 (Calls.spliced_cons (rd _ _ _ _ _ (Calls.spliced_nil ?_))) rfl rfl
  refine len_tuple (ht.keeps kp) ?_ ?_
  · have := line63
    simp only [List.size_toArray]
    omega
  refine Calls.spliced_cons (rd _ _ _ _ _ (Calls.spliced_nil ⟨by show 2 ≤ sizeLine; decide, ?_⟩))
  refine ⟨_, _, rfl, fun b o e => Heap.get?_push_of_some _ (kp b o e), ?_⟩
  obtain ⟨o, ho, hc, n, hd⟩ := ht.keeps kp
  refine Reads.tuple (Heap.get?_push_size _ rfl) rfl rfl ?_
  show ReadsAll _ [.int (its.toArray.size : Nat) _, .ref t] [.int (ns.length : Nat), .tuple (ns.map .int)] []
  have e1 : its.toArray.size = ns.length := by rw [List.size_toArray, hi.length]
  rw [e1]
  exact ReadsAll.cons (.int _ _) (ReadsAll.cons (Reads.tuple (Heap.get?_push_of_some _ ho) hc hd (reads_intsN hi)) .nil)
end
theorem each_vals : ∀ {out : List Value} {ys : List V}, PySem.W.EachIs (fun u x => RelV x u) out ys → Vals ys out
  | _, _, .nil => .nil
  | _, _, .cons r t => .cons r (each_vals t)
theorem vals_each : ∀ {ys : List V} {out : List Value}, Vals ys out → PySem.W.EachIs (fun u x => RelV x u) out ys
  | _, _, .nil => .nil
  | _, _, .cons r t => .cons r (vals_each t)
section
variable {X : Cx}
/-- sorted(e, key=the lambda) -/
def tSortLots (K : PySem.W.Frag) (T : List (Addr × Str)) (te : TE) : TE := fun σ H Q => te σ H fun v H1 => ∃ (a : Addr) (xs : List V) (k : V → List Int), v = .ref a ∧ SqL K H1 a xs ∧ (∀ x ∈ xs, ∃ t, x = V.ref t ∧ H1 t = some (.tup ((k x).map V.int))) ∧ Tabs T H1 ∧
  ∀ (H2 : Hp) (p : Addr) (ys : List V), ExtN H1 H2 → Tabs T H2 → ys.Perm xs → (ys.Pairwise fun u v => lotLe (k u) (k v) = true) → H2 p = none → Q (.ref p) (upd H2 p (.lst ys))
theorem pe_sortLots {T : List (Addr × Str)} {c P : Addr} {y : Str} {params : Arguments} {scope : Scope} {p p1 p2 p3 p4 p5 lpos kpos pos : Pos} {x1 : Nat} {e : Expr} {te : TE}
    (hdp : X.A.depth < recursionLimit) (hu : X.A.units + 64 < cLine) (hgS : Gl X ("sorted" : Str)) (hmS : X.mg ("sorted" : Str) = none) (hmL : X.mg ("len" : Str) = none) (he : PE X e te)
    (TB : TabB X.base X.mg c P) (hcode : X.env.code = .ref c) (hmT : (P, X.env.qual ++ "<lambda>") ∈ T) (huT : ∀ p ∈ T, p.1 = P → p.2 = X.env.qual ++ "<lambda>")
    (hdef : defaultsOf params X.env = ([], [])) (hco : scope.isCoroutine = false) (hgen : scope.isGenerator = false) (hk : scope.kind = .function)
    (hcell : ∀ x ∈ scope.names, x.2 ≠ .cell ∧ x.2 ≠ .free) (hy : scope.names.lookup y = some .local) (hlen : scope.names.lookup ("len" : Str) = some .globalImplicit) (hclo : cloFrom X.env.cells scope.names [] = [])
    (hbind : ∀ (q : Str) (pm cv ctv v : Value), bindArgs (PySem.W.kla_fn "<lambda>" q params (.Tuple [.Call (.Name "len" p1) [.Name y p2] [] p3, .Name y p4] x1 p5) scope [] pm cv ctv) ⟨[v], []⟩ = pure [(y, v)])
    (hyd : (y == ("__debug__" : Str)) = false := by decide)
    (hes : backTo pos (starEach [e] X.env) = [(false, eval e X.env)] := by rfl) :
    PE X (.Call (.Name "sorted" p) [e] [⟨some "key", .Lambda params (.Tuple [.Call (.Name "len" p1) [.Name y p2] [] p3, .Name y p4] x1 p5) scope lpos, kpos⟩] pos) (tSortLots X.K T te) := by
  refine ⟨fun pins s σ H Q I h => ?_⟩
  refine wpAny_Call_Name_kw (ld_blt I hgS hmS (u := .builtin "sorted") (by decide +kernel) ?_ (by decide) (by decide))
  refine PyProof.Rows.callWith_kw ?_ hes (by rw [hes]; rfl) rfl rfl
  rw [hes]
  refine Calls.spliced_cons (thn (he.run pins s σ H _ I h) fun u s1 ⟨v, H1, I1, r1, q1⟩ => Calls.spliced_nil ?_)
  obtain ⟨a, xs, k, rfl, hs, hx, hT, q⟩ := q1
  obtain rfl : u = Value.ref a := r1
  show wpAny _ _ (evalAll [do let v ← eval (.Lambda params (.Tuple [.Call (.Name "len" p1) [.Name y p2] [] p3, .Name y p4] x1 p5) scope lpos) X.env; standAt pos; pure v]) _ _ _
  refine wpAny_evalAll_cons (wpAny_bind ?_)
  refine lam_make2 I1 TB hcode hmT huT hT hdef (fun z hz ef => absurd ef (hcell z hz).2) fun f c' pm ctv H2 s2 I2 eN T2 hf hfn hfr hco2 => ?_
  rw [hclo] at hf
  refine wpAny_bind (wpAny_standAt (wpAny_pure ?_))
  refine wpAny_evalAll_nil ?_
  show wpAny _ _ (call (.builtin "sorted") [.ref a] [(Str.ofString "key", .ref f)]) _ _ s2
  have hs2 : SqL X.K H2 a xs := by
    rcases hs with (hs | ⟨o, hs⟩) | hs
    · exact .inl (.inl (eN _ _ hs (fun _ z => nomatch z)))
    · exact .inl (.inr ⟨o, eN _ _ hs (fun _ z => nomatch z)⟩)
    · exact .inr hs
  obtain ⟨its, rv, hl, hsz⟩ := I2.list hs2
  have hx2 : ∀ x ∈ xs, ∃ t, x = V.ref t ∧ H2 t = some (.tup ((k x).map V.int)) := fun x m => let ⟨t, e1, e2⟩ := hx x m; ⟨t, e1, eN _ _ e2 (fun _ z => nomatch z)⟩
  obtain ⟨⟨oc, cvs, ct, hoc, hdc, hvc⟩, _, _⟩ := I2.hok c' _ hco2
  obtain ⟨mb, hb1, hb2⟩ := I2.mod.blt
  refine PySem.W.sorted_key_data (β := V) (R := fun u x => RelV x u) (fun x => lotKey (k x)) hl.isList (vals_each rv) (PySem.W.AllAlike.of fun b b' => alike_lotKey _ _) (PySem.W.Sortable.tuples fun b => ⟨_, _, rfl⟩) hsz
    (fun x _ => by have := depth_lotKey (k x); omega) (PyProof.Rows.ksk_s1 _ _) (fun _ => PyProof.Rows.ksk_l1 _ _) (fun x => PyProof.Rows.ksk_t1 f x) ?_ ?_
  · intro v x hR hxm h' tk' hk'
    obtain ⟨t, rfl, ht⟩ := hx2 x hxm
    obtain rfl : v = Value.ref t := hR
    obtain ⟨hz, jts, rj, tj⟩ := I2.hok t _ ht
    refine lotkey_turn (hroom := hdp) (hk' _ _ hf) hco hgen hk (fun z hz => (hcell z hz).1) hy hlen (fun v => hbind _ _ _ _ v) ⟨c', oc, cvs, ct, rfl, hk' _ _ hoc, hdc, hvc⟩
      ((I2.mod.glob.keeps I2.bk).keeps hk') hmL ((hb1.keeps I2.bk).keeps hk') ((hb2 _ (by decide)).trans PySem.boot_len) (I2.nolimit.keeps hk') (tj.keeps hk') rj.ints (by rw [← rj.length]; exact hz) hyd
  · intro out cc h' tk' hk' hfr' hnew hol heach
    have hpm : (xs.mergeSort (PySem.W.dataLe false fun x => lotKey (k x))).Perm xs := List.mergeSort_perm ..
    refine ⟨.ref (s2.heap.objs.size + 1), upd H2 (s2.heap.objs.size + 1) (.lst (xs.mergeSort (PySem.W.dataLe false fun x => lotKey (k x)))), I2.laid (t' := tk') hk' (Nat.le_succ _) ?_, rfl, ?_⟩
    · exact ⟨by rw [hpm.length_eq]; exact hsz, out, cc, each_vals heach, hnew⟩
    · have nf : H2 (s2.heap.objs.size + 1) = none := I2.hok.fresh (Nat.le_succ _)
      refine q _ _ _ eN T2 hpm ?_ nf
      have z := PySem.W.sortLe_total (listOrd itemOrd) false (fun x : V => PySem.W.keyToks (lotKey (k x)))
      exact List.pairwise_mergeSort (le := PySem.W.dataLe false fun x => lotKey (k x)) (fun a b c => z.trans a b c) (fun a b => Bool.or_eq_true _ _ |>.mpr (z.total a b)) xs
end
end Rg
namespace Rg
open PySem PySem.Spec PyProof.Rows L2
/-! ### enumerate(t), t a tuple -/
theorem meets_enum1 {v : Value} {ob : Obj} {Hz : Heap → Prop} (B : Begins v ob Hz) :
    Meets (Builtin.«enumerate.__new__» ⟨[.type "enumerate", v], []⟩) (fun _ R s => Hz s.heap ∧
      R (.ok (.ret (.ref (s.heap.push ob).objs.size))) { s with heap := (s.heap.push ob).push { cls := .type "enumerate", data := .fields #[.none, .bool false, .ref s.heap.objs.size, rawInt 0, .none, .none] } }) :=
  .of_wp fun prog w A R s h => by
    obtain ⟨hp, gg, dd, tk, os⟩ := s
    obtain ⟨hz, h⟩ := h
    have hsub := sub_enumerate
    have go : ∀ {A' : Around} {E' : Value → Shared → Prop} {Q' : Value → Shared → Prop}, Q' (.ref hp.objs.size) ⟨hp.push ob, gg, dd, tk, os⟩ → wpAny (model prog w) A' (pyIter v) Q' E' ⟨hp, gg, dd, tk, os⟩ :=
      fun q => B.iter prog w _ _ ⟨hp, gg, dd, tk, os⟩ _ hz q
    wp_walk using go
    refine wpAny_stack_any fun st => wpAny_pure ?_
    split
    · rename_i c _ _ _ _ _
      cases (c == Value.type "enumerate")
      · wp_walk using go
        exact ⟨_, rfl, h⟩
      · wp_walk using go
        exact ⟨_, rfl, h⟩
    · wp_walk using go
      exact ⟨_, rfl, h⟩
section
variable {prog : Program} {w : World} {A : Around} {E : Value → Shared → Prop} {s : Shared}
theorem call_enum1 {v : Value} {ob : Obj} {Hz : Heap → Prop} {Q : Value → Shared → Prop} (B : Begins v ob Hz) (hz : Hz s.heap)
    (k : ∀ g, IsEnum g (s.heap.objs.size + 1) s.heap.objs.size 0 .none → g.get? s.heap.objs.size = some ob → (∀ c u, s.heap.get? c = some u → g.get? c = some u) → Q (.ref (s.heap.objs.size + 1)) { s with heap := g }) :
    wpAny (model prog w) A (call (.type "enumerate") [v]) Q E s := by
  refine callType_new F.called_enumerate (by decide) (F.typeCall_enumerate_1 _) (F.newCall_enumerate_1 _) (fun obj => F.args_object_init_2 obj _) F.entry_enumerate_new (meets_enum1 B) ⟨hz, ?_⟩
  have sz : (s.heap.push ob).objs.size = s.heap.objs.size + 1 := Heap.size_push ..
  show _ ∧ _
  rw [sz]
  have ie : IsEnum ((s.heap.push ob).push { cls := .type "enumerate", data := .fields #[.none, .bool false, .ref s.heap.objs.size, rawInt 0, .none, .none] }) (s.heap.objs.size + 1) s.heap.objs.size 0 .none := by
    have z := Heap.get?_push_size (s.heap.push ob) (o := { cls := .type "enumerate", data := .fields #[.none, .bool false, .ref s.heap.objs.size, rawInt 0, .none, .none] }) rfl
    rw [sz] at z
    exact z
  exact ⟨⟨_, ie, rfl⟩, k _ ie (Heap.get?_push_of_some _ (Heap.get?_push_size _ B.free)) fun c u x => Heap.get?_push_of_some _ (Heap.get?_push_of_some _ x)⟩
end
/-- the tuple at a as it stands at each turn, each item in a new pair -/
def IteT (K : PySem.W.Frag) (a : Addr) : It :=
  ⟨fun i H => ∃ (xs : List V) (x : V), SqT K H a xs ∧ xs[i]? = some x, fun i H v H' => ∃ T x, v = .ref T ∧ H T = none ∧ H' = upd H T (.tup [.int (i : Nat), x]) ∧ ∀ xs, SqT K H a xs → xs[i]? = some x, fun i H => ∃ xs : List V, SqT K H a xs ∧ xs.length ≤ i⟩
theorem turn_enumT {P : Program} {w : World} {K : PySem.W.Frag} {elts : List Expr} {kk : Nat} {tpos : Pos} (a e it : Addr) :
    Turn P w K (.Tuple elts kk tpos) (IteT K a) [e, it] e (fun i h => (∃ old, IsEnum h e it ((i : Nat) : Int) old) ∧ h.IsTupleIter it a i ∧ e ≠ it) where
  mem := List.mem_cons_self ..
  obj := by
    rintro i h ⟨⟨old, he⟩, ⟨o, ho, hc, hd⟩, _⟩ b hb
    rcases List.mem_cons.mp hb with z | z
    · rw [z]; exact ⟨_, he, fun v q => nomatch q⟩
    · rw [List.mem_singleton.mp z]; exact ⟨o, ho, fun v q => by rw [hd] at q; cases q⟩
  keep := by
    rintro i h h' ⟨⟨old, he⟩, hi, hne⟩ k
    exact ⟨⟨old, k e (by simp) _ he⟩, hi.at fun o q => k it (by simp) o q, hne⟩
  item := by
    intro X hP hw hK hc i pins s σ H E I hf st hg
    subst hP hw hK
    obtain ⟨⟨old, he⟩, hit, hne⟩ := st
    obtain ⟨xs, x, hq, hx⟩ := hg
    obtain ⟨its, rv, tp, hz⟩ := I.tuple hq
    obtain ⟨u, hu, ru⟩ := rv.get hx
    have hel : e < s.heap.objs.size := Heap.lt_size he
    have hil : it < s.heap.objs.size := by obtain ⟨_, q, _⟩ := hit; exact Heap.lt_size q
    obtain ⟨ot, hot, hct, nt, hdt⟩ := tp
    have nai : a ≠ it := fun z => by
      obtain ⟨oi, hoi, hci, _⟩ := hit
      rw [← z, hot] at hoi
      cases hoi
      rw [hct] at hci
      exact absurd (Value.type.inj hci) (by decide)
    have nae : a ≠ e := fun z => by
      have he' := he
      rw [IsEnum, ← z, hot] at he'
      cases he'
      exact absurd (Value.type.inj hct) (by decide)
    have hlt : i < its.toArray.size := by
      rw [List.size_toArray]
      exact (List.getElem?_eq_some_iff.mp hu).1
    refine wpAny_pyNext_enum_itemD (Draws.tuple (A := X.A.in1) (I.ok.hd hc) it a nai its.toArray) he ⟨hit, ⟨ot, hot, hct, nt, hdt⟩⟩ hlt hne (by simp [hne, Ne.symm nae]) fun u' g tk hP ho hst' hT hsz hk => ?_
    have eu : u' = u := by
      have h1 : its.toArray[i]? = some u' := hP
      rw [List.getElem?_toArray, hu] at h1
      exact (Option.some.inj h1).symm
    subst eu
    refine ⟨_, rfl, wpAny_letOwnedTupleGo_enum (s := { s with heap := g, toks := tk + 1 }) ho fun g2 he' sb => ?_⟩
    have hT2 : g2.get? s.heap.objs.size = some { cls := .type "tuple", data := .seq #[.int i tk, u'] } := (sb.2 _ (Nat.ne_of_gt hel)).trans hT
    have I1 : Inv X pins σ (upd H s.heap.objs.size (.tup [.int (i : Nat), x])) { s with heap := g2, toks := tk + 1 } :=
      I.turnedNew (ch := [e, it]) (fun b ob hb q => (sb.2 b (fun z => hb (by simp [z]))).trans (hk b ob (fun z => hb (by simp [z])) (fun z => hb (by simp [z])) q)) hf (Nat.le_refl _)
        ⟨by show 2 ≤ sizeLine; decide, [.int i tk, u'], .cons ⟨_, rfl⟩ (.cons ru .nil), ⟨_, hT2, rfl, _, rfl⟩⟩
    refine ⟨.ref s.heap.objs.size, _, I1, rfl, ⟨_, x, rfl, I.hok.fresh (Nat.le_refl _), rfl, fun ys hy => by rw [I.tuple_inj hy hq]; exact hx⟩, ⟨⟨u', ?_⟩, hst'.1.at fun o q => (sb.2 it (Ne.symm hne)).trans q, hne⟩, fun b hb => ?_⟩
    · have e1 : ((i + 1 : Nat) : Int) = (i : Int) + 1 := by omega
      rw [e1]
      exact he'
    · have hb' : b < s.heap.objs.size := by
        rcases List.mem_cons.mp hb with z | z
        · rw [z]; exact hel
        · rw [List.mem_singleton.mp z]; exact hil
      rw [upd_ne (Nat.ne_of_lt hb')]
      exact (hf b hb).1
  done := by
    intro X hP hw hK hc i pins s σ H E I hf st hg
    subst hP hw hK
    obtain ⟨⟨old, he⟩, hit, hne⟩ := st
    obtain ⟨xs, hq, hx⟩ := hg
    obtain ⟨its, rv, tp, hz⟩ := I.tuple hq
    obtain ⟨f0, f1, f2, f3, f4, f5⟩ := hf it (by simp)
    have hl := rv.length
    have hT : s.TypeIs (.ref e) "enumerate" := ⟨_, he, rfl⟩
    unfold pyNext
    refine wpAny_bind (wpAny_attempt (wpAny_callSpecial?_slot (name := Str.ofString "__next__") hT F.slot_enumerate_next
      (wpAny_call_entry F.slot_enumerate_next hT F.entry_enumerate_next ?_ (F.args_enumerate_next_1 _))))
    show wpAny _ _ (field (.ref e) 2 >>= _) _ _ _
    refine wpAny_bind (wpAny_field he rfl (x := .ref it) rfl ?_)
    refine wpAny_bind (wpAny_nextOf_tuple_end (I.ok.hd hc) hit tp (by simp; omega) fun g x eb hx' => ?_)
    obtain ⟨o, ho, hcl⟩ := hx'
    refine wpAny_bind (wpAny_isInstance (T := "StopIteration") (b := true) ⟨o, ho, hcl⟩ isSubtype_stop ?_)
    exact wpAny_pure ⟨rfl, I.turned (t' := s.toks) (fun b o hb q => eb b o hb q) f0 f1 f3 f4 f5⟩
  self := fun A i s Q E st h => let ⟨⟨_, he⟩, _⟩ := st; wpAny_pyIter_enum he h
def iEnumT (K : PySem.W.Frag) (ta : TA) : TI := fun σ H R => ta σ H fun vs H1 => ∃ a xs, vs = [.ref a] ∧ SqT K H1 a xs ∧ R (IteT K a) H1
theorem pi_enumT {X : Cx} {e : Expr} {ta : TA} {p pos tpos : Pos} {elts : List Expr} {kk : Nat} (hg : Gl X "enumerate") (hm : X.mg "enumerate" = none) (ha : PA X [e] ta) (hs : starEach [e] X.env = [(false, eval e X.env)] := by rfl) :
    PI X (.Tuple elts kk tpos) (.Call (.Name "enumerate" p) [e] [] pos) (iEnumT X.K ta) := by
  refine ⟨fun pins s σ H R I h => ?_⟩
  refine Call_ (ld_blt I hg hm boot_enumerate (PyProof.Rows.callWith_type1 (thn (ha.run pos pins s σ H _ I h) fun us s1 ⟨vs, H1, I1, r1, q1⟩ => ?_) hs rfl))
  obtain ⟨a, xs, rfl, hq, q⟩ := q1
  rw [Vals.ref1 r1]
  obtain ⟨its, rv, tp, hz⟩ := I1.tuple hq
  refine call_enum1 (begins_tuple a its.toArray) tp fun g he hit hk => wpAny_pyIter_enum he ?_
  have I2 : Inv X pins σ H1 { s1 with heap := g } := I1.kept (t' := s1.toks) hk
  refine ⟨s1.heap.objs.size + 1, [s1.heap.objs.size + 1, s1.heap.objs.size], _, _, H1, rfl, I2, turn_enumT a (s1.heap.objs.size + 1) s1.heap.objs.size, ⟨⟨.none, he⟩, ⟨_, hit, rfl, rfl⟩, Nat.succ_ne_self _⟩, fun b hb => ?_, q⟩
  have hle : s1.heap.objs.size ≤ b := by
    rcases List.mem_cons.mp hb with z | z
    · rw [z]; exact Nat.le_succ _
    · rw [List.mem_singleton.mp z]; exact Nat.le_refl _
  exact I1.fpOk hle (I1.hok.fresh hle)
theorem walk_enumT {K : PySem.W.Frag} {a : Addr} {xs : List V} : Walk (IteT K a) xs.length (fun H => SqT K H a xs) (YPair (fun i => some (.int (i : Nat))) (fun i => xs[i]?)) := by
  refine ⟨fun i _ hi q => ⟨xs, xs[i], q, List.getElem?_eq_getElem hi⟩, fun _ q => ⟨xs, q, Nat.le_refl _⟩, fun i H v H' _ q y => ?_⟩
  obtain ⟨T, x, y1, y2, y3, y4⟩ := y
  exact ⟨T, .int (i : Nat), x, y1, y2, y3, rfl, y4 xs q⟩
end Rg
namespace K
open PySem L2 Rg
open Evl (pss_cut)
def top (i : Nat) : Stmt := PySem.Challenge.pw_ringbars_k52_signs_for_told_lots.main.body.getD i (.Pass ⟨0, 0, 0, 0⟩)
abbrev sWall : Stmt := top 0
abbrev sFixed : Stmt := top 2
abbrev sPaperInit : Stmt := inClass (top 3) 0
abbrev sPaperEq : Stmt := inClass (top 3) 1
abbrev sPaperBool : Stmt := inClass (top 3) 2
abbrev sDenialEq : Stmt := inClass (top 4) 0
abbrev sDenialBool : Stmt := inClass (top 4) 1
abbrev sAreEqual : Stmt := top 5
abbrev sIsCalled : Stmt := top 6
abbrev sIsInteger : Stmt := top 8
abbrev sIsWithin : Stmt := top 9
abbrev sIsList : Stmt := top 10
abbrev sIsNumbers : Stmt := top 11
abbrev sIsExactly : Stmt := top 12
abbrev sFirstTwice : Stmt := top 13
abbrev sTwiceAt : Stmt := top 14
abbrev sBadRingInit : Stmt := inClass (top 17) 0
abbrev sBadLotInit : Stmt := inClass (top 18) 0
abbrev sBadLineUpInit : Stmt := inClass (top 19) 0
abbrev sMisfitInit : Stmt := inClass (top 20) 0
abbrev sMissingInit : Stmt := inClass (top 21) 0
abbrev sTwiceInit : Stmt := inClass (top 23) 0
abbrev sTooManyInit : Stmt := inClass (top 24) 0
abbrev sBadTextInit : Stmt := inClass (top 25) 0
abbrev sWantBar : Stmt := top 27
abbrev sWantLot : Stmt := top 28
abbrev sWantLots : Stmt := top 29
abbrev sWantAsMany : Stmt := top 30
abbrev sItemsOf : Stmt := top 33
abbrev sIntegerOf : Stmt := top 34
abbrev sItemAt : Stmt := top 35
abbrev sNumberAt : Stmt := top 36
abbrev sRingInit : Stmt := inClass (top 41) 0
abbrev sRingLen : Stmt := inClass (top 41) 1
abbrev sRingEq : Stmt := inClass (top 41) 2
abbrev sRingStr : Stmt := inClass (top 41) 3
abbrev sRingLengthOf : Stmt := inClass (top 41) 4
abbrev sRingSortOf : Stmt := inClass (top 41) 5
abbrev sRingWithLength : Stmt := inClass (top 41) 6
abbrev sRingBegunAt : Stmt := inClass (top 41) 7
abbrev sRingBackwards : Stmt := inClass (top 41) 8
abbrev sRingInOrder : Stmt := inClass (top 41) 9
abbrev sRingAsOne : Stmt := inClass (top 41) 10
abbrev sRingInTwo : Stmt := inClass (top 41) 11
abbrev sRingRead : Stmt := inClass (top 41) 12
abbrev sAreLengths : Stmt := top 42
abbrev sHasLevel : Stmt := top 43
abbrev sReadRing : Stmt := top 44
abbrev sWantRing : Stmt := top 45
abbrev sLineUpInit : Stmt := inClass (top 47) 0
abbrev sLineUpEq : Stmt := inClass (top 47) 1
abbrev sLineUpStr : Stmt := inClass (top 47) 2
abbrev sLineUpRead : Stmt := inClass (top 47) 3
abbrev sAreStrands : Stmt := top 48
abbrev sIsStrand : Stmt := top 49
abbrev sAsStrand : Stmt := top 50
abbrev sLineupItems : Stmt := top 51
abbrev sItemOf : Stmt := top 52
abbrev sReadLineup : Stmt := top 53
abbrev sPairsNext : Stmt := top 54
abbrev sNetsInit : Stmt := inClass (top 56) 0
abbrev sTooGreatInit : Stmt := inClass (top 57) 0
abbrev sSignsInit : Stmt := inClass (top 58) 0
abbrev sNoSignsInit : Stmt := inClass (top 59) 0
abbrev sCanLine : Stmt := top 60
abbrev sWithSigns : Stmt := top 61
abbrev sNetsOf : Stmt := top 62
abbrev sTooGreat : Stmt := top 63
abbrev sIsHad : Stmt := top 64
abbrev sFirstSigns : Stmt := top 65
abbrev sChoices : Stmt := top 66
abbrev sWithSign : Stmt := top 67
abbrev sWantLineup : Stmt := top 68
abbrev sWantLined : Stmt := top 69
abbrev sWantParted : Stmt := top 70
abbrev sShowsSigns : Stmt := top 72
abbrev sLwBench : Stmt := top 74
abbrev sLwDraw : Stmt := top 75
abbrev sLwPick : Stmt := top 76
abbrev sLwMixed : Stmt := top 77
abbrev sLwLengths : Stmt := top 78
abbrev sLwParting : Stmt := top 79
abbrev sLwIsHad : Stmt := top 80
abbrev sLwChoices : Stmt := top 81
abbrev sLwGreat : Stmt := top 82
abbrev sLwSignsRight : Stmt := top 83
abbrev sLwHeard : Stmt := top 84
abbrev sLwRefusedRight : Stmt := top 85
abbrev sLaw : Stmt := top 86

/-- all but what stands at p is as it was -/
def But (p : Addr) (H H' : Hp) : Prop := ∀ b o, b ≠ p → H b = some o → H' b = some o
theorem But.refl (p : Addr) (H : Hp) : But p H H := fun _ _ _ h => h
theorem But.trans {p : Addr} {H H1 H2 : Hp} (a : But p H H1) (b : But p H1 H2) : But p H H2 := fun c o n h => b c o n (a c o n h)
theorem But.new {p q : Addr} {H H' : Hp} {o : HO} (a : But p H H') (n : H' q = none) : But p H (upd H' q o) := fun c u hc h => by
  have e := a c u hc h
  rw [upd_ne (ne_of_none e n)]
  exact e
theorem But.at {p : Addr} {H H' : Hp} {o : HO} (a : But p H H') : But p H (upd H' p o) := fun c u hc h => by
  rw [upd_ne hc]
  exact a c u hc h
theorem But.seq {K : PySem.W.Frag} {p a : Addr} {H H' : Hp} {xs : List V} (e : But p H H') (n : a ≠ p) (h : SqL K H a xs) : SqL K H' a xs := by
  rcases h with (h | ⟨o, h⟩) | h
  · exact .inl (.inl (e _ _ n h))
  · exact .inl (.inr ⟨o, e _ _ n h⟩)
  · exact .inr h
/-- the pen: its cells, how many were begun (at most n), what a great one has left -/
structure PenAt (K : PySem.W.Frag) (H : Hp) (p : Addr) (e : Addr × List Int) (n : Nat) : Prop where
  ex : ∃ (at' rest : Int), H p = some (.lst [.ref e.1, .int at', .int rest]) ∧ 0 ≤ at' ∧ at' ≤ n ∧ 0 ≤ rest
  sq : SqL K H e.1 (e.2.map V.int)
  np : e.1 ≠ p
  ln : e.2.length ≤ 62
theorem But.of {p : Addr} {H H' : Hp} (e : Same H H') : But p H H' := fun b o _ h => e b o h
theorem But.mut {p q : Addr} {H H' : Hp} {o : HO} (a : But p H H') (n : H q = none) : But p H (upd H' q o) := fun c u hc h => by
  have e := a c u hc h
  rw [upd_ne (ne_of_none h n)]
  exact e
theorem But.free {p q : Addr} {H H' : Hp} (a : But p H H') (hq : q ≠ p) (n : H' q = none) : H q = none := by
  cases e : H q with
  | none => rfl
  | some o =>
    rw [a q o hq e] at n
    cases n
theorem But.tup {K : PySem.W.Frag} {p a : Addr} {H H' : Hp} {xs : List V} (e : But p H H') (n : a ≠ p) (h : SqT K H a xs) : SqT K H' a xs := by
  rcases h with (h | ⟨o, h⟩) | h
  · exact .inl (.inl (e _ _ n h))
  · exact .inl (.inr ⟨o, e _ _ n h⟩)
  · exact .inr h
theorem _root_.L2.Same.new {q : Addr} {H H' : Hp} {o : HO} (a : Same H H') (n : H' q = none) : Same H (upd H' q o) := fun c u h => by
  have e := a c u h
  rw [upd_ne (ne_of_none e n)]
  exact e
theorem _root_.L2.Same.mut {q : Addr} {H H' : Hp} {o : HO} (a : Same H H') (n : H q = none) : Same H (upd H' q o) := fun c u h => by
  have e := a c u h
  rw [upd_ne (ne_of_none h n)]
  exact e
theorem _root_.L2.Same.tup {K : PySem.W.Frag} {a : Addr} {H H' : Hp} {xs : List V} (e : Same H H') (h : SqT K H a xs) : SqT K H' a xs := by
  rcases h with (h | ⟨o, h⟩) | h
  · exact .inl (.inl (e _ _ h))
  · exact .inl (.inr ⟨o, e _ _ h⟩)
  · exact .inr h
section
variable {K : PySem.W.Frag} {H H' : Hp} {p q : Addr} {e : Addr × List Int} {n m : Nat} {o : HO}
theorem PenAt.mono (h : PenAt K H p e n) (le : n ≤ m) : PenAt K H p e m := by
  obtain ⟨a, r, h1, h5, h6, h7⟩ := h.ex
  exact ⟨⟨a, r, h1, h5, by omega, h7⟩, h.sq, h.np, h.ln⟩
/-- the pen stands while all that is tracked stands -/
theorem PenAt.same (h : PenAt K H p e n) (s : Same H H') : PenAt K H' p e n := by
  obtain ⟨a, r, h1, h5, h6, h7⟩ := h.ex
  exact ⟨⟨a, r, s _ _ h1, h5, h6, h7⟩, s.seq h.sq, h.np, h.ln⟩
theorem PenAt.some (h : PenAt K H p e n) : ∃ xs, H p = some (.lst xs) := by
  obtain ⟨a, r, h1, _⟩ := h.ex
  exact ⟨_, h1⟩
theorem PenAt.ne (h : PenAt K H p e n) (z : H q = none) : q ≠ p := by
  obtain ⟨xs, h1⟩ := h.some
  exact (ne_of_none h1 z).symm
/-- the pen stands while a new thing is laid -/
theorem PenAt.put (h : PenAt K H p e n) (z : H q = none) : PenAt K (upd H q o) p e n := h.same (Same.new (Same.refl H) z)
/-- .. while a thing is written that was not there ahead -/
theorem PenAt.mut (h : PenAt K H p e m) (h2 : PenAt K H' p e n) (b : But p H H') (z : H q = none) : PenAt K (upd H' q o) p e n := by
  obtain ⟨a, r, h1, h5, h6, h7⟩ := h2.ex
  exact ⟨⟨a, r, by rw [upd_ne (h.ne z).symm]; exact h1, h5, h6, h7⟩, (b.mut z).seq h.np h.sq, h.np, h.ln⟩
end
/-- the built-ins that the text names -/
structure Bi (mg : Str → Option Value) : Prop where
  int : mg "int" = none
  len : mg "len" = none
  abs : mg "abs" = none
  list : mg "list" = none
  tuple : mg "tuple" = none
  bool : mg "bool" = none
  range : mg "range" = none
  sum : mg "sum" = none
  max : mg "max" = none
  all : mg "all" = none
  any : mg "any" = none
  sorted : mg "sorted" = none
  enumerate : mg "enumerate" = none
  isinstance : mg "isinstance" = none
section
variable {K : PySem.W.Frag}
theorem eqv_nil (l : List Int) : PyData.eqv (.list (l.map PyData.int)) (.list []) = l.isEmpty := by
  cases l <;> simp [PyData.eqv, PyData.eqvAll] <;> rfl
theorem dp_ints {H : Hp} : ∀ l : List Int, DpAll K H (l.map V.int) (l.map PyData.int)
  | [] => .nil
  | i :: l => .cons (.int i) (dp_ints l)
theorem lay_ints : ∀ l : List Int, PyData.canLayAll0 (l.map PyData.int) = true
  | [] => by simp [PyData.canLayAll0]
  | i :: l => by simp [PyData.canLayAll0, PyData.canLay0, lay_ints l]
theorem deep_ints : ∀ l : List Int, PyData.depthAll (l.map PyData.int) = 0
  | [] => by simp [PyData.depthAll]
  | i :: l => by simp [PyData.depthAll, PyData.depth, deep_ints l]
theorem shaped_ints (l : List Int) : SeqAt.shaped (.list (l.map PyData.int)) = true := by
  simp [SeqAt.shaped, PyData.canLay0, PyData.depth, lay_ints l, deep_ints l]
end
end K
namespace K
open PySem L2 Rg
open Evl (pss_cut)
/-- the kinds that are asked for -/
def kinds : List String := ["NoneType", "bool", "int", "str", "list", "tuple", "dict"]
theorem kit_int : ∀ k ∈ kinds, kitB k "int" = some (decide (k = "int" ∨ k = "bool")) := by decide +kernel
theorem kit_bool : ∀ k ∈ kinds, kitB k "bool" = some (decide (k = "bool")) := by decide +kernel
theorem kit_list : ∀ k ∈ kinds, kitB k "list" = some (decide (k = "list")) := by decide +kernel
theorem kit_tuple : ∀ k ∈ kinds, kitB k "tuple" = some (decide (k = "tuple")) := by decide +kernel
/-- v is of the kind k -/
def Knd (K : PySem.W.Frag) (H : Hp) (v : V) (k : String) : Prop := TyX K H v (.type k) ∧ k ∈ kinds
section
variable {P : Program} {w : World} {K : PySem.W.Frag} {mg : Str → Option Value} {base : Heap}
theorem Knd.int {H : Hp} {i : Int} : Knd K H (.int i) "int" := ⟨.base (.int i), by decide⟩
theorem tyx_same {H H' : Hp} {v : V} {t : Value} (h : TyX K H v t) (s : Same H H') : TyX K H' v t := by
  cases h with
  | base h =>
    refine .base ?_
    cases h with
    | non => exact .non
    | bl x => exact .bl x
    | int x => exact .int x
    | str x => exact .str x
    | flt x => exact .flt x
    | lst e => exact .lst (s _ _ e)
    | frz e => exact .frz (s _ _ e)
    | tup e => exact .tup (s _ _ e)
    | dK e => exact .dK (s _ _ e)
    | dT e => exact .dT (s _ _ e)
    | ins e cl ha hn htk hm => exact .ins (s _ _ e) cl ha hn htk hm
  | byt b => exact .byt b
  | set e => exact .set (s _ _ e)
  | kList e c => exact .kList e c
  | kTuple e c => exact .kTuple e c
  | kDict e c => exact .kDict e c
  | fTuple e => exact .fTuple (s _ _ e)
  | fDict e => exact .fDict (s _ _ e)
theorem Knd.same {H H' : Hp} {v : V} {k : String} (h : Knd K H v k) (s : Same H H') : Knd K H' v k := ⟨tyx_same h.1 s, h.2⟩
/-! ### is_integer -/
def spIsInt (K : PySem.W.Frag) : Sp := fun vs H Q _ => ∃ (v : V) (k : String), vs = [v] ∧ Knd K H v k ∧ Q (.bl (decide (k = "int"))) H
theorem scIsInt : FnScope ["value"] ["value"] (defScope sIsInteger) := ⟨rfl, rfl, rfl, by decide +kernel, rfl, by decide +kernel, by decide +kernel⟩
theorem ok_isInt {f : Addr} {fd : FuncData} (F : Fun K "is_integer" "is_integer" sIsInteger f fd) (T : Bi mg) : FnOk P w K mg base CX0 1 f fd ["value"] (spIsInt K) := by
  refine F.ok scIsInt (fun vs H Q E h => ?_) (fun cdv A outer s H vs Q E hr h => ?_)
  · obtain ⟨v, k, rfl, _⟩ := h
    rfl
  · refine ⟨_, pss_one (ps_ret (pe_and (pe_callB call_isi (by rfl) T.isinstance (by decide +kernel) (pa_cons (pv 0) (pa_cons (pe_bltn (v := .ty "int") (u := .type "int") (by rfl) T.int (by decide +kernel) rfl) pa_nil)))
      (pe_one (pe_not (pe_callB call_isi (by rfl) T.isinstance (by decide +kernel) (pa_cons (pv 0) (pa_cons (pe_bltn (v := .ty "bool") (u := .type "bool") (by rfl) T.bool (by decide +kernel) rfl) pa_nil))))))), ?_⟩
    obtain ⟨v, k, rfl, ⟨ty, hk⟩, q⟩ := h
    refine ⟨_, rfl, v, .ty "int", _, _, _, rfl, .ty _, ty, kit_ty (kit_int k hk), _, rfl, ?_⟩
    refine ite2 (fun c => ?_) (fun c => ?_)
    · refine ⟨_, rfl, v, .ty "bool", _, _, _, rfl, .ty _, ty, kit_ty (kit_bool k hk), _, rfl, ?_⟩
      have c' : k = "int" ∨ k = "bool" := of_decide_eq_true c
      have e : (!decide (k = "bool")) = decide (k = "int") := by
        rcases c' with rfl | rfl <;> decide
      rw [e]
      exact q
    · have c' : ¬ (k = "int" ∨ k = "bool") := fun z => c (decide_eq_true z)
      have e : decide (k = "int") = false := decide_eq_false fun z => c' (.inl z)
      rw [e] at q
      exact q
/-! ### is_list -/
def spIsList (K : PySem.W.Frag) : Sp := fun vs H Q _ => ∃ (v : V) (k : String), vs = [v] ∧ Knd K H v k ∧ ∀ H', Same H H' → Q (.bl (decide (k = "list" ∨ k = "tuple"))) H'
theorem scIsList : FnScope ["value"] ["value"] (defScope sIsList) := ⟨rfl, rfl, rfl, by decide +kernel, rfl, by decide +kernel, by decide +kernel⟩
theorem ok_isList {f : Addr} {fd : FuncData} (F : Fun K "is_list" "is_list" sIsList f fd) (T : Bi mg) : FnOk P w K mg base CX0 1 f fd ["value"] (spIsList K) := by
  refine F.ok scIsList (fun vs H Q E h => ?_) (fun cdv A outer s H vs Q E hr h => ?_)
  · obtain ⟨v, k, rfl, _⟩ := h
    rfl
  · refine ⟨_, pss_one (ps_ret (pe_callB call_isiT (by rfl) T.isinstance (by decide +kernel) (pa_cons (pv 0) (pa_cons (pe_tup (pa_cons (pe_bltn (v := .ty "list") (u := .type "list") (by rfl) T.list (by decide +kernel) rfl) (pa_cons (pe_bltn (v := .ty "tuple") (u := .type "tuple") (by rfl) T.tuple (by decide +kernel) rfl) pa_nil))) pa_nil)))), ?_⟩
    obtain ⟨v, k, rfl, ⟨ty, hk⟩, q⟩ := h
    refine ⟨_, rfl, (by show 2 ≤ sizeLine; decide), fun p hp => ?_⟩
    have s1 : Same H (upd H p (.tup [.ty "list", .ty "tuple"])) := (Same.refl H).new hp
    refine ⟨v, p, [.ty "list", .ty "tuple"], _, _, decide (k = "list" ∨ k = "tuple"), rfl, upd_same, .cons (.ty _) (.cons (.ty _) .nil), tyx_same ty s1, kitAny_cons (kit_ty (kit_list k hk)) (fun e => kitAny_cons (b := decide (k = "tuple")) (r := decide (k = "list" ∨ k = "tuple")) (kit_ty (kit_tuple k hk)) (fun e' => ?_) fun e' => ?_) fun e => ?_, q _ s1⟩
    · have h1 : ¬ k = "list" := of_decide_eq_false e
      have h2 : ¬ k = "tuple" := of_decide_eq_false e'
      rw [kitAny_nil, decide_eq_false (fun z => z.elim h1 h2)]
    · exact decide_eq_true (.inr (of_decide_eq_true e'))
    · exact decide_eq_true (.inl (of_decide_eq_true e))
end
end K
namespace K
open PySem L2 Rg
open Evl (pss_cut)
theorem iteDT {c A B : Prop} [Decidable c] (hc : c) (h : A) : if decide c = true then A else B := by
  rw [if_pos (decide_eq_true hc)]; exact h
theorem iteDF {c A B : Prop} [Decidable c] (hc : ¬ c) (h : B) : if decide c = true then A else B := by
  rw [if_neg (by rw [decide_eq_false hc]; exact Bool.false_ne_true)]; exact h
theorem iteBT {c : Bool} {A B : Prop} (hc : c = true) (h : A) : if c = true then A else B := by
  rw [if_pos hc]; exact h
theorem iteBF {c : Bool} {A B : Prop} (hc : c = false) (h : B) : if c = true then A else B := by
  rw [if_neg (by rw [hc]; exact Bool.false_ne_true)]; exact h
theorem sm {n : Nat} (h : n ≤ 10000) : n < sizeLine := Nat.lt_of_le_of_lt h (by decide)
/-- a def of the text, by its name -/
structure DefAt (P : Program) (w : World) (K : PySem.W.Frag) (mg : Str → Option Value) (base : Heap) (CX : CXT) (k : Nat) (x : Str) (ps : List Str) (sp : Sp) (f : Addr) (fd : FuncData) : Prop where
  ok : FnOk P w K mg base CX k f fd ps sp
  g : mg x = some (.ref f)
  kp : PySem.W.keepIn K (.ref f) = true
  b : Binds K fd ps []
section
variable {P : Program} {w : World} {K : PySem.W.Frag} {mg : Str → Option Value} {base : Heap}
/-- two promises of one def -/
theorem fn_or {CX : CXT} {k : Nat} {f : Addr} {fd : FuncData} {ps : List Str} {sp sp' : Sp} (F : FnOk P w K mg base CX k f fd ps sp) (G : FnOk P w K mg base CX k f fd ps sp') : FnOk P w K mg base CX k f fd ps (fun vs H Q E => sp vs H Q E ∨ sp' vs H Q E) :=
  ⟨fun vs H Q E h => h.elim (F.len vs H Q E) (G.len vs H Q E), fun A outer s H args us vs Q E hr e0 hb hv h => h.elim (F.run A outer s H args us vs Q E hr e0 hb hv) (G.run A outer s H args us vs Q E hr e0 hb hv)⟩
/-! ### is_within, of ints -/
def spWithin : Sp := fun vs H Q _ => ∃ (v lo hi : Int), vs = [.int v, .int lo, .int hi] ∧ Q (.bl (decide (lo ≤ v) && decide (v ≤ hi))) H
theorem scWithin : FnScope ["value", "least", "most"] ["value", "least", "most"] (defScope sIsWithin) := ⟨rfl, rfl, rfl, by decide +kernel, rfl, by decide +kernel, by decide +kernel⟩
theorem ok_within {f fI : Addr} {fd fdI : FuncData} (F : Fun K "is_within" "is_within" sIsWithin f fd) (G : DefAt P w K mg base CX0 1 "is_integer" ["value"] (spIsInt K) fI fdI) : FnOk P w K mg base CX0 2 f fd ["value", "least", "most"] spWithin := by
  refine F.ok scWithin (fun vs H Q E h => ?_) (fun cdv A outer s H vs Q E hr h => ?_)
  · obtain ⟨v, lo, hi, rfl, _⟩ := h
    rfl
  · refine ⟨_, pss_cons (ps_if (pt_not (pt_val (pe_call G.ok hr rfl G.g G.kp G.b .nil pass0 (pa_cons (pv 0) pa_nil)))) (pss_one (ps_ret pe_bl)) pss_nil)
      (pss_one (ps_ret (pe_and (pe_or (pe_cmpR op_isN (pv 1) pe_non (nomark _)) (pe_one (pe_cmpR op_ge (pv 0) (pv 1) (nomark _)))) (pe_one (pe_or (pe_cmpR op_isN (pv 2) pe_non (nomark _)) (pe_one (pe_cmpR op_le (pv 0) (pv 2) (nomark _)))))))), ?_⟩
    obtain ⟨v, lo, hi, rfl, q⟩ := h
    refine ⟨_, rfl, V.int v, "int", rfl, Knd.int, _, rfl, iteNS rfl ?_⟩
    refine ⟨_, rfl, rfl, _, rfl, iteDF (fun z => nomatch z) ⟨_, rfl, _, rfl, _, _, rfl, rfl, _, rfl, ?_⟩⟩
    refine ite2 (fun c => ?_) (fun c => ?_)
    · have c' : lo ≤ v := of_decide_eq_true c
      refine ⟨_, rfl, rfl, _, rfl, iteDF (fun z => nomatch z) ⟨_, rfl, _, rfl, _, _, rfl, rfl, ?_⟩⟩
      rw [decide_eq_true c', Bool.true_and] at q
      exact q
    · have c' : ¬ lo ≤ v := fun z => c (decide_eq_true z)
      rw [decide_eq_false c', Bool.false_and] at q
      exact q
/-! ### is_numbers -/
abbrev nNums : List Str := ["value", "one"]
theorem scNums : FnScope nNums ["value"] (defScope sIsNumbers) := ⟨rfl, rfl, rfl, by decide +kernel, rfl, by decide +kernel, by decide +kernel⟩
/-- of what is no list or tuple | of a list | of a tuple -/
def spNumsO (K : PySem.W.Frag) : Sp := fun vs H Q _ => ∃ (v : V) (k : String), vs = [v] ∧ Knd K H v k ∧ k ≠ "list" ∧ k ≠ "tuple" ∧ ∀ H', Same H H' → Q (.bl false) H'
def spNumsL (K : PySem.W.Frag) : Sp := fun vs H Q _ => ∃ (a : Addr) (xs : List V) (kf : V → String), vs = [.ref a] ∧ Knd K H (.ref a) "list" ∧ SqL K H a xs ∧ xs.length ≤ 1000 ∧ (∀ x ∈ xs, Knd K H x (kf x)) ∧ ∀ H', Same H H' → Q (.bl (xs.all fun x => decide (kf x = "int"))) H'
def spNumsT (K : PySem.W.Frag) : Sp := fun vs H Q _ => ∃ (a : Addr) (xs : List V) (kf : V → String), vs = [.ref a] ∧ Knd K H (.ref a) "tuple" ∧ SqT K H a xs ∧ xs.length ≤ 1000 ∧ (∀ x ∈ xs, Knd K H x (kf x)) ∧ ∀ H', Same H H' → Q (.bl (xs.all fun x => decide (kf x = "int"))) H'
theorem all_map_bl (xs : List V) (g : V → Bool) : ((xs.map g).all id) = xs.all g := by
  rw [List.all_map]; rfl
theorem ok_numsO {f fI fL : Addr} {fd fdI fdL : FuncData} (F : Fun K "is_numbers" "is_numbers" sIsNumbers f fd) (T : Bi mg) (G : DefAt P w K mg base CX0 1 "is_integer" ["value"] (spIsInt K) fI fdI) (L : DefAt P w K mg base CX0 1 "is_list" ["value"] (spIsList K) fL fdL) : FnOk P w K mg base CX0 2 f fd ["value"] (spNumsO K) := by
  refine F.ok scNums (fun vs H Q E h => ?_) (fun cdv A outer s H vs Q E hr h => ?_)
  · obtain ⟨v, k, rfl, _⟩ := h
    rfl
  · refine ⟨_, pss_one (ps_ret (pe_and (pe_call L.ok hr rfl L.g L.kp L.b .nil pass0 (pa_cons (pv 0) pa_nil)) (pe_one (pe_callB (cr_all rfl) (by rfl) T.all (by decide +kernel) (pa_cons (pe_lc (own := [("one", 1)]) (g := gName 1) (tt := tYes) rfl scNums.nd (pi_list (pv 0))
      (blkOk_by (N := nNums) (sc := defScope sIsNumbers) (by decide +kernel)) (fun _ _ _ _ _ => pg_name (i := 1) scNums.nd rfl (Or.inl rfl)) (fun _ _ _ _ _ => pts_nil) (fun _ _ _ _ _ => pe_call G.ok hr rfl G.g G.kp G.b .nil pass0 (pa_cons (pv 1) pa_nil))) pa_nil))))), ?_⟩
    obtain ⟨v, k, rfl, hk, k1, k2, q⟩ := h
    exact ⟨_, rfl, v, k, rfl, hk, fun H' s1 => ⟨_, rfl, iteDF (fun z => z.elim k1 k2) (q H' s1)⟩⟩
theorem ok_numsL {f fI fL : Addr} {fd fdI fdL : FuncData} (F : Fun K "is_numbers" "is_numbers" sIsNumbers f fd) (T : Bi mg) (G : DefAt P w K mg base CX0 1 "is_integer" ["value"] (spIsInt K) fI fdI) (L : DefAt P w K mg base CX0 1 "is_list" ["value"] (spIsList K) fL fdL) : FnOk P w K mg base CX0 2 f fd ["value"] (spNumsL K) := by
  refine F.ok scNums (fun vs H Q E h => ?_) (fun cdv A outer s H vs Q E hr h => ?_)
  · obtain ⟨v, k, kf, rfl, _⟩ := h
    rfl
  · refine ⟨_, pss_one (ps_ret (pe_and (pe_call L.ok hr rfl L.g L.kp L.b .nil pass0 (pa_cons (pv 0) pa_nil)) (pe_one (pe_callB (cr_all rfl) (by rfl) T.all (by decide +kernel) (pa_cons (pe_lc (own := [("one", 1)]) (g := gName 1) (tt := tYes) rfl scNums.nd (pi_list (pv 0))
      (blkOk_by (N := nNums) (sc := defScope sIsNumbers) (by decide +kernel)) (fun _ _ _ _ _ => pg_name (i := 1) scNums.nd rfl (Or.inl rfl)) (fun _ _ _ _ _ => pts_nil) (fun _ _ _ _ _ => pe_call G.ok hr rfl G.g G.kp G.b .nil pass0 (pa_cons (pv 1) pa_nil))) pa_nil))))), ?_⟩
    obtain ⟨a, xs, kf, rfl, hk, hs, hl, hx, q⟩ := h
    refine ⟨_, rfl, _, "list", rfl, hk, fun H1 s1 => ⟨_, rfl, iteDT (.inl rfl) ?_⟩⟩
    refine ⟨_, rfl, a, rfl, ⟨_, s1.seq hs⟩, fun D hD => ?_⟩
    have hD0 := s1.free hD
    refine lc_list (K := K) (a := a) (xs := xs) (fun i H' => Same H H' ∧ H' D = some (.lst ((xs.take i).map fun x => V.bl (decide (kf x = "int"))))) ⟨s1.new hD, upd_same⟩ (fun i H' _ p => p.1.seq hs) ?_ ?_
    · rintro i x H' hi ⟨s2, h2⟩
      refine ⟨rfl, _, rfl, x, kf x, rfl, (hx x (List.mem_of_getElem? hi)).same s2, _, h2, (by rw [List.length_map, List.length_take]; exact sm (by omega)), s2.mut hD0, ?_⟩
      rw [upd_same, List.take_succ, hi, List.map_append]
      rfl
    · rintro H' ⟨s2, h2⟩
      rw [List.take_length] at h2
      refine ⟨D, xs.map fun x => decide (kf x = "int"), rfl, SqL.of (by rw [List.map_map]; exact h2), ?_⟩
      rw [all_map_bl]
      exact q H' s2
theorem ok_numsT {f fI fL : Addr} {fd fdI fdL : FuncData} (F : Fun K "is_numbers" "is_numbers" sIsNumbers f fd) (T : Bi mg) (G : DefAt P w K mg base CX0 1 "is_integer" ["value"] (spIsInt K) fI fdI) (L : DefAt P w K mg base CX0 1 "is_list" ["value"] (spIsList K) fL fdL) : FnOk P w K mg base CX0 2 f fd ["value"] (spNumsT K) := by
  refine F.ok scNums (fun vs H Q E h => ?_) (fun cdv A outer s H vs Q E hr h => ?_)
  · obtain ⟨v, k, kf, rfl, _⟩ := h
    rfl
  · refine ⟨_, pss_one (ps_ret (pe_and (pe_call L.ok hr rfl L.g L.kp L.b .nil pass0 (pa_cons (pv 0) pa_nil)) (pe_one (pe_callB (cr_all rfl) (by rfl) T.all (by decide +kernel) (pa_cons (pe_lc (own := [("one", 1)]) (g := gName 1) (tt := tYes) rfl scNums.nd (pi_tup (pv 0))
      (blkOk_by (N := nNums) (sc := defScope sIsNumbers) (by decide +kernel)) (fun _ _ _ _ _ => pg_name (i := 1) scNums.nd rfl (Or.inl rfl)) (fun _ _ _ _ _ => pts_nil) (fun _ _ _ _ _ => pe_call G.ok hr rfl G.g G.kp G.b .nil pass0 (pa_cons (pv 1) pa_nil))) pa_nil))))), ?_⟩
    obtain ⟨a, xs, kf, rfl, hk, hs, hl, hx, q⟩ := h
    refine ⟨_, rfl, _, "tuple", rfl, hk, fun H1 s1 => ⟨_, rfl, iteDT (.inr rfl) ?_⟩⟩
    refine ⟨_, rfl, a, rfl, ⟨_, s1.tup hs⟩, fun D hD => ?_⟩
    have hD0 := s1.free hD
    refine lc_tup (K := K) (a := a) (xs := xs) (fun i H' => Same H H' ∧ H' D = some (.lst ((xs.take i).map fun x => V.bl (decide (kf x = "int"))))) ⟨s1.new hD, upd_same⟩ (fun i H' _ p => p.1.tup hs) ?_ ?_
    · rintro i x H' hi ⟨s2, h2⟩
      refine ⟨rfl, _, rfl, x, kf x, rfl, (hx x (List.mem_of_getElem? hi)).same s2, _, h2, (by rw [List.length_map, List.length_take]; exact sm (by omega)), s2.mut hD0, ?_⟩
      rw [upd_same, List.take_succ, hi, List.map_append]
      rfl
    · rintro H' ⟨s2, h2⟩
      rw [List.take_length] at h2
      refine ⟨D, xs.map fun x => decide (kf x = "int"), rfl, SqL.of (by rw [List.map_map]; exact h2), ?_⟩
      rw [all_map_bl]
      exact q H' s2
end
end K
namespace K
open PySem L2 Rg
open Evl (pss_cut)
def spDraw (K : PySem.W.Frag) : Sp := fun vs H Q _ => ∃ (p : Addr) (e : Addr × List Int) (many : Int) (n : Nat), vs = [.ref p, .int many] ∧ 1 ≤ many ∧ many ≤ 1000000 ∧ n < 1000000 ∧ PenAt K H p e n ∧
  ∀ (r : Int) (H' : Hp), 0 ≤ r → r < many → But p H H' → PenAt K H' p e (n + 1) → Q (.int r) H'
section
variable {P : Program} {w : World} {K : PySem.W.Frag} {mg : Str → Option Value} {base : Heap}
abbrev nDraw : List Str := ["_law_bench_here", "_law_many", "_law_digit", "_law_at", "_law_cell", "_law_great_here", "_law_mixed_here"]
theorem scDraw : FnScope nDraw ["_law_bench_here", "_law_many"] (defScope sLwDraw) := ⟨rfl, rfl, rfl, by decide +kernel, rfl, by decide +kernel, by decide +kernel⟩
theorem ok_draw {f : Addr} {fd : FuncData} (F : Fun K "_law_draw" "_law_draw" sLwDraw f fd) (T : Bi mg) : FnOk P w K mg base CX0 2 f fd ["_law_bench_here", "_law_many"] (spDraw K) := by
  refine F.ok scDraw (fun vs H Q E h => ?_) (fun cdv A outer s H vs Q E hr h => ?_)
  · obtain ⟨p, e, many, n, rfl, _⟩ := h
    rfl
  · have nd := scDraw.nd
    refine ⟨_, pss_cons (ps_if (pt_cmpR op_gt (pe_ix ix_list (pv 0) pe_int (fun _ _ => rfl)) pe_int (nomark _))
        (pss_cons (ps_set (i := 2) nd rfl (Or.inl rfl) (pe_op op_mod (pe_callTy call_int1 (by rfl) T.int (by decide +kernel) (pa_cons (pe_ix ix_list (pv 0) pe_int (fun _ _ => rfl)) pa_nil)) (pv 1)))
        (pss_cons (ps_asg (pe_op op_fdiv (pe_callTy call_int1 (by rfl) T.int (by decide +kernel) (pa_cons (pe_ix ix_list (pv 0) pe_int (fun _ _ => rfl)) pa_nil)) (pv 1)) (pg_sub (pv 0) pe_int set_list))
        (pss_one (ps_ret (pv 2))))) pss_nil)
      (pss_cons (ps_set (i := 3) nd rfl (Or.inl rfl) (pe_ix ix_list (pv 0) pe_int (fun _ _ => rfl)))
      (pss_cons (ps_asg (pe_op op_add (pv 3) pe_int) (pg_sub (pv 0) pe_int set_list))
      (pss_cons (ps_set (i := 4) nd rfl (Or.inl rfl) (pe_op op_add (pe_op op_mul pe_int (pv 3)) pe_int))
      (pss_cut (ps_if (pt_cmpR (op_neD hr.units) (pe_ix ix_list (pv 0) pe_int (fun _ _ => rfl)) (pe_lst pa_nil) (nomark _))
        (pss_one (ps_set (i := 4) nd rfl (Or.inl rfl) (pe_ix ix_list (pe_ix ix_list (pv 0) pe_int (fun _ _ => rfl)) (pe_op op_mod (pe_callTy call_int1 (by rfl) T.int (by decide +kernel) (pa_cons (pv 3) pa_nil)) (pe_callB call_len_seq (by rfl) T.len PySem.boot_len (pa_cons (pe_ix ix_list (pv 0) pe_int (fun _ _ => rfl)) pa_nil))) (fun _ _ => rfl)))) pss_nil)
      (pss_cut (ps_if (PW.pt (pw_and (pt_cmpR op_lt (pv 3) (pe_callB call_len_seq (by rfl) T.len PySem.boot_len (pa_cons (pe_ix ix_list (pv 0) pe_int (fun _ _ => rfl)) pa_nil)) (nomark _))
          (pw_and1 (pt_cmpR op_ge (pe_callB call_abs (by rfl) T.abs (by decide +kernel) (pa_cons (pv 4) pa_nil)) (pe_op op_pow pe_int pe_int) (nomark _)))))
        (pss_cons (ps_set (i := 5) nd rfl (Or.inl rfl) (pe_op op_add (pe_op op_mul pe_int (pe_op op_sub (pe_callB call_abs (by rfl) T.abs (by decide +kernel) (pa_cons (pv 4) pa_nil)) (pe_op op_pow pe_int pe_int))) (pe_callTy call_int1 (by rfl) T.int (by decide +kernel) (pa_cons (pe_cmpR op_lt (pv 4) pe_int (nomark _)) pa_nil))))
        (pss_cons (ps_asg (pe_op op_fdiv (pe_callTy call_int1 (by rfl) T.int (by decide +kernel) (pa_cons (pv 5) pa_nil)) (pv 1)) (pg_sub (pv 0) pe_int set_list))
        (pss_one (ps_ret (pe_op op_mod (pe_callTy call_int1 (by rfl) T.int (by decide +kernel) (pa_cons (pv 5) pa_nil)) (pv 1)))))) pss_nil)
      (pss_cut (ps_set (i := 6) nd rfl (Or.inl rfl) (pe_op op_mod (pe_callTy call_int1 (by rfl) T.int (by decide +kernel) (pa_cons (pe_op op_pow (pe_op op_add (pe_op op_add (pe_op op_mod (pe_callTy call_int1 (by rfl) T.int (by decide +kernel) (pa_cons (pv 4) pa_nil)) pe_int) (pe_op op_mul pe_int (pv 3))) pe_int) pe_int) pa_nil)) pe_int))
      (pss_cons (ps_set (i := 6) nd rfl (Or.inl rfl) (pe_op op_mod (pe_callTy call_int1 (by rfl) T.int (by decide +kernel) (pa_cons (pe_op op_pow (pe_op op_add (pe_op op_add (pe_op op_mul (pv 6) (pe_op op_add (pe_op op_mul pe_int (pv 3)) pe_int)) (pe_op op_mul (pe_op op_mul pe_int (pv 3)) (pv 3))) pe_int) pe_int) pa_nil)) pe_int))
      (pss_one (ps_ret (pe_op op_mod (pe_callTy call_int1 (by rfl) T.int (by decide +kernel) (pa_cons (pe_op op_fdiv (pv 6) pe_int) pa_nil)) (pv 1))))))))))), ?_⟩
    obtain ⟨p, ⟨c, cells⟩, many, n, rfl, m1, m2, hn, ⟨⟨at0, rest, hp, a0, a1, r0⟩, hc, hcp, hcl⟩, k⟩ := h
    dsimp only at hp hc hcp hcl
    have mp : (0 : Int) < many := by omega
    have md : (0 : Int) < many ∧ many < 1073741824 := ⟨mp, by omega⟩
    refine ⟨_, rfl, p, _, _, _, rfl, rfl, SqL.of hp, atI_nat (j := 2) rfl, _, _, rfl, rfl, _, rfl, ?_⟩
    refine ite2 (fun hg => ?_) (fun hg => ?_)
    · have g0 : rest > 0 := of_decide_eq_true hg
      refine ⟨_, rfl, p, _, _, _, rfl, rfl, SqL.of hp, atI_nat (j := 2) rfl, .inl ⟨_, rfl, _, rfl, _, _, rfl, rfl, mp, ?_⟩⟩
      refine ⟨_, rfl, p, _, _, _, rfl, rfl, SqL.of hp, atI_nat (j := 2) rfl, .inl ⟨_, rfl, _, rfl, _, _, rfl, rfl, md, _, rfl, p, _, _, 2, rfl, rfl, hp, rfl, ?_⟩⟩
      refine ⟨_, rfl, ?_⟩
      have b1 : But p H (upd H p (.lst [.ref c, .int at0, .int (rest / many)])) := (But.refl p H).at
      exact k _ _ (Int.emod_nonneg _ (by omega)) (Int.emod_lt_of_pos _ mp) b1 ⟨⟨at0, rest / many, upd_same, a0, by omega, Int.ediv_nonneg r0 (by omega)⟩, b1.seq hcp hc, hcp, hcl⟩
    · refine ⟨_, rfl, p, _, _, _, rfl, rfl, SqL.of hp, atI_nat (j := 1) rfl, ?_⟩
      refine ⟨_, rfl, _, _, rfl, rfl, _, rfl, p, _, _, 1, rfl, rfl, hp, rfl, ?_⟩
      have h1 : upd H p (.lst [.ref c, .int (at0 + 1), .int rest]) p = some (.lst [.ref c, .int (at0 + 1), .int rest]) := upd_same
      have b1 : But p H (upd H p (.lst [.ref c, .int (at0 + 1), .int rest])) := (But.refl p H).at
      refine ⟨_, rfl, _, _, rfl, rfl, .inl ⟨by decide, by decide⟩, _, _, rfl, rfl, ?_⟩
      refine ⟨fun σ' H' => ∃ cell : Int, σ' = [some (.ref p), some (.int many), none, some (.int at0), some (.int cell), none, none] ∧ But p H H' ∧ H' p = some (.lst [.ref c, .int (at0 + 1), .int rest]), ?_, ?_⟩
      · refine ⟨_, rfl, p, _, _, _, rfl, rfl, SqL.of h1, atI_nat (j := 0) rfl, (by decide), fun q hq => ?_⟩
        have hqp : p ≠ q := ne_of_none h1 hq
        have b2 : But p H (upd (upd H p (.lst [.ref c, .int (at0 + 1), .int rest])) q (.lst [])) := b1.new hq
        have h2 : upd (upd H p (.lst [.ref c, .int (at0 + 1), .int rest])) q (.lst []) p = some (.lst [.ref c, .int (at0 + 1), .int rest]) := by rw [upd_ne hqp]; exact h1
        refine ⟨_, _, .lst (b2.seq hcp hc) (dp_ints cells), .lst (SqL.of upd_same) .nil, shaped_ints _, rfl, _, rfl, ?_⟩
        rw [eqv_nil]
        cases e : cells.isEmpty with
        | true =>
          refine iteF ?_
          exact ⟨_, rfl, b2, h2⟩
        | false =>
          have hl : 0 < cells.length := by
            cases cells with
            | nil => cases e
            | cons z zs => simp
          refine iteT ?_
          have hlt : (at0 % (cells.length : Int)).toNat < cells.length := by
            have := Int.emod_lt_of_pos at0 (show (0 : Int) < cells.length by omega)
            have := Int.emod_nonneg at0 (show (cells.length : Int) ≠ 0 by omega)
            omega
          have hix : (cells.map V.int)[(at0 % (cells.length : Int)).toNat]? = some (V.int (cells[(at0 % (cells.length : Int)).toNat])) := by
            rw [List.getElem?_map, List.getElem?_eq_getElem hlt]
            rfl
          refine ⟨_, rfl, p, _, _, _, rfl, rfl, SqL.of h2, atI_nat (j := 0) rfl, _, rfl, .inl ⟨_, rfl, _, rfl, p, _, _, _, rfl, rfl, SqL.of h2, atI_nat (j := 0) rfl, c, _, rfl, .inl (b2.seq hcp hc), ?_⟩⟩
          rw [List.length_map]
          refine ⟨_, _, rfl, rfl, (by omega), c, _, _, _, rfl, rfl, b2.seq hcp hc, at_of (j := (at0 % (cells.length : Int)).toNat) (by
            have := Int.emod_nonneg at0 (show (cells.length : Int) ≠ 0 by omega)
            omega) hix, ?_⟩
          exact ⟨_, rfl, b2, h2⟩
      · rintro σ' H' ⟨cell, rfl, b2, h2⟩
        have pw : CPow 10 18 := ⟨by decide, by decide, by decide⟩
        refine ⟨fun σ' H'' => σ' = [some (.ref p), some (.int many), none, some (.int at0), some (.int cell), none, none] ∧ But p H H'' ∧ H'' p = some (.lst [.ref c, .int (at0 + 1), .int rest]), ?_, ?_⟩
        · refine ⟨_, rfl, _, rfl, p, _, _, _, rfl, rfl, SqL.of h2, atI_nat (j := 0) rfl, c, _, rfl, .inl (b2.seq hcp hc), _, _, rfl, rfl, _, rfl, ?_⟩
          refine ite2 (fun _ => ?_) (fun _ => iteF ?_)
          · refine ⟨_, rfl, _, rfl, _, _, rfl, rfl, pw, _, _, rfl, rfl, _, rfl, ?_⟩
            refine ite2 (fun hge => ?_) (fun _ => ?_)
            · have ge := of_decide_eq_true hge
              have ge2 : (10 : Int) ^ (18 : Int).toNat ≤ if cell < 0 then -cell else cell := ge
              have gr0 : 0 ≤ (2 * ((if cell < 0 then -cell else cell) - (10 : Int) ^ (18 : Int).toNat) + (if decide (cell < 0) = true then 1 else 0) : Int) := by
                split <;> omega
              refine ⟨_, rfl, _, rfl, _, _, rfl, rfl, pw, _, _, rfl, rfl, _, _, rfl, rfl, .inl ⟨by decide, by decide⟩, _, rfl, _, _, rfl, rfl, .inr ⟨_, rfl, _, _, rfl, rfl, ?_⟩⟩
              refine ⟨_, rfl, .inl ⟨_, rfl, _, rfl, _, _, rfl, rfl, md, _, rfl, p, _, _, 2, rfl, rfl, h2, rfl, ?_⟩⟩
              refine ⟨_, rfl, .inl ⟨_, rfl, _, rfl, _, _, rfl, rfl, mp, ?_⟩⟩
              exact k _ _ (Int.emod_nonneg _ (by omega)) (Int.emod_lt_of_pos _ mp) b2.at ⟨⟨at0 + 1, _, upd_same, by omega, by omega, Int.ediv_nonneg gr0 (by omega)⟩, (b2.at).seq hcp hc, hcp, hcl⟩
            · exact ⟨rfl, b2, h2⟩
          · exact ⟨rfl, b2, h2⟩
        · rintro σ'' H'' ⟨rfl, b3, h3⟩
          refine ⟨fun σ' H4 => ∃ x : Int, 0 ≤ x ∧ x < 2147483629 ∧ σ' = [some (.ref p), some (.int many), none, some (.int at0), some (.int cell), none, some (.int x)] ∧ H4 = H'', ?_, ?_⟩
          · have q0 := Int.emod_nonneg cell (show (2147483587 : Int) ≠ 0 by decide)
            have q1 := Int.emod_lt_of_pos cell (show (0 : Int) < 2147483587 by decide)
            have pw5 : CPow (cell % 2147483587 + 61057 * at0 + 2221) 5 := ⟨by decide, by decide, by omega⟩
            refine ⟨_, rfl, .inl ⟨_, rfl, _, _, rfl, rfl, (by show (0 : Int) < 2147483587; decide), _, rfl, _, _, rfl, rfl, .inl ⟨by decide, by decide⟩, _, _, rfl, rfl, _, _, rfl, rfl, _, _, rfl, rfl, pw5, .inl ⟨_, rfl, _, _, rfl, rfl, (by show (0 : Int) < 2147483629; decide), ?_⟩⟩⟩
            exact ⟨_, Int.emod_nonneg _ (by decide), Int.emod_lt_of_pos _ (by decide), rfl, rfl⟩
          · rintro σ' H4 ⟨x, x0, x1, rfl, rfl⟩
            have e1 : x * (2 * at0 + 2339) ≤ 2147483629 * 2002339 := Int.mul_le_mul (by omega) (by omega) (by omega) (by decide)
            have e2 : 0 ≤ x * (2 * at0 + 2339) := Int.mul_nonneg x0 (by omega)
            have e3 : 63067 * at0 * at0 ≤ 63067000000 * 1000000 := Int.mul_le_mul (by omega) (by omega) a0 (by decide)
            have e4 : 0 ≤ 63067 * at0 * at0 := Int.mul_nonneg (by omega) a0
            have pw3 : CPow (x * (2 * at0 + 2339) + 63067 * at0 * at0 + 60041) 3 := ⟨by decide, by decide, by omega⟩
            refine ⟨_, rfl, _, rfl, _, _, rfl, rfl, .inl ⟨by decide, by decide⟩, _, _, rfl, rfl, _, _, rfl, rfl, .inl ⟨by omega, by omega⟩, _, rfl, _, _, rfl, rfl, .inl ⟨by decide, by decide⟩, _, rfl, _, _, rfl, rfl, .inr ⟨by omega, by omega⟩, _, _, rfl, rfl, _, _, rfl, rfl, _, _, rfl, rfl, pw3, .inl ⟨_, rfl, _, _, rfl, rfl, (by show (0 : Int) < 2147483549; decide), ?_⟩⟩
            refine ⟨_, rfl, _, _, rfl, rfl, ⟨by decide, by decide⟩, .inl ⟨_, rfl, _, rfl, _, _, rfl, rfl, mp, ?_⟩⟩
            exact k _ _ (Int.emod_nonneg _ (by omega)) (Int.emod_lt_of_pos _ mp) b3 ⟨⟨at0 + 1, rest, h3, by omega, by omega, r0⟩, b3.seq hcp hc, hcp, hcl⟩
end
end K
namespace K
open PySem L2 Rg
open Evl (pss_cut)
theorem int_at {l : List Int} {i : Nat} {v : V} (h : (l.map V.int)[i]? = some v) : ∃ z, l[i]? = some z ∧ v = .int z := by
  rw [List.getElem?_map] at h
  cases e : l[i]? with
  | none => rw [e] at h; cases h
  | some z => rw [e] at h; exact ⟨z, rfl, (Option.some.inj h).symm⟩
theorem take_snoc {α : Type} {l : List α} {i : Nat} {z : α} (h : l[i]? = some z) : l.take i ++ [z] = l.take (i + 1) := by
  rw [List.take_succ, h]; rfl
theorem sz {n : Nat} (h : n ≤ 100000) : n ≤ sizeLine := Nat.le_trans h (by decide)
theorem szl {n : Nat} (h : n < 100000) : n < sizeLine := Nat.lt_of_lt_of_le h (by decide)
theorem cutV_to (xs : List V) (k : Nat) : cutV xs none (some (k : Int)) = xs.take k := by
  unfold cutV
  rw [HT.sIx_none, HT.sIx_nat, List.drop_zero, Nat.sub_zero]
  rcases Nat.le_total k xs.length with h | h
  · rw [Nat.min_eq_left h]
  · rw [Nat.min_eq_right h, List.take_length, List.take_of_length_le h]
section
variable {P : Program} {w : World} {K : PySem.W.Frag} {mg : Str → Option Value} {base : Heap}
/-! ### the pen -/
def spPen (K : PySem.W.Frag) : Sp := fun vs H Q _ => ∃ (a : Addr) (ns : List Int), vs = [.ref a] ∧ SqL K H a (ns.map V.int) ∧ ns.length ≤ 63 ∧
  ∀ (p : Addr) (e : Addr × List Int) (H' : Hp), Same H H' → H p = none → PenAt K H' p e 0 → Q (.ref p) H'
abbrev nPen : List Str := ["_law_script", "_law_cell"]
theorem scPen : FnScope nPen ["_law_script"] (defScope sLwBench) := ⟨rfl, rfl, rfl, by decide +kernel, rfl, by decide +kernel, by decide +kernel⟩
theorem ok_pen {f : Addr} {fd : FuncData} (F : Fun K "_law_bench" "_law_bench" sLwBench f fd) (T : Bi mg) : FnOk P w K mg base CX0 2 f fd ["_law_script"] (spPen K) := by
  refine F.ok scPen (fun vs H Q E h => ?_) (fun cdv A outer s H vs Q E hr h => ?_)
  · obtain ⟨a, ns, rfl, _⟩ := h
    rfl
  · have nd := scPen.nd
    refine ⟨_, pss_one (ps_ret (pe_lst (pa_cons (pe_lc (own := [("_law_cell", 1)]) (g := gName 1) (tt := tYes) rfl nd (pi_list (pe_slice sl_list (pv 0) po_none (po_some pe_int)))
      (blkOk_by (N := nPen) (sc := defScope sLwBench) (by decide +kernel)) (fun _ _ _ _ _ => pg_name (i := 1) nd rfl (Or.inl rfl)) (fun _ _ _ _ _ => pts_nil)
      (fun _ _ _ _ _ => pe_callTy call_int1 (by rfl) T.int (by decide +kernel) (pa_cons (pv 1) pa_nil))) (pa_cons pe_int (pa_cons pe_int pa_nil))))), ?_⟩
    obtain ⟨a, ns, rfl, hS, hl, k⟩ := h
    refine ⟨_, rfl, _, rfl, a, _, rfl, hS, fun q hq => ?_⟩
    have e0 : cutV (ns.map V.int) none (some 58) = (ns.take 58).map V.int := by
      rw [show (58 : Int) = ((58 : Nat) : Int) from rfl, cutV_to, List.map_take]
    rw [e0]
    refine ⟨q, rfl, ⟨_, SqL.of upd_same⟩, fun D hD => ?_⟩
    have hqD : q ≠ D := ne_of_none upd_same hD
    have sD : Same (upd H q (.lst ((ns.take 58).map V.int))) (upd (upd H q (.lst ((ns.take 58).map V.int))) D (.lst [])) := (Same.refl _).new hD
    refine lc_list (K := K) (a := q) (xs := (ns.take 58).map V.int) (fun i H' => Same (upd H q (.lst ((ns.take 58).map V.int))) H' ∧ H' D = some (.lst (((ns.take 58).take i).map V.int)))
      ⟨sD, upd_same⟩ (fun i H' _ p => p.1.seq (SqL.of upd_same)) ?_ ?_
    · rintro i x H' hi ⟨s1, h1⟩
      obtain ⟨z, hz, rfl⟩ := int_at hi
      refine ⟨rfl, _, rfl, .inl ⟨_, rfl, _, h1, szl (by rw [List.length_map, List.length_take, List.length_take]; omega), s1.mut hD, ?_⟩⟩
      rw [← take_snoc hz, List.map_append]
      exact upd_same
    · rintro H' ⟨s1, h1⟩
      rw [List.length_map, List.take_length] at h1
      refine ⟨(by show 3 ≤ sizeLine; decide), fun p hp => ?_⟩
      have nD : H D = none := by
        rw [upd_ne hqD.symm] at hD
        exact hD
      have s2 : Same H H' := fun b o e => s1 b o (by rw [upd_ne (ne_of_none e hq)]; exact e)
      refine k p (D, ns.take 58) _ (s2.new hp) (s2.free hp) ⟨⟨0, 0, upd_same, by decide, by decide, by decide⟩, SqL.of (by rw [upd_ne (ne_of_none h1 hp)]; exact h1), ne_of_none h1 hp, by rw [List.length_take]; omega⟩
end
end K
namespace K
open PySem L2 Rg
open Evl (pss_cut)
/-- the first that stands twice, behind those seen -/
def ft : List Int → List Int → Option Int
  | _, [] => none
  | seen, x :: xs => if x ∈ seen then some x else ft (seen ++ [x]) xs
def oV : Option Int → V
  | none => .non
  | some x => .int x
def seenK (l : List Int) : List (Key × V) := l.map fun k => (Sum.inl k, V.bl true)
theorem seen_val (l : List Int) (n : Int) : valV (seenK l) (Sum.inl n : Key) = if n ∈ l then some (.bl true) else none := by
  induction l with
  | nil => rfl
  | cons x l ih =>
    by_cases e : x = n
    · rw [if_pos (by rw [e]; exact List.mem_cons_self ..)]
      exact valV_pos (p := ((Sum.inl x : Key), V.bl true)) (by rw [e])
    · have h1 : valV (seenK (x :: l)) (Sum.inl n : Key) = valV (seenK l) (Sum.inl n) := valV_neg (p := ((Sum.inl x : Key), V.bl true)) (fun z => e (Sum.inl.inj z))
      rw [h1, ih]
      by_cases f : n ∈ l
      · rw [if_pos f, if_pos (List.mem_cons_of_mem _ f)]
      · rw [if_neg f, if_neg fun z => (List.mem_cons.mp z).elim (fun q => e q.symm) f]
theorem seen_len (l : List Int) : (seenK l).length = l.length := List.length_map ..
theorem seen_put {l : List Int} {n : Int} (h : n ∉ l) : putK (seenK l) (Sum.inl n : Key) (.bl true) = seenK (l ++ [n]) := by
  rw [putK_new _ (by rw [seen_val, if_neg h])]
  simp [seenK]
theorem ft_step {ns : List Int} {i : Nat} {z : Int} (h : ns[i]? = some z) : ft (ns.take i) (ns.drop i) = if z ∈ ns.take i then some z else ft (ns.take (i + 1)) (ns.drop (i + 1)) := by
  obtain ⟨hi, rfl⟩ := List.getElem?_eq_some_iff.mp h
  rw [List.drop_eq_getElem_cons hi, ← take_snoc h]
  rfl
section
variable {P : Program} {w : World} {K : PySem.W.Frag} {mg : Str → Option Value} {base : Heap}
/-! ### fixed, of an int -/
def spFixed : Sp := fun vs H Q _ => ∃ i : Int, vs = [.int i] ∧ ∀ H', Same H H' → Q (.int i) H'
theorem scFixed : FnScope ["value"] ["value"] (defScope sFixed) := ⟨rfl, rfl, rfl, by decide +kernel, rfl, by decide +kernel, by decide +kernel⟩
theorem ok_fixed {f : Addr} {fd : FuncData} (F : Fun K "fixed" "fixed" sFixed f fd) (T : Bi mg) : FnOk P w K mg base CX0 1 f fd ["value"] spFixed := by
  refine F.ok scFixed (fun vs H Q E h => ?_) (fun cdv A outer s H vs Q E hr h => ?_)
  · obtain ⟨v, rfl, _⟩ := h
    rfl
  · refine ⟨_, pss_cons (ps_if (pt_val (pe_callB call_isiT (by rfl) T.isinstance (by decide +kernel) (pa_cons (pv 0) (pa_cons (pe_tup (pa_cons (pe_bltn (v := .ty "list") (u := .type "list") (by rfl) T.list (by decide +kernel) rfl) (pa_cons (pe_bltn (v := .ty "tuple") (u := .type "tuple") (by rfl) T.tuple (by decide +kernel) rfl) pa_nil))) pa_nil)))) (pss_one ps_never) pss_nil)
      (pss_one (ps_ret (pv 0))), ?_⟩
    obtain ⟨i, rfl, q⟩ := h
    refine ⟨_, rfl, (by show 2 ≤ sizeLine; decide), fun p hp => ?_⟩
    have s1 : Same H (upd H p (.tup [.ty "list", .ty "tuple"])) := (Same.refl H).new hp
    refine ⟨.int i, p, [.ty "list", .ty "tuple"], .type "int", _, false, rfl, upd_same, .cons (.ty _) (.cons (.ty _) .nil), .base (.int i), kitAny_cons (kit_ty (kit_list "int" (by decide))) (fun e => kitAny_cons (b := false) (r := false) (kit_ty (kit_tuple "int" (by decide))) (fun _ => kitAny_nil) fun e' => nomatch e') (fun e => nomatch e), _, rfl, iteF ?_⟩
    exact ⟨_, rfl, q _ s1⟩
/-! ### twice_at, first_twice, of ints: a list | a tuple -/
def tatQ (ns : List Int) (H : Hp) (Q : VK) : Prop := ∀ H', Same H H' → (ft [] ns = none → Q .non H') ∧ ∀ (i : Nat) (z : Int), ns[i]? = some z → ft [] ns = some z → Q (.int (i : Nat)) H'
def spTaL (K : PySem.W.Frag) : Sp := fun vs H Q _ => ∃ (a : Addr) (ns : List Int), vs = [.ref a] ∧ SqL K H a (ns.map V.int) ∧ ns.length ≤ 1000 ∧ tatQ ns H Q
def spTaT (K : PySem.W.Frag) : Sp := fun vs H Q _ => ∃ (a : Addr) (ns : List Int), vs = [.ref a] ∧ SqT K H a (ns.map V.int) ∧ ns.length ≤ 1000 ∧ tatQ ns H Q
abbrev nTa : List Str := ["values", "seen", "at", "value", "key"]
theorem scTa : FnScope nTa ["values"] (defScope sTwiceAt) := ⟨rfl, rfl, rfl, by decide +kernel, rfl, by decide +kernel, by decide +kernel⟩
theorem ok_taL {f fX : Addr} {fd fdX : FuncData} (F : Fun K "twice_at" "twice_at" sTwiceAt f fd) (T : Bi mg) (G : DefAt P w K mg base CX0 1 "fixed" ["value"] spFixed fX fdX) : FnOk P w K mg base CX0 2 f fd ["values"] (spTaL K) := by
  refine F.ok scTa (fun vs H Q E h => ?_) (fun cdv A outer s H vs Q E hr h => ?_)
  · obtain ⟨a, ns, rfl, _⟩ := h
    rfl
  · have hu := hu_of hr
    have nd := scTa.nd
    refine ⟨_, pss_cons (ps_set (i := 1) nd rfl (Or.inl rfl) pe_dnewK)
      (pss_cons (ps_for PassesOwn.never rfl (pi_enum (by rfl) T.enumerate (pa_cons (pv 0) pa_nil)) (pg_tup rfl (pgs_cons (pg_name (i := 2) nd rfl (Or.inl rfl)) (pgs_cons (pg_name (i := 3) nd rfl (Or.inl rfl)) pgs_nil)))
        (pss_cons (ps_set (i := 4) nd rfl (Or.inl rfl) (pe_call G.ok hr rfl G.g G.kp G.b .nil pass0 (pa_cons (pv 3) pa_nil)))
        (pss_cons (ps_if (pt_cmp (pc_din hu (pv 4) (pv 1))) (pss_one (ps_ret (pv 2))) pss_nil)
        (pss_one (ps_dput hu (pv 1) (pv 4) pe_bl rfl)))))
      (pss_one (ps_ret pe_non))), ?_⟩
    obtain ⟨a, ns, rfl, hs, hl, q⟩ := h
    intro d hd
    refine ⟨_, rfl, a, _, rfl, ((Same.refl H).new hd).seq hs, ?_⟩
    refine for_it walk_enum (fun i σ H' => ∃ (z1 v k : Option V), σ = [some (.ref a), some (.ref d), z1, v, k] ∧ Same H H' ∧ H' d = some (.dK (seenK (ns.take i))) ∧ ft [] ns = ft (ns.take i) (ns.drop i))
      ⟨none, none, none, rfl, (Same.refl H).new hd, upd_same, rfl⟩ (fun i σ H' _ ⟨_, _, _, _, s, _⟩ => s.seq hs) ?_ ?_
    · rintro i x σ H1 H2 hi ⟨z1, v, k, rfl, s1, h1, e1⟩ ⟨U, x1, x2, rfl, hU, rfl, ex1, ex2⟩
      obtain rfl := (Option.some.inj ex1).symm
      obtain ⟨z, hz, rfl⟩ := int_at ex2
      rw [List.length_map] at hi
      rw [ft_step hz] at e1
      have s2 : Same H1 (upd H1 U (.tup [.int (i : Nat), .int z])) := (Same.refl H1).new hU
      refine ⟨U, _, rfl, .inl (.inl upd_same), rfl, _, _, rfl, _, _, rfl, rfl, ?_⟩
      refine ⟨_, rfl, z, rfl, fun H3 s3 => ?_⟩
      have h3 := s3 _ _ (s2 _ _ h1)
      have s13 := s1.trans (s2.trans s3)
      refine ⟨_, rfl, _, rfl, d, _, rfl, DGet.k (k := Sum.inl z) h3, _, rfl, ?_⟩
      rw [seen_val]
      by_cases c : z ∈ ns.take i
      · rw [if_pos c] at e1 ⊢
        refine iteT ?_
        exact ⟨_, rfl, (q H3 s13).2 i z hz e1⟩
      · rw [if_neg c] at e1 ⊢
        refine iteF ?_
        refine ⟨_, rfl, _, rfl, d, _, rfl, DPut.k (k := Sum.inl z) h3 (by rw [seen_len, List.length_take]; exact sm (by omega)), ?_⟩
        rw [seen_put c, take_snoc hz]
        exact ⟨_, _, _, rfl, s13.mut hd, upd_same, e1⟩
    · rintro σ H' ⟨z1, v, k, rfl, s1, h1, e1⟩
      rw [List.length_map, List.drop_length] at e1
      exact (q H' s1).1 e1
theorem ok_taT {f fX : Addr} {fd fdX : FuncData} (F : Fun K "twice_at" "twice_at" sTwiceAt f fd) (T : Bi mg) (G : DefAt P w K mg base CX0 1 "fixed" ["value"] spFixed fX fdX) : FnOk P w K mg base CX0 2 f fd ["values"] (spTaT K) := by
  refine F.ok scTa (fun vs H Q E h => ?_) (fun cdv A outer s H vs Q E hr h => ?_)
  · obtain ⟨a, ns, rfl, _⟩ := h
    rfl
  · have hu := hu_of hr
    have nd := scTa.nd
    refine ⟨_, pss_cons (ps_set (i := 1) nd rfl (Or.inl rfl) pe_dnewK)
      (pss_cons (ps_for PassesOwn.never rfl (pi_enumT (by rfl) T.enumerate (pa_cons (pv 0) pa_nil)) (pg_tup rfl (pgs_cons (pg_name (i := 2) nd rfl (Or.inl rfl)) (pgs_cons (pg_name (i := 3) nd rfl (Or.inl rfl)) pgs_nil)))
        (pss_cons (ps_set (i := 4) nd rfl (Or.inl rfl) (pe_call G.ok hr rfl G.g G.kp G.b .nil pass0 (pa_cons (pv 3) pa_nil)))
        (pss_cons (ps_if (pt_cmp (pc_din hu (pv 4) (pv 1))) (pss_one (ps_ret (pv 2))) pss_nil)
        (pss_one (ps_dput hu (pv 1) (pv 4) pe_bl rfl)))))
      (pss_one (ps_ret pe_non))), ?_⟩
    obtain ⟨a, ns, rfl, hs, hl, q⟩ := h
    intro d hd
    refine ⟨_, rfl, a, _, rfl, ((Same.refl H).new hd).tup hs, ?_⟩
    refine for_it walk_enumT (fun i σ H' => ∃ (z1 v k : Option V), σ = [some (.ref a), some (.ref d), z1, v, k] ∧ Same H H' ∧ H' d = some (.dK (seenK (ns.take i))) ∧ ft [] ns = ft (ns.take i) (ns.drop i))
      ⟨none, none, none, rfl, (Same.refl H).new hd, upd_same, rfl⟩ (fun i σ H' _ ⟨_, _, _, _, s, _⟩ => s.tup hs) ?_ ?_
    · rintro i x σ H1 H2 hi ⟨z1, v, k, rfl, s1, h1, e1⟩ ⟨U, x1, x2, rfl, hU, rfl, ex1, ex2⟩
      obtain rfl := (Option.some.inj ex1).symm
      obtain ⟨z, hz, rfl⟩ := int_at ex2
      rw [List.length_map] at hi
      rw [ft_step hz] at e1
      have s2 : Same H1 (upd H1 U (.tup [.int (i : Nat), .int z])) := (Same.refl H1).new hU
      refine ⟨U, _, rfl, .inl (.inl upd_same), rfl, _, _, rfl, _, _, rfl, rfl, ?_⟩
      refine ⟨_, rfl, z, rfl, fun H3 s3 => ?_⟩
      have h3 := s3 _ _ (s2 _ _ h1)
      have s13 := s1.trans (s2.trans s3)
      refine ⟨_, rfl, _, rfl, d, _, rfl, DGet.k (k := Sum.inl z) h3, _, rfl, ?_⟩
      rw [seen_val]
      by_cases c : z ∈ ns.take i
      · rw [if_pos c] at e1 ⊢
        refine iteT ?_
        exact ⟨_, rfl, (q H3 s13).2 i z hz e1⟩
      · rw [if_neg c] at e1 ⊢
        refine iteF ?_
        refine ⟨_, rfl, _, rfl, d, _, rfl, DPut.k (k := Sum.inl z) h3 (by rw [seen_len, List.length_take]; exact sm (by omega)), ?_⟩
        rw [seen_put c, take_snoc hz]
        exact ⟨_, _, _, rfl, s13.mut hd, upd_same, e1⟩
    · rintro σ H' ⟨z1, v, k, rfl, s1, h1, e1⟩
      rw [List.length_map, List.drop_length] at e1
      exact (q H' s1).1 e1
def spTwL (K : PySem.W.Frag) : Sp := fun vs H Q _ => ∃ (a : Addr) (ns : List Int), vs = [.ref a] ∧ SqL K H a (ns.map V.int) ∧ ns.length ≤ 1000 ∧ ∀ H', Same H H' → Q (oV (ft [] ns)) H'
def spTwT (K : PySem.W.Frag) : Sp := fun vs H Q _ => ∃ (a : Addr) (ns : List Int), vs = [.ref a] ∧ SqT K H a (ns.map V.int) ∧ ns.length ≤ 1000 ∧ ∀ H', Same H H' → Q (oV (ft [] ns)) H'
theorem ft_mem : ∀ (xs seen : List Int) (z : Int), ft seen xs = some z → z ∈ xs
  | [], seen, z, h => by cases h
  | x :: xs, seen, z, h => by
    unfold ft at h
    by_cases c : x ∈ seen
    · rw [if_pos c] at h
      rw [Option.some.inj h]
      exact List.mem_cons_self ..
    · rw [if_neg c] at h
      exact List.mem_cons_of_mem _ (ft_mem xs _ z h)
abbrev nTw : List Str := ["values", "at"]
theorem scTw : FnScope nTw ["values"] (defScope sFirstTwice) := ⟨rfl, rfl, rfl, by decide +kernel, rfl, by decide +kernel, by decide +kernel⟩
theorem ok_twL {f fX fA : Addr} {fd fdX fdA : FuncData} (F : Fun K "first_twice" "first_twice" sFirstTwice f fd) (G : DefAt P w K mg base CX0 1 "fixed" ["value"] spFixed fX fdX) (A' : DefAt P w K mg base CX0 2 "twice_at" ["values"] (spTaL K) fA fdA) : FnOk P w K mg base CX0 3 f fd ["values"] (spTwL K) := by
  refine F.ok scTw (fun vs H Q E h => ?_) (fun cdv A outer s H vs Q E hr h => ?_)
  · obtain ⟨a, ns, rfl, _⟩ := h
    rfl
  · have nd := scTw.nd
    refine ⟨_, pss_cons (ps_set (i := 1) nd rfl (Or.inl rfl) (pe_call A'.ok hr rfl A'.g A'.kp A'.b .nil pass0 (pa_cons (pv 0) pa_nil)))
      (pss_one (ps_ret (pe_ifExp (pt_cmpR op_isN (pv 1) pe_non (nomark _)) pe_non (pe_call G.ok (hr.mono (by decide)) rfl G.g G.kp G.b .nil pass0 (pa_cons (pe_ix (r := rIxL K) ix_list (pv 0) (pv 1) (fun _ _ => rfl)) pa_nil))))), ?_⟩
    obtain ⟨a, ns, rfl, hs, hl, q⟩ := h
    refine ⟨_, rfl, a, ns, rfl, hs, hl, fun H1 s1 => ⟨fun e => ?_, fun i z hz e => ?_⟩⟩
    · have qq := q H1 s1
      rw [e] at qq
      exact ⟨_, rfl, rfl, _, rfl, iteT qq⟩
    · refine ⟨_, rfl, rfl, _, rfl, iteF ?_⟩
      refine ⟨_, rfl, _, rfl, a, _, _, _, rfl, rfl, s1.seq hs, atI_nat (by rw [List.getElem?_map, hz]; rfl), z, rfl, fun H2 s2 => ?_⟩
      have qq := q H2 (s1.trans s2)
      rw [e] at qq
      exact qq
theorem ok_twT {f fX fA : Addr} {fd fdX fdA : FuncData} (F : Fun K "first_twice" "first_twice" sFirstTwice f fd) (G : DefAt P w K mg base CX0 1 "fixed" ["value"] spFixed fX fdX) (A' : DefAt P w K mg base CX0 2 "twice_at" ["values"] (spTaT K) fA fdA) : FnOk P w K mg base CX0 3 f fd ["values"] (spTwT K) := by
  refine F.ok scTw (fun vs H Q E h => ?_) (fun cdv A outer s H vs Q E hr h => ?_)
  · obtain ⟨a, ns, rfl, _⟩ := h
    rfl
  · have nd := scTw.nd
    refine ⟨_, pss_cons (ps_set (i := 1) nd rfl (Or.inl rfl) (pe_call A'.ok hr rfl A'.g A'.kp A'.b .nil pass0 (pa_cons (pv 0) pa_nil)))
      (pss_one (ps_ret (pe_ifExp (pt_cmpR op_isN (pv 1) pe_non (nomark _)) pe_non (pe_call G.ok (hr.mono (by decide)) rfl G.g G.kp G.b .nil pass0 (pa_cons (pe_ix (r := rIxT K) ix_tup (pv 0) (pv 1) (fun _ _ => rfl)) pa_nil))))), ?_⟩
    obtain ⟨a, ns, rfl, hs, hl, q⟩ := h
    refine ⟨_, rfl, a, ns, rfl, hs, hl, fun H1 s1 => ⟨fun e => ?_, fun i z hz e => ?_⟩⟩
    · have qq := q H1 s1
      rw [e] at qq
      exact ⟨_, rfl, rfl, _, rfl, iteT qq⟩
    · refine ⟨_, rfl, rfl, _, rfl, iteF ?_⟩
      refine ⟨_, rfl, _, rfl, a, _, _, _, rfl, rfl, s1.tup hs, atI_nat (by rw [List.getElem?_map, hz]; rfl), z, rfl, fun H2 s2 => ?_⟩
      have qq := q H2 (s1.trans s2)
      rw [e] at qq
      exact qq
end
end K
namespace K
open PySem L2 Rg
open Evl (pss_cut)
section
variable {P : Program} {w : World} {K : PySem.W.Frag} {mg : Str → Option Value} {base : Heap}
/-! ### errors with one field -/
def spIni (K : PySem.W.Frag) (f : Str) : Sp := fun vs H Q _ => ∃ (a C : Addr) (v : V), vs = [.ref a, v] ∧ OexC K C ∧ PySem.W.findIn K (.ref C) f = some none ∧ H a = some (exo a C none) ∧
  ∀ d, H d = none → d ≠ a → Q .non (upd (upd H d (exd d [(f, v)])) a (exo a C (some d)))
theorem scBadLot : FnScope ["self", "part"] ["self", "part"] (defScope sBadLotInit) := ⟨rfl, rfl, rfl, by decide +kernel, rfl, by decide +kernel, by decide +kernel⟩
theorem scMissing : FnScope ["self", "value"] ["self", "value"] (defScope sMissingInit) := ⟨rfl, rfl, rfl, by decide +kernel, rfl, by decide +kernel, by decide +kernel⟩
theorem scTwice : FnScope ["self", "value"] ["self", "value"] (defScope sTwiceInit) := ⟨rfl, rfl, rfl, by decide +kernel, rfl, by decide +kernel, by decide +kernel⟩
theorem ok_badLotI {f : Addr} {fd : FuncData} (F : Fun K "__init__" "BadLot.__init__" sBadLotInit f fd) : FnOk P w K mg base CX0 1 f fd ["self", "part"] (spIni K "part") := by
  refine F.ok scBadLot (fun vs H Q E h => ?_) (fun cdv A outer s H vs Q E hr h => ?_)
  · obtain ⟨a, C, v, rfl, _⟩ := h
    rfl
  · refine ⟨_, pss_one (ps_ost (pv 0) (pv 1)), ?_⟩
    obtain ⟨a, C, v, rfl, o, n, ha, k⟩ := h
    exact ⟨_, rfl, _, rfl, a, C, rfl, o, n, .inl ⟨ha, fun d h1 h2 => k d h1 h2⟩⟩
theorem ok_missingI {f : Addr} {fd : FuncData} (F : Fun K "__init__" "Missing.__init__" sMissingInit f fd) : FnOk P w K mg base CX0 1 f fd ["self", "value"] (spIni K "value") := by
  refine F.ok scMissing (fun vs H Q E h => ?_) (fun cdv A outer s H vs Q E hr h => ?_)
  · obtain ⟨a, C, v, rfl, _⟩ := h
    rfl
  · refine ⟨_, pss_one (ps_ost (pv 0) (pv 1)), ?_⟩
    obtain ⟨a, C, v, rfl, o, n, ha, k⟩ := h
    exact ⟨_, rfl, _, rfl, a, C, rfl, o, n, .inl ⟨ha, fun d h1 h2 => k d h1 h2⟩⟩
theorem ok_twiceI {f : Addr} {fd : FuncData} (F : Fun K "__init__" "Twice.__init__" sTwiceInit f fd) : FnOk P w K mg base CX0 1 f fd ["self", "value"] (spIni K "value") := by
  refine F.ok scTwice (fun vs H Q E h => ?_) (fun cdv A outer s H vs Q E hr h => ?_)
  · obtain ⟨a, C, v, rfl, _⟩ := h
    rfl
  · refine ⟨_, pss_one (ps_ost (pv 0) (pv 1)), ?_⟩
    obtain ⟨a, C, v, rfl, o, n, ha, k⟩ := h
    exact ⟨_, rfl, _, rfl, a, C, rfl, o, n, .inl ⟨ha, fun d h1 h2 => k d h1 h2⟩⟩
/-- the class x of errors with the field f, at C, its __init__ at fI -/
structure ErrAt (P : Program) (w : World) (K : PySem.W.Frag) (mg : Str → Option Value) (base : Heap) (x f : Str) (C fI : Addr) (fdI : FuncData) : Prop where
  oex : OexC K C
  ic : PySem.W.findIn K (.ref C) "__init__" = some (some (.ref fI))
  ti : PySem.W.typeIn K (.ref fI) = some (.type "function")
  nf : PySem.W.findIn K (.ref C) f = some none
  g : mg x = some (.ref C)
  b : Binds K fdI ["self", f] []
  ok : FnOk P w K mg base CX0 1 fI fdI ["self", f] (spIni K f)
/-- an error of the class at C with the field f holding v leaves; what was tracked stands -/
def Errs (E : XK) (C : Addr) (f : Str) (v : V) (H : Hp) : Prop := ∀ (d : Addr) (H' : Hp), Same H H' → H d = none → H' d = some (.xd [(f, v)]) → E (.ref C) (some d) H'
theorem Errs.later {E : XK} {C : Addr} {f : Str} {v : V} {H H1 : Hp} (h : Errs E C f v H) (s : Same H H1) : Errs E C f v H1 := fun d H' s' n e => h d H' (s.trans s') (s.free n) e
/-- the making of such an error, as a raise asks it -/
theorem err_made {E : XK} {C : Addr} {f : Str} {v : V} {H : Hp} (o : OexC K C) (n : PySem.W.findIn K (.ref C) f = some none) (h : Errs E C f v H) :
    ([v] : List V).length ≤ 1000 ∧ ∀ a, H a = none → spIni K f (.ref a :: ([v] ++ [])) (upd H a (exo a C none))
      (fun u H2 => u = .non ∧ ∃ (d : Addr) (fs : List (Str × V)), H2 a = some (exo a C (some d)) ∧ H2 d = some (exd d fs) ∧ H d = none ∧ E (.ref C) (some d) (upd (del H2 a) d (.xd fs))) (fun _ _ _ => False) := by
  refine ⟨(by show 1 ≤ 1000; decide), fun a ha => ⟨a, C, v, rfl, o, n, upd_same, fun d hd hda => ⟨rfl, d, [(f, v)], upd_same, by rw [upd_ne hda, upd_same], ?_, ?_⟩⟩⟩
  · rw [upd_ne hda] at hd
    exact hd
  · rw [upd_ne hda] at hd
    refine h d _ (fun b u e => ?_) hd upd_same
    have hba : b ≠ a := ne_of_none e ha
    have hbd : b ≠ d := ne_of_none e hd
    rw [upd_ne hbd, del_ne hba, upd_ne hba, upd_ne hbd, upd_ne hba]
    exact e
/-! ### want_bar -/
def spWantBar (C : Addr) : Sp := fun vs H Q E => ∃ (v many : Int), vs = [.int v, .int many] ∧ ((0 ≤ v ∧ v < many ∧ ∀ H', Same H H' → Q .non H') ∨ (¬ (0 ≤ v ∧ v < many) ∧ Errs E C "value" (.int v) H))
theorem scWantBar : FnScope ["value", "many"] ["value", "many"] (defScope sWantBar) := ⟨rfl, rfl, rfl, by decide +kernel, rfl, by decide +kernel, by decide +kernel⟩
theorem ok_wantBar {f fW C fI : Addr} {fd fdW fdI : FuncData} (F : Fun K "want_bar" "want_bar" sWantBar f fd) (W : DefAt P w K mg base CX0 2 "is_within" ["value", "least", "most"] spWithin fW fdW) (B : ErrAt P w K mg base "NoBar" "value" C fI fdI) :
    FnOk P w K mg base (L2.CX P w) 3 f fd ["value", "many"] (spWantBar C) := by
  refine F.okX scWantBar (fun vs H Q E h => ?_) (fun cdv A outer s H vs Q E hr h => ?_)
  · obtain ⟨v, many, rfl, _⟩ := h
    rfl
  · refine ⟨_, pss_one (ps_if (pt_not (pt_val (pe_call W.ok hr rfl W.g W.kp W.b .nil pass0 (pa_cons (pv 0) (pa_cons pe_int (pa_cons (pe_op op_sub (pv 1) pe_int) pa_nil))))))
      (pss_one (ps_raise rfl (takes_of rfl rfl rfl rfl) (pmk_oex B.oex B.ic B.ti B.ok hr B.b .nil pass0 rfl B.g (pa_cons (pv 0) pa_nil)))) pss_nil), ?_⟩
    obtain ⟨v, many, rfl, h⟩ := h
    refine ⟨_, rfl, _, rfl, _, _, rfl, rfl, v, 0, many - 1, rfl, _, rfl, ?_⟩
    rcases h with ⟨h0, h1, q⟩ | ⟨hn, q⟩
    · refine iteBF ?_ (q H (Same.refl H))
      simp only [decide_eq_true h0, decide_eq_true (show v ≤ many - 1 by omega)]
      rfl
    · refine iteBT ?_ ?_
      · have e : (decide (0 ≤ v) && decide (v ≤ many - 1)) = false := by
          cases c : (decide (0 ≤ v) && decide (v ≤ many - 1)) with
          | false => rfl
          | true =>
            simp only [Bool.and_eq_true, decide_eq_true_eq] at c
            exact absurd ⟨c.1, by omega⟩ hn
        show (!(decide (0 ≤ v) && decide (v ≤ many - 1))) = true
        rw [e]
        rfl
      · exact ⟨_, rfl, err_made B.oex B.nf q⟩
end
end K
namespace K
open PySem L2 Rg
open Evl (pss_cut)
/-- what becomes of a lot that is passed -/
inductive Lr where
  | bad | bar (b : Int) | twice (b : Int) | ok (ns : List Int)
def isBar (many b : Int) : Bool := decide (0 ≤ b) && decide (b < many)
def res (many : Int) (ns : List Int) : Lr := match ns.find? (fun b => !isBar many b) with
  | some b => .bar b
  | none => match ft [] ns with
    | some b => .twice b
    | none => .ok ns
theorem isBar_iff {many b : Int} : isBar many b = true ↔ 0 ≤ b ∧ b < many := by
  unfold isBar
  rw [Bool.and_eq_true, decide_eq_true_eq, decide_eq_true_eq]
theorem res_bar {many b : Int} {ns : List Int} {i : Nat} (h : ∀ x ∈ ns.take i, isBar many x = true) (hb : ns[i]? = some b) (nb : ¬ isBar many b = true) : res many ns = .bar b := by
  have e : ns.find? (fun b => !isBar many b) = some b := by
    obtain ⟨hi, rfl⟩ := List.getElem?_eq_some_iff.mp hb
    have e1 : ns = ns.take i ++ ns[i] :: ns.drop (i + 1) := by rw [List.getElem_cons_drop, List.take_append_drop]
    have e2 : (ns.take i).find? (fun b => !isBar many b) = none := List.find?_eq_none.mpr fun x hx => by rw [h x hx]; decide
    have e3 : ns.find? (fun b => !isBar many b) = (ns.take i ++ ns[i] :: ns.drop (i + 1)).find? (fun b => !isBar many b) := congrArg _ e1
    rw [e3, List.find?_append, e2, List.find?_cons]
    have e4 : isBar many ns[i] = false := by
      cases q : isBar many ns[i] with
      | false => rfl
      | true => exact absurd q nb
    rw [e4]
    rfl
  unfold res
  rw [e]
theorem res_all {many : Int} {ns : List Int} (h : ∀ x ∈ ns, isBar many x = true) : res many ns = match ft [] ns with | some b => .twice b | none => .ok ns := by
  have e : ns.find? (fun b => !isBar many b) = none := List.find?_eq_none.mpr fun x hx => by rw [h x hx]; decide
  unfold res
  rw [e]
section
variable {P : Program} {w : World} {K : PySem.W.Frag} {mg : Str → Option Value} {base : Heap}
/-- where the three errors stand -/
structure Cs where
  l : Addr
  n : Addr
  t : Addr
def LotFin (E : XK) (c : Cs) (part : Str) (H : Hp) (r : Lr) (k : List Int → Prop) : Prop := match r with
  | .bad => Errs E c.l "part" (.str part) H
  | .bar b => Errs E c.n "value" (.int b) H
  | .twice b => Errs E c.t "value" (.int b) H
  | .ok ns => k ns
def spWLO (K : PySem.W.Frag) (c : Cs) : Sp := fun vs H Q E => ∃ (v : V) (k : String) (many : Int) (part : Str), vs = [v, .int many, .str part] ∧ Knd K H v k ∧ k ≠ "list" ∧ k ≠ "tuple" ∧ Errs E c.l "part" (.str part) H
def spWLL (K : PySem.W.Frag) (c : Cs) : Sp := fun vs H Q E => ∃ (a : Addr) (xs : List V) (kf : V → String) (many : Int) (part : Str), vs = [.ref a, .int many, .str part] ∧ Knd K H (.ref a) "list" ∧ SqL K H a xs ∧ xs.length ≤ 1000 ∧ (∀ x ∈ xs, Knd K H x (kf x)) ∧
  (((xs.all fun x => decide (kf x = "int")) = false ∧ Errs E c.l "part" (.str part) H) ∨
   ∃ ns, xs = ns.map V.int ∧ (xs.all fun x => decide (kf x = "int")) = true ∧ LotFin E c part H (res many ns) fun ns => ∀ (p : Addr) (ms : List Int) (H' : Hp), ms.Perm ns → Same H H' → H' p = some (.tup (ms.map V.int)) → Q (.ref p) H')
def spWLT (K : PySem.W.Frag) (c : Cs) : Sp := fun vs H Q E => ∃ (a : Addr) (ns : List Int) (many : Int) (part : Str), vs = [.ref a, .int many, .str part] ∧ Knd K H (.ref a) "tuple" ∧ SqT K H a (ns.map V.int) ∧ ns.length ≤ 1000 ∧
  LotFin E c part H (res many ns) fun ns => ∀ (p : Addr) (ms : List Int) (H' : Hp), ms.Perm ns → Same H H' → H' p = some (.tup (ms.map V.int)) → Q (.ref p) H'
abbrev nWL : List Str := ["value", "many", "part", "bar", "twice"]
theorem scWL : FnScope nWL ["value", "many", "part"] (defScope sWantLot) := ⟨rfl, rfl, rfl, by decide +kernel, rfl, by decide +kernel, by decide +kernel⟩
theorem ok_wlO {f fN fB fT : Addr} {c : Cs} {fL fTI : Addr} {fd fdN fdB fdT fdL fdTI : FuncData} (F : Fun K "want_lot" "want_lot" sWantLot f fd) (T : Bi mg) (N : DefAt P w K mg base CX0 2 "is_numbers" ["value"] (spNumsO K) fN fdN) (B : DefAt P w K mg base (L2.CX P w) 3 "want_bar" ["value", "many"] (spWantBar c.n) fB fdB)
    (Tw : DefAt P w K mg base CX0 3 "first_twice" ["values"] (spTwL K) fT fdT) (L : ErrAt P w K mg base "BadLot" "part" c.l fL fdL) (TI : ErrAt P w K mg base "Twice" "value" c.t fTI fdTI) : FnOk P w K mg base (L2.CX P w) 4 f fd ["value", "many", "part"] (spWLO K c) := by
  refine F.okX scWL (fun vs H Q E h => ?_) (fun cdv A outer s H vs Q E hr h => ?_)
  · obtain ⟨v, k, many, part, rfl, _⟩ := h
    rfl
  · have nd := scWL.nd
    have hr2 : Room 2 (A.deeper (PyProof.Rows.envOfC "want_lot" (defScope sWantLot) s.heap.objs.size f cdv)) := hr.mono (by decide)
    refine ⟨_, pss_cons (ps_if (pt_not (pt_val (pe_call N.ok hr2 rfl N.g N.kp N.b .nil pass0 (pa_cons (pv 0) pa_nil)))) (pss_one (ps_raise rfl (takes_of rfl rfl rfl rfl) (pmk_oex L.oex L.ic L.ti L.ok hr2 L.b .nil pass0 rfl L.g (pa_cons (pv 2) pa_nil)))) pss_nil) pss_never, ?_⟩
    obtain ⟨v, k, many, part, rfl, hk, k1, k2, q⟩ := h
    exact ⟨_, rfl, v, k, rfl, hk, k1, k2, fun H' s1 => ⟨_, rfl, iteT ⟨_, rfl, err_made L.oex L.nf (q.later s1)⟩⟩⟩
theorem ok_wlL {f fN fB fT : Addr} {c : Cs} {fL fTI : Addr} {fd fdN fdB fdT fdL fdTI : FuncData} (F : Fun K "want_lot" "want_lot" sWantLot f fd) (T : Bi mg) (N : DefAt P w K mg base CX0 2 "is_numbers" ["value"] (spNumsL K) fN fdN) (B : DefAt P w K mg base (L2.CX P w) 3 "want_bar" ["value", "many"] (spWantBar c.n) fB fdB)
    (Tw : DefAt P w K mg base CX0 3 "first_twice" ["values"] (spTwL K) fT fdT) (L : ErrAt P w K mg base "BadLot" "part" c.l fL fdL) (TI : ErrAt P w K mg base "Twice" "value" c.t fTI fdTI) : FnOk P w K mg base (L2.CX P w) 4 f fd ["value", "many", "part"] (spWLL K c) := by
  refine F.okX scWL (fun vs H Q E h => ?_) (fun cdv A outer s H vs Q E hr h => ?_)
  · obtain ⟨a, xs, kf, many, part, rfl, _⟩ := h
    rfl
  · have nd := scWL.nd
    have hr2 : Room 2 (A.deeper (PyProof.Rows.envOfC "want_lot" (defScope sWantLot) s.heap.objs.size f cdv)) := hr.mono (by decide)
    refine ⟨_, pss_cons (ps_if (pt_not (pt_val (pe_call N.ok hr2 rfl N.g N.kp N.b .nil pass0 (pa_cons (pv 0) pa_nil)))) (pss_one (ps_raise rfl (takes_of rfl rfl rfl rfl) (pmk_oex L.oex L.ic L.ti L.ok hr2 L.b .nil pass0 rfl L.g (pa_cons (pv 2) pa_nil)))) pss_nil)
      (pss_cons (ps_for (passes_of rfl) rfl (pi_list (pv 0)) (pg_name (i := 3) nd rfl (Or.inl rfl)) (pss_one (ps_expr (pe_call B.ok hr rfl B.g B.kp B.b .nil (passes_call (takes_of rfl rfl rfl rfl) (fun _ _ _ _ h => h)) (pa_cons (pv 3) (pa_cons (pv 1) pa_nil))))))
      (pss_cons (ps_set (i := 4) nd rfl (Or.inl rfl) (pe_call Tw.ok hr rfl Tw.g Tw.kp Tw.b .nil pass0 (pa_cons (pv 0) pa_nil)))
      (pss_cons (ps_if (pt_cmpR op_notN (pv 4) pe_non (nomark _)) (pss_one (ps_raise rfl (takes_of rfl rfl rfl rfl) (pmk_oex TI.oex TI.ic TI.ti TI.ok hr2 TI.b .nil pass0 rfl TI.g (pa_cons (pv 4) pa_nil)))) pss_nil)
      (pss_one (ps_ret (pe_callTy call_tuple_of (by rfl) T.tuple (by decide +kernel) (pa_cons (pe_callB cr_sortedI (by rfl) T.sorted (by decide +kernel) (pa_cons (pv 0) pa_nil)) pa_nil))))))), ?_⟩
    obtain ⟨a, xs, kf, many, part, rfl, hk, hs, hl, hx, q⟩ := h
    refine ⟨_, rfl, a, xs, kf, rfl, hk, hs, hl, hx, fun H1 s1 => ⟨_, rfl, ?_⟩⟩
    rcases q with ⟨e, q⟩ | ⟨ns, rfl, e, q⟩
    · rw [e]
      exact iteT ⟨_, rfl, err_made L.oex L.nf (q.later s1)⟩
    · rw [e]
      refine iteF ?_
      refine ⟨_, rfl, a, rfl, ⟨_, s1.seq hs⟩, for_list (K := K) (a := a) (xs := ns.map V.int) (fun i σ H' => ∃ (b : Option V), σ = [some (.ref a), some (.int many), some (.str part), b, none] ∧ Same H H' ∧ ∀ x ∈ ns.take i, isBar many x = true)
        ⟨none, rfl, s1, fun x hx => nomatch hx⟩ (fun i σ H' _ ⟨_, _, s, _⟩ => s.seq hs) ?_ ?_⟩
      · rintro i x σ H' hi ⟨b, rfl, s2, al⟩
        obtain ⟨z, hz, rfl⟩ := int_at hi
        refine ⟨_, rfl, _, rfl, z, many, rfl, ?_⟩
        by_cases c : isBar many z = true
        · obtain ⟨c1, c2⟩ := isBar_iff.mp c
          refine .inl ⟨c1, c2, fun H3 s3 => ⟨_, rfl, s2.trans s3, fun y hy => ?_⟩⟩
          rw [← take_snoc hz] at hy
          rcases List.mem_append.mp hy with m | m
          · exact al y m
          · rw [List.mem_singleton.mp m]
            exact c
        · refine .inr ⟨fun z => c (isBar_iff.mpr z), ?_⟩
          rw [res_bar al hz c] at q
          exact Errs.later q s2
      · rintro σ H' ⟨b, rfl, s2, al⟩
        rw [List.length_map, List.take_length] at al
        rw [res_all al] at q
        rw [List.length_map] at hl
        refine ⟨_, rfl, a, ns, rfl, s2.seq hs, hl, fun H3 s3 => ?_⟩
        have s23 := s2.trans s3
        cases e2 : ft [] ns with
        | some z =>
          rw [e2] at q
          exact ⟨_, rfl, rfl, _, rfl, iteT ⟨_, rfl, err_made TI.oex TI.nf (Errs.later q s23)⟩⟩
        | none =>
          rw [e2] at q
          refine ⟨_, rfl, rfl, _, rfl, iteF ?_⟩
          refine ⟨_, rfl, a, ns, rfl, s23.seq hs, fun ms p pm _ hp => ⟨p, _, rfl, .inl ⟨SqL.of upd_same, fun t ht => ?_⟩⟩⟩
          exact q t ms _ pm ((s23.new hp).new ht) upd_same
theorem ok_wlT {f fN fB fT : Addr} {c : Cs} {fL fTI : Addr} {fd fdN fdB fdT fdL fdTI : FuncData} (F : Fun K "want_lot" "want_lot" sWantLot f fd) (T : Bi mg) (N : DefAt P w K mg base CX0 2 "is_numbers" ["value"] (spNumsT K) fN fdN) (B : DefAt P w K mg base (L2.CX P w) 3 "want_bar" ["value", "many"] (spWantBar c.n) fB fdB)
    (Tw : DefAt P w K mg base CX0 3 "first_twice" ["values"] (spTwT K) fT fdT) (L : ErrAt P w K mg base "BadLot" "part" c.l fL fdL) (TI : ErrAt P w K mg base "Twice" "value" c.t fTI fdTI) : FnOk P w K mg base (L2.CX P w) 4 f fd ["value", "many", "part"] (spWLT K c) := by
  refine F.okX scWL (fun vs H Q E h => ?_) (fun cdv A outer s H vs Q E hr h => ?_)
  · obtain ⟨a, ns, many, part, rfl, _⟩ := h
    rfl
  · have nd := scWL.nd
    have hr2 : Room 2 (A.deeper (PyProof.Rows.envOfC "want_lot" (defScope sWantLot) s.heap.objs.size f cdv)) := hr.mono (by decide)
    refine ⟨_, pss_cons (ps_if (pt_not (pt_val (pe_call N.ok hr2 rfl N.g N.kp N.b .nil pass0 (pa_cons (pv 0) pa_nil)))) (pss_one (ps_raise rfl (takes_of rfl rfl rfl rfl) (pmk_oex L.oex L.ic L.ti L.ok hr2 L.b .nil pass0 rfl L.g (pa_cons (pv 2) pa_nil)))) pss_nil)
      (pss_cons (ps_for (passes_of rfl) rfl (pi_tup (pv 0)) (pg_name (i := 3) nd rfl (Or.inl rfl)) (pss_one (ps_expr (pe_call B.ok hr rfl B.g B.kp B.b .nil (passes_call (takes_of rfl rfl rfl rfl) (fun _ _ _ _ h => h)) (pa_cons (pv 3) (pa_cons (pv 1) pa_nil))))))
      (pss_cons (ps_set (i := 4) nd rfl (Or.inl rfl) (pe_call Tw.ok hr rfl Tw.g Tw.kp Tw.b .nil pass0 (pa_cons (pv 0) pa_nil)))
      (pss_cons (ps_if (pt_cmpR op_notN (pv 4) pe_non (nomark _)) (pss_one (ps_raise rfl (takes_of rfl rfl rfl rfl) (pmk_oex TI.oex TI.ic TI.ti TI.ok hr2 TI.b .nil pass0 rfl TI.g (pa_cons (pv 4) pa_nil)))) pss_nil)
      (pss_one (ps_ret (pe_callTy call_tuple_of (by rfl) T.tuple (by decide +kernel) (pa_cons (pe_callB cr_sortedT (by rfl) T.sorted (by decide +kernel) (pa_cons (pv 0) pa_nil)) pa_nil))))))), ?_⟩
    obtain ⟨a, ns, many, part, rfl, hk, hs, hl, q⟩ := h
    refine ⟨_, rfl, a, _, (fun _ => "int"), rfl, hk, hs, (by rw [List.length_map]; exact hl), (fun x hx => ?_), fun H1 s1 => ⟨_, rfl, ?_⟩⟩
    · obtain ⟨z, _, rfl⟩ := List.mem_map.mp hx
      exact Knd.int
    · have e : ((ns.map V.int).all fun x => decide (("int" : String) = "int")) = true := List.all_eq_true.mpr fun _ _ => rfl
      rw [e]
      refine iteF ?_
      refine ⟨_, rfl, a, rfl, ⟨_, s1.tup hs⟩, for_tup (K := K) (a := a) (xs := ns.map V.int) (fun i σ H' => ∃ (b : Option V), σ = [some (.ref a), some (.int many), some (.str part), b, none] ∧ Same H H' ∧ ∀ x ∈ ns.take i, isBar many x = true)
        ⟨none, rfl, s1, fun x hx => nomatch hx⟩ (fun i σ H' _ ⟨_, _, s, _⟩ => s.tup hs) ?_ ?_⟩
      · rintro i x σ H' hi ⟨b, rfl, s2, al⟩
        obtain ⟨z, hz, rfl⟩ := int_at hi
        refine ⟨_, rfl, _, rfl, z, many, rfl, ?_⟩
        by_cases c : isBar many z = true
        · obtain ⟨c1, c2⟩ := isBar_iff.mp c
          refine .inl ⟨c1, c2, fun H3 s3 => ⟨_, rfl, s2.trans s3, fun y hy => ?_⟩⟩
          rw [← take_snoc hz] at hy
          rcases List.mem_append.mp hy with m | m
          · exact al y m
          · rw [List.mem_singleton.mp m]
            exact c
        · refine .inr ⟨fun z => c (isBar_iff.mpr z), ?_⟩
          rw [res_bar al hz c] at q
          exact Errs.later q s2
      · rintro σ H' ⟨b, rfl, s2, al⟩
        rw [List.length_map, List.take_length] at al
        rw [res_all al] at q
        refine ⟨_, rfl, a, ns, rfl, s2.tup hs, hl, fun H3 s3 => ?_⟩
        have s23 := s2.trans s3
        cases e2 : ft [] ns with
        | some z =>
          rw [e2] at q
          exact ⟨_, rfl, rfl, _, rfl, iteT ⟨_, rfl, err_made TI.oex TI.nf (Errs.later q s23)⟩⟩
        | none =>
          rw [e2] at q
          refine ⟨_, rfl, rfl, _, rfl, iteF ?_⟩
          refine ⟨_, rfl, a, ns, rfl, s23.tup hs, fun ms p pm _ hp => ⟨p, _, rfl, .inl ⟨SqL.of upd_same, fun t ht => ?_⟩⟩⟩
          exact q t ms _ pm ((s23.new hp).new ht) upd_same
end
end K
namespace K
open PySem L2 Rg
open Evl (pss_cut)
section
variable {P : Program} {w : World} {K : PySem.W.Frag} {mg : Str → Option Value} {base : Heap}
/-! ### one of some things -/
def spPick (K : PySem.W.Frag) : Sp := fun vs H Q _ => ∃ (p l : Addr) (e : Addr × List Int) (xs : List V) (n : Nat), vs = [.ref p, .ref l] ∧ SqL K H l xs ∧ l ≠ p ∧ 1 ≤ xs.length ∧ xs.length ≤ 1000 ∧ n < 1000000 ∧ PenAt K H p e n ∧
  ∀ (i : Nat) (v : V) (H' : Hp), xs[i]? = some v → But p H H' → PenAt K H' p e (n + 1) → Q v H'
abbrev nPick : List Str := ["_law_bench_here", "_law_some"]
theorem scPick : FnScope nPick ["_law_bench_here", "_law_some"] (defScope sLwPick) := ⟨rfl, rfl, rfl, by decide +kernel, rfl, by decide +kernel, by decide +kernel⟩
/-- the draw as a def called by its name -/
structure DrawAt (P : Program) (w : World) (K : PySem.W.Frag) (mg : Str → Option Value) (base : Heap) (f : Addr) (fd : FuncData) : Prop where
  ok : FnOk P w K mg base CX0 2 f fd ["_law_bench_here", "_law_many"] (spDraw K)
  g : mg "_law_draw" = some (.ref f)
  kp : PySem.W.keepIn K (.ref f) = true
  b : Binds K fd ["_law_bench_here", "_law_many"] []
theorem ok_pick {f fD : Addr} {fd fdD : FuncData} (F : Fun K "_law_pick" "_law_pick" sLwPick f fd) (T : Bi mg) (D : DrawAt P w K mg base fD fdD) : FnOk P w K mg base CX0 3 f fd ["_law_bench_here", "_law_some"] (spPick K) := by
  refine F.ok scPick (fun vs H Q E h => ?_) (fun cdv A outer s H vs Q E hr h => ?_)
  · obtain ⟨p, l, e, xs, n, rfl, _⟩ := h
    rfl
  · have nd := scPick.nd
    refine ⟨_, pss_one (ps_ret (pe_ix ix_list (pv 1) (pe_call D.ok hr rfl D.g D.kp D.b .nil pass0 (pa_cons (pv 0) (pa_cons (pe_callB call_len_seq (by rfl) T.len PySem.boot_len (pa_cons (pv 1) pa_nil)) pa_nil))) (fun _ _ => rfl))), ?_⟩
    obtain ⟨p, l, e, xs, n, rfl, hl, hlp, l1, l2, hn, pen, k⟩ := h
    refine ⟨_, rfl, _, rfl, _, rfl, l, xs, rfl, .inl hl, p, e, _, n, rfl, by omega, by omega, hn, pen, fun r H' r0 r1 b pen' => ?_⟩
    have hr : r.toNat < xs.length := by omega
    exact ⟨l, xs, r, _, rfl, rfl, b.seq hlp hl, at_of (j := r.toNat) (by omega) (List.getElem?_eq_getElem hr), k _ _ _ (List.getElem?_eq_getElem hr) b pen'⟩
end
end K
namespace Rg
open PySem PySem.Spec PyProof.Rows L2
/-! ### an error that is kept behind its clause -/
/-- an error object of the class at C, its dict at dd -/
def errO (e C : Addr) (dd : Option Addr) : HO := .ext fun hp => ∃ (ob : Obj) (vs : Array Value), hp.get? e = some ob ∧ ob.cls = .ref C ∧ ob.dict = dd ∧ ob.data = .fields vs
theorem errO_at {P : Program} {w : World} {H : Hp} {hp : Heap} {e C : Addr} {dd : Option Addr} (hok : HOk P w H hp) (he : H e = some (errO e C dd)) : ∃ (ob : Obj) (vs : Array Value), hp.get? e = some ob ∧ ob.cls = .ref C ∧ ob.dict = dd ∧ ob.data = .fields vs := (hok e _ he).1
theorem errO_ok {P : Program} {w : World} {H : Hp} {hp : Heap} {e C : Addr} {dd : Option Addr} {ob : Obj} {vs : Array Value} (he : hp.get? e = some ob) (h1 : ob.cls = .ref C) (h2 : ob.dict = dd) (h3 : ob.data = .fields vs) : ObjOk P w H hp e (errO e C dd) :=
  ⟨⟨ob, vs, he, h1, h2, h3⟩, ⟨ob, he⟩, fun _ _ ⟨ob', vs', a, b, c, d⟩ st => ⟨ob', vs', st _ a, b, c, d⟩⟩
/-- a thing that was not tracked is tracked from now on -/
theorem inv_know {X : Cx} {pns : List (Addr × Obj)} {σs : L2.St} {Hh : Hp} {sh : Shared} {e : Addr} {u : HO} (Iv : Inv X pns σs Hh sh) (ne : Hh e = none) (old : e ∉ X.ex → ∀ ob, X.s_0.heap.get? e = some ob → False) (nl : e ≠ X.env.locals)
    (nc : ∀ y c, X.env.cells.lookup y = some c → c ≠ e) (np : ∀ p ∈ X.pn ++ pns, p.1 ≠ e) (ob : ObjOk X.prog X.w (upd Hh e u) sh.heap e u) : Inv X pns σs (upd Hh e u) sh := by
  have oth : ∀ b, b ≠ e → upd Hh e u b = Hh b := fun b hb => upd_ne hb
  have keepS : ∀ {b : Addr} {o : HO}, Hh b = some o → upd Hh e u b = some o := fun {b o} q => by rw [oth b (ne_of_none q ne)]; exact q
  refine ⟨Iv.ok, Iv.os, Iv.bare, ⟨Iv.base.keep, Iv.base.slot, fun b o a n x => ?_, Iv.base.there, fun b xs q => keepS (Iv.base.tups b xs q), fun b o z q => keepS (Iv.base.frzs b o z q), fun b ps q => ?_⟩, Iv.loc, Iv.cell, ?_, fun y c q => ?_, fun p hp => ?_, fun b o q => ?_, Iv.len⟩
  · by_cases hb : b = e
    · subst hb
      exact (old x o a).elim
    · rw [oth b hb]
      exact Iv.base.free b o a n x
  · obtain ⟨more, q'⟩ := Iv.base.tbls b ps q
    exact ⟨more, keepS q'⟩
  · rw [oth _ (Ne.symm nl)]
    exact Iv.free
  · rw [oth _ (nc y c q)]
    exact Iv.freeC y c q
  · obtain ⟨a1, a2, a3⟩ := Iv.pin p hp
    exact ⟨a1, by rw [oth _ (np p hp)]; exact a2, a3⟩
  · by_cases hb : b = e
    · subst hb
      rw [upd_same] at q
      cases q
      exact ob
    · rw [oth b hb] at q
      exact (Iv.hok b o q).stay (fun _ _ _ z => z) (fun c z => keepS z) fun c xs z => keepS z
end Rg
namespace Rg
open PySem PySem.Spec PyProof.Rows L2
/-- what the clause asks: the error is one of the class cv; it is tracked while the suite runs and from then on -/
def wKeep (K : PySem.W.Frag) (cv : Value) (ix : Nat) (tsu : TS) (De : Ends) : WX := fun cls dd σs Hh =>
  PySem.W.exmOne K cls cv = some true ∧ ∃ C : Addr, cls = .ref C ∧ ∀ e, Hh e = none → tsu { nx := fun τ J => De.nx (τ.set ix none) J, rt := De.rt, bk := fun τ J => De.bk (τ.set ix none) J, ct := fun τ J => De.ct (τ.set ix none) J } (σs.set ix (some (.ref e))) (upd Hh e (errO e C dd))
section
variable {X : Cx} {pns : List (Addr × Obj)} {σs : L2.St} {Hh : Hp} {sh : Shared}
theorem inv_in (Iv : Inv X pns σs Hh sh) (e : Addr) : Inv (X.suite e (X.pn ++ pns)) [] σs Hh sh :=
  ⟨Iv.ok.suite _ _, Iv.os, Iv.bare, Iv.base, Iv.loc, Iv.cell, Iv.free, Iv.freeC, fun p hp => Iv.pin p (by simpa using hp), Iv.hok, Iv.len⟩
theorem inv_out {e : Addr} (Iv : Inv (X.suite e (X.pn ++ pns)) [] σs Hh sh) (ok : X.Ok) : Inv X pns σs Hh sh :=
  ⟨ok, Iv.os, Iv.bare, Iv.base, Iv.loc, Iv.cell, Iv.free, Iv.freeC, fun p hp => Iv.pin p (by simpa using hp), Iv.hok, Iv.len⟩
end
section
variable {X : Cx} {y n : Str} {cv : Value} {ix : Nat} {bd su : List Stmt} {st0 : Stmt} {np po po' : Pos} {tbd : WX → TS} {tsu : TS}
theorem ps_try_keep (hstk : X.stack = X.env :: X.outer) (hfr0 : X.env.frame = some X.env.locals) (hnd : X.N.Nodup) (hix : X.N[ix]? = some n) (hnl : X.env.kindOf n = some .local) (hcl : Names X y cv)
    (hbd : ∀ (W : WX) (pn : List (Addr × Obj)) (xe : Value → Shared → Prop), Takes (X.tr pn xe) W → PassesOwn (model X.prog X.w) X.A X.env xe → PSs (X.tr pn xe) bd (tbd W))
    (hsu : ∀ (e : Addr) (pn : List (Addr × Obj)), PSs (X.suite e pn) (st0 :: su) tsu) :
    PS X (.Try bd [.ExceptHandler (some (.Name y np)) (some n) (st0 :: su) po'] [] [] po) (fun De σs Hh => tbd (wKeep X.K cv ix tsu De) De σs Hh) := by
  refine ⟨fun pns sh σs Hh De Iv hh => ?_⟩
  have ok := Iv.ok
  have hfr : X.A.frames = some (X.env :: X.outer) := by rw [ok.frames, hstk]
  have hbody := (hbd (wKeep X.K cv ix tsu De) (X.pn ++ pns) (fun e s1 => wpAny (model X.prog X.w) X.A (noteFrame e X.env) (fun _ s2 => wpAny (model X.prog X.w) X.A (setFlight e none) (fun _ s3 =>
    wpAny (model X.prog X.w) X.A (handleBy e X.env [.ExceptHandler (some (.Name y np)) (some n) (st0 :: su) po']) (SP X pns De) X.xe s3) X.xe s2) X.xe s1) (fun u sx xx => ?_) PassesOwn.looking).run [] sh σs Hh De (Iv.toTry _) hh
  · refine wpAny_Try_except (wpAny_mono hbody (fun fl s1 q => ?_) fun _ _ q => q)
    cases fl with
    | next =>
      obtain ⟨τ, J, Jv, q⟩ := q
      exact wpAny_execs_nil ⟨τ, J, Jv.ofTry ok, q⟩
    | brk => exact let ⟨τ, J, Jv, q⟩ := q; ⟨τ, J, Jv.ofTry ok, q⟩
    | cont => exact let ⟨τ, J, Jv, q⟩ := q; ⟨τ, J, Jv.ofTry ok, q⟩
    | ret u => exact let ⟨v, τ, J, Jv, r, q⟩ := q; ⟨v, τ, J, Jv.ofTry ok, r, q⟩
  -- the error is at e
  obtain ⟨e, B, sI, _, τ, J, cls, dd, rfl, Jv0, nb, up, sky, ne, os, ag, hb, C, rfl, hyes⟩ := xx
  have Jv : Inv X pns τ J sI := Jv0.ofTry ok
  rw [hstk] at sky
  refine Sky.land Zc.steady hfr hfr0 sky fun h3 fl3 up3 => ?_
  have K3 : Inv X pns τ J { sx with heap := h3 } := Jv.landed nb fl3.1 (up.trans up3) os ag
  obtain ⟨o3, v3, g3, z3, d3⟩ := fl3.there
  have enf : e ∉ frs X.stack := fun hm => by
    rw [hstk] at hm
    obtain ⟨_, o', e', hnf⟩ := fl3.2.2.1.mem hm
    rw [g3] at e'
    cases e'
    exact hnf _ d3
  have enl : e ≠ X.env.locals := fun z => enf (by rw [hstk]; exact List.mem_filterMap.mpr ⟨X.env, List.mem_cons_self, by rw [hfr0, z]⟩)
  have enF : e ∉ X.fs := fun hm => enf (by
    rw [hstk]
    obtain ⟨ev, he, q⟩ := List.mem_filterMap.mp hm
    exact List.mem_filterMap.mpr ⟨ev, List.mem_cons_of_mem _ he, q⟩)
  have gone : ∀ ob, sI.heap.get? e = some ob → False := fun ob q => by
    have a := nb e ob q enf
    rw [fl3.2.1] at a
    cases a
  -- tracked
  have know : ∀ {h4 : Heap} {o4 : Obj} {v4 : Array Value}, Inv X pns τ J { sx with heap := h4 } → h4.get? e = some o4 → Zc (.ref C) dd o4 → o4.data = .fields v4 → Inv X pns τ (upd J e (errO e C dd)) { sx with heap := h4 } := fun {h4 o4 v4} K4 g4 z4 d4 => by
    refine inv_know K4 ne (fun hx ob q => ?_) enl (fun x c q z => ?_) (fun p hp z => ?_) (errO_ok g4 z4.1 z4.2 d4)
    · obtain ⟨o', q'⟩ := Jv.base.there e ob q hx
      exact gone o' q'
    · obtain ⟨v, o', q', _⟩ := Jv.cell x c q
      rw [z] at q'
      exact gone _ q'
    · obtain ⟨q', _⟩ := Jv.pin p hp
      rw [z] at q'
      exact gone _ q'
  have test : ∀ {Q E : Value → Shared → Prop}, Q cv { sx with heap := h3 } → wpAny (model X.prog X.w) (X.A.mark (some (.ref e))) (eval (.Name y np) X.env) Q E { sx with heap := h3 } := fun {Q E} q => by
    have S3 := inv_in K3 e
    obtain ⟨hg, hdb, hm | ⟨hm, hv, hn⟩⟩ := hcl
    · exact ld_glob S3 hg hm q hdb
    · exact ld_blt S3 hg hm hv q hn hdb
  refine wpAny_handleBy_cons (codeAny_handlers_test (test ((PySem.W.exm_one (M := model X.prog X.w) K3.kIn (fun _ _ _ _ k q => wpAny_typeOf_ref (k _ _ g3) (by rw [z3.1]; exact q)) hb).here (codeAny_handlers_suite_as (HandSPX.lands_againZ fl3 fun h4 fl4 up4 => ?_))))) (by intro q; cases q)
  obtain ⟨o4, v4, g4, z4, d4⟩ := fl4.there
  have K4 := know (Jv.landed nb fl4.1 ((up.trans up3).trans up4) os ag) g4 z4 d4
  refine store_ok (X := X.suite e (X.pn ++ pns)) (v := .ref e) (inv_in K4 e) hnd hix (.inl hnl) rfl (fun s5 S5 => ?_) (.inr hnl)
  refine wpAny_mono ((hsu e _).run [] s5 _ _ _ S5 (hyes e ne)) (fun fl s6 q => ?_) fun _ _ z => z.elim
  have fin : ∀ {ρ : L2.St} {L : Hp} {Q : Shared → Prop}, Inv (X.suite e (X.pn ++ pns)) [] ρ L s6 → (∀ s7, Inv X pns (ρ.set ix none) L s7 → Q s7) → wpAny (model X.prog X.w) X.A (do bindName X.env n .none; unbindBehindTheSuite X.env n po') (fun _ s7 => Q s7) X.xe s6 :=
    fun {ρ L Q} S6 hq => gone_ok (inv_out S6 ok) hnd hix hnl hq
  cases fl with
  | next => exact let ⟨ρ, L, S6, q⟩ := q; fin S6 fun s7 I7 => ⟨_, _, I7, q⟩
  | brk => exact let ⟨ρ, L, S6, q⟩ := q; fin S6 fun s7 I7 => ⟨_, _, I7, q⟩
  | cont => exact let ⟨ρ, L, S6, q⟩ := q; fin S6 fun s7 I7 => ⟨_, _, I7, q⟩
  | ret u => exact let ⟨v, ρ, L, S6, r, q⟩ := q; fin S6 fun s7 I7 => ⟨_, _, _, I7, r, q⟩
end
end Rg
namespace Rg
open PySem PySem.Spec PyProof.Rows L2
theorem call_or {X : Cx} {fv : Value} {r1 r2 : List V → Hp → VK → Prop} (h1 : CallR X fv r1) (h2 : CallR X fv r2) : CallR X fv (fun xs Hh Qq => r1 xs Hh Qq ∨ r2 xs Hh Qq) := fun pns s σs Hh xs us Qq Iv rr h => h.elim (h1 pns s σs Hh xs us Qq Iv rr) (h2 pns s σs Hh xs us Qq Iv rr)
/-- an error that is kept: its object, its dict -/
def ErrV (Hh : Hp) (x : V) (C : Addr) (fs : List (Str × V)) : Prop := ∃ (e dd : Addr), x = .ref e ∧ Hh e = some (errO e C (some dd)) ∧ Hh dd = some (.xd fs)
theorem err_inst {P : Program} {w : World} {Hh : Hp} {hp : Heap} {e C dd : Addr} {fs : List (Str × V)} (hok : HOk P w Hh hp) (he : Hh e = some (errO e C (some dd))) (hd : Hh dd = some (.xd fs)) :
    ∃ (ob od : Obj) (mA : Str → Option Value), PySem.W.InstAt hp e ob C (some od) ∧ (∀ f, PySem.W.lookIn f od = some (mA f)) ∧ ∀ f, RelO (fs.lookup f) (mA f) := by
  obtain ⟨ob, vs, g, c1, c2, c3⟩ := errO_at hok he
  obtain ⟨mA, hns, hr⟩ := (show ObjOk P w Hh hp dd (.xd fs) from hok dd _ hd)
  obtain ⟨od, ho, hl⟩ := lookIn_ns hns
  exact ⟨ob, od, mA, ⟨g, c1, by unfold PySem.W.notCls; rw [c3] <;> rfl, by rw [c2]; exact ho⟩, hl, hr⟩
/-- isinstance(e, c), e an error that is kept -/
def rIsE (K : PySem.W.Frag) : List V → Hp → VK → Prop := fun xs Hh Qq => ∃ (x c : V) (cv : Value) (C : Addr) (fs : List (Str × V)) (b : Bool), xs = [x, c] ∧ (∀ u, RelV c u → u = cv) ∧ ExcC K C ∧ ErrV Hh x C fs ∧ PySem.W.kitOne K (.ref C) cv = some b ∧ Qq (.bl b) Hh
theorem cr_isE {X : Cx} : CallR X (.builtin "isinstance") (rIsE X.K) := by
  intro pns s σs Hh xs us Qq Iv rr ⟨x, c, cv, C, fs, b, ex, hcv, G, ⟨e, dd, ez, he, hd⟩, kit, q⟩
  subst ex ez
  obtain ⟨u1, u2, rfl, r1, r2⟩ := vals2 rr
  obtain rfl : u1 = Value.ref e := r1
  obtain rfl := hcv _ r2
  obtain ⟨ob, od, mA, J, _, _⟩ := err_inst Iv.hok he hd
  have hcl : (PySem.W.clsIn X.K C).isSome = true := by
    obtain ⟨cd, hc, _⟩ := PySem.W.any_some G.hd
    rw [hc]
    rfl
  exact PySem.W.kia_one (PySem.W.kitx_exc hcl G.hg G.hk G.hs G.ha G.hn G.ht G.hm) Iv.kIn J kit (fun z => nomatch z) fun tk => ⟨.bl b, Hh, Iv.kept (t' := tk) fun _ _ z => z, rfl, q⟩
/-- e.f, e an error that is kept -/
def tFldE (K : PySem.W.Frag) (te : TE) (f : Str) : TE := fun σs Hh Qq => te σs Hh fun x J => ∃ (C : Addr) (fs : List (Str × V)) (v : V), ErrV J x C fs ∧ XfC K C ∧ PySem.W.findIn K (.ref C) f = some none ∧ fs.lookup f = some v ∧ Qq v J
theorem pe_fldE {X : Cx} {ex : Expr} {te : TE} {po : Pos} {n : Str} (he : PE X ex te) (hb : attributeBase ex n X.env (eval ex X.env) = eval ex X.env := by rfl) : PE X (.Attribute ex n po) (tFldE X.K te n) := by
  refine ⟨fun pns s σs Hh Qq Iv h => attr_of hb (thn (he.run pns s σs Hh _ Iv h) fun u s1 hh => ?_)⟩
  obtain ⟨x, J, I1, rx, C, fs, v, ⟨e, dd, ez, g1, g2⟩, T, hno, l, q⟩ := hh
  subst ez
  obtain rfl : u = Value.ref e := rx
  obtain ⟨ob, od, mA, K1, hl, hr⟩ := err_inst I1.hok g1 g2
  obtain ⟨z, hz, rz⟩ := RelO.some_of (v := v) (o := mA n) (by rw [← l]; exact hr n)
  exact HandSPX.exc_get I1.kIn K1 T.ga T.gg T.exC (PySem.W.findObj_own T.hdC hno rfl (by rw [hl, hz])) (handed_of rz) ⟨v, J, I1.tok _, rz, q⟩
end Rg
namespace Rg
open PySem PySem.Spec PyProof.Rows L2
/-- name = {k: v for ..}, a plain local name -/
theorem sw_dc {kx vx : Expr} {gs : List Comprehension} {sc : Scope} {po py : Pos} {y : Str} {ln : Nat} {ev : Env} (hk : ev.scope.kind = .function) (hy : ev.scope.names.lookup y = some .local) (hl : (py.line == po.line) = true)
    (ha : (sc.names.any fun (n, k) => n == y && (k == .local || k == .cell)) = false) : swapsWith (.DictComp kx vx gs sc po) (some (.Name y py)) ln ev = pure true := by
  have k1 : ev.kindOf y = some .local := hy
  have k2 : ev.blockKind = .function := by unfold Env.blockKind; rw [hk]; rfl
  unfold swapsWith
  simp only [k2, k1, ha, Expr.pos, hl]
  rfl
section
variable {X : Cx}
theorem ps_setDc {ix : Nat} {y : Str} {py : Pos} {kx vx tg itx : Expr} {ifs : List Expr} {sc : Scope} {own : List (Str × Nat)} {po spo : Pos} {wi : TI} {g : TG} {tt : TT} {tk tv : TE} (hc : X.calm = true) (hN : X.N.Nodup) (hy : X.N[ix]? = some y) (hyl : X.env.scope.names.lookup y = some .local)
    (hsw : swapsWith (.DictComp kx vx [⟨tg, itx, ifs, 0⟩] sc po) (some (.Name y py)) spo.line X.env = pure true) (hi : PI X tg itx wi) (ok : BlkOk X.N X.env.scope sc own)
    (hg : ∀ (s : Shared) (H : Hp) (C : Addr) (cl : List (Str × Addr)) (fp : List Addr), PG (X.blk s H sc (compEnvC sc cl C X.env) fp) tg g) (ht : ∀ (s : Shared) (H : Hp) (C : Addr) (cl : List (Str × Addr)) (fp : List Addr), PTs (X.blk s H sc (compEnvC sc cl C X.env) fp) ifs tt)
    (hk : ∀ (s : Shared) (H : Hp) (C : Addr) (cl : List (Str × Addr)) (fp : List Addr), PE (X.blk s H sc (compEnvC sc cl C X.env) fp) kx tk) (he : ∀ (s : Shared) (H : Hp) (C : Addr) (cl : List (Str × Addr)) (fp : List Addr), PE (X.blk s H sc (compEnvC sc cl C X.env) fp) vx tv)
    (hs : ∀ x, foldedSetIterable itx X.env x = pure x := by intro _; rfl) : PS X (.Assign [.Name y py] (.DictComp kx vx [⟨tg, itx, ifs, 0⟩] sc po) spo) (tAsg (tDc wi g tt tk tv (own.map (·.2))) (gName ix)) := by
  refine ⟨fun pns sh σs Hh De Iv h => ?_⟩
  rw [exec_Assign_Name_used _ _ _ _ hsw]
  refine wpAny_bind (wpAny_standAt (wpAny_bind ?_))
  show wpAny _ X.A (do let _ ← comprehension (.DictComp kx vx [⟨tg, itx, ifs, 0⟩] sc po) sc X.env (firstIterPos [⟨tg, itx, ifs, 0⟩] po) newDict false (eval itx X.env) (some (assign (.Name y py) X.env))) _ _ sh
  have h2 : tDc wi g tt tk tv (own.map (·.2)) σs Hh (fun x J => gName ix x σs J De.nx) := h
  refine wpAny_bind (thn (dc_core (Qf := fun _ s' => SP X pns De .next s') hc hN Iv hi ok hg ht hk he hs h2 fun D C s' m J I' q hn f => ?_) fun _ s' hq => wpAny_pure (wpAny_pure hq))
  show wpAny _ _ (assign (.Name y py) X.env (.ref D)) _ _ _
  refine wpAny_assign_Name (store_ok2 (v := V.ref D) I' hN hy (.inl hyl) rfl (fun s2 I2 ⟨a, sb, ha⟩ => ?_) (.inr hyl))
  obtain ⟨f0, f1, f2, f3, f4, f5⟩ := f
  have ne : C ≠ a := ha.elim (fun z => by rw [z]; exact f1) fun z e => f4 y a z e.symm
  exact ⟨m, hn.sameBut sb ne, fun h3 sb3 => ⟨_, J, I2.turned (t' := s2.toks) (fun b o hb e => (sb3.2 b hb).trans e) f0 f1 f3 f4 f5, q⟩⟩
end
end Rg
namespace Rg
open PySem PySem.Spec PyProof.Rows L2
/-! ### the tuples of a zip that are kept -/
theorem tup_at {h h' : Heap} {a : Addr} {its : Array Value} (x : h.IsTuple a its) (e : ∀ o, h.get? a = some o → h'.get? a = some o) : h'.IsTuple a its := let ⟨o, ho, r⟩ := x; ⟨o, e _ ho, r⟩
theorem draws_tup {prog : Program} {w : World} {A : Around} (clear : A.handled = none) (it l : Addr) (apart : l ≠ it) (its : Array Value) : Draws prog w A it [it, l] its.size (fun j v => its[j]? = some v) (fun j h => h.IsTupleIter it l j ∧ h.IsTuple l its) where
  live := fun _ _ stand => let ⟨o, ho, _⟩ := stand.1; ⟨o, ho⟩
  frame := fun _ _ _ stand kept => ⟨stand.1.at fun o e => kept it (by simp) o e, tup_at stand.2 fun o e => kept l (by simp) o e⟩
  item := fun j s Q E hj stand hQ => by
    refine RZ.nextOf_tuple_item stand.1 stand.2 (x := its[j]) (by simp [hj]) fun h' it' same => ?_
    exact hQ _ h' s.toks (by simp [hj]) ⟨it', stand.2.extBut same.extBut apart⟩ same
  done := fun s Q E stand hE => RZ.nextOf_tuple_end clear stand.1 stand.2 (by simp) hE
section
variable {prog : Program} {w : World} {A : Around} {E : Value → Shared → Prop} {s : Shared} {z TI TO T L i1 i2 : Addr} {fp1 fp2 : List Addr} {n1 n2 j : Nat} {P1 P2 : Nat → Value → Prop} {St1 St2 : Nat → Heap → Prop} {b : Bool} {oT : Obj}
theorem zh_next {Q : Value → Shared → Prop} (S : ZipSep2 z TI TO i1 i2 fp1 fp2) (D1 : Draws prog w A i1 fp1 n1 P1 St1) (D2 : Draws prog w A i2 fp2 n2 P2 St2) (hz : IsZipHeld s.heap z TI TO T b) (hT : s.heap.get? T = some oT) (hTI : IsTupOf2 s.heap TI (.ref i1) (.ref i2)) (t1 : St1 j s.heap) (t2 : St2 j s.heap) (l1 : j < n1) (l2 : j < n2)
    (hQ : ∀ u v h' tk, P1 j u → P2 j v → IsZipHeld h' z TI TO T true → St1 (j + 1) h' → St2 (j + 1) h' → IsTupOf2 h' s.heap.objs.size u v → h'.objs.size = s.heap.objs.size + 1 → (∀ c o, c ≠ z → c ≠ i1 → c ≠ i2 → s.heap.get? c = some o → h'.get? c = some o) → Q (.ref s.heap.objs.size) { s with heap := h', toks := tk }) :
    wpAny (model prog w) A (Builtin.«zip.__next__» ⟨[.ref z], []⟩) (fun fin s' => ∃ v, fin = .done (.ret v) ∧ Q v s') E s := by
  obtain ⟨hp, g, d, tk0, os⟩ := s
  show wpAny _ _ (field (.ref z) 2 >>= _) _ _ _
  refine wpAny_bind (wpAny_field hz rfl (x := .bool false) rfl ?_)
  show wpAny _ _ (field (.ref z) 3 >>= _) _ _ _
  refine wpAny_bind (wpAny_field hz rfl (x := .ref TI) rfl ?_)
  refine wpAny_bind (wpAny_seqItems hTI rfl ?_)
  show wpAny _ _ (Builtin.SmallTypes.ownedTupleIsFree (.ref z) >>= _) _ _ _
  refine wpAny_bind (wpAny_tupleHeld_zip (s := ⟨hp, g, d, tk0, os⟩) hz hT fun k1 z1 c1 => ?_)
  replace c1 : Heap.SameBut z hp k1 := c1
  simp only [Bool.false_eq_true, if_false]
  refine wpAny_bind ?_
  rw [← Array.forIn_toList]
  simp only [List.forIn_cons, List.forIn_nil]
  refine wpAny_bind (wpAny_bind (wpAny_holding ?_))
  show wpAny _ _ (Builtin.SmallTypes.nextOf (.ref i1) >>= _) _ _ ⟨k1, g, d, tk0, os⟩
  refine wpAny_bind (D1.item j _ _ _ l1 (D1.over t1 c1 S.zf1) fun u k2 tk1 pu t1' c2 => wpAny_pure ?_)
  replace c2 : Heap.SameBut i1 k1 k2 := c2
  refine wpAny_pure ?_
  refine wpAny_bind (wpAny_bind (wpAny_holding ?_))
  show wpAny _ _ (Builtin.SmallTypes.nextOf (.ref i2) >>= _) _ _ ⟨k2, g, d, tk1, os⟩
  refine wpAny_bind (D2.item j _ _ _ l2 (D2.over (D2.over t2 c1 S.zf2) c2 S.sep1_2) fun v k3 tk2 pv t2' c3 => wpAny_pure ?_)
  replace c3 : Heap.SameBut i2 k2 k3 := c3
  refine wpAny_pure (wpAny_pure ?_)
  show wpAny _ _ (newTuple [u, v] >>= _) _ _ ⟨k3, g, d, tk2, os⟩
  refine wpAny_bind (wpAny_newTuple ?_)
  have size3 : k3.objs.size = hp.objs.size := by rw [c3.1, c2.1, c1.1]
  have z3 : IsZipHeld k3 z TI TO T true := c3.extBut _ _ S.zi2 (c2.extBut _ _ S.zi1 z1)
  have stay : ∀ c o, c ≠ z → c ≠ i1 → c ≠ i2 → hp.get? c = some o → k3.get? c = some o := fun c o a1 a2 a3 e => c3.extBut _ _ a3 (c2.extBut _ _ a2 (c1.extBut _ _ a1 e))
  refine wpAny_pure ⟨_, rfl, ?_⟩
  show Q (.ref k3.objs.size) _
  have at3 : IsTupOf2 (k3.push { cls := .type "tuple", data := .seq #[u, v] }) k3.objs.size u v := Heap.get?_push_size _ rfl
  have size4 : (k3.push { cls := .type "tuple", data := .seq #[u, v] }).objs.size = k3.objs.size + 1 := Heap.size_push ..
  rw [size3] at at3 size4 ⊢
  exact hQ u v _ tk2 pu pv (Heap.get?_push_of_some _ z3) (D1.frame _ _ _ (D1.over t1' c3 S.sep2_1) fun c _ o e => Heap.get?_push_of_some _ e) (D2.frame _ _ _ t2' fun c _ o e => Heap.get?_push_of_some _ e) at3 size4 fun c o a1 a2 a3 e => Heap.get?_push_of_some _ (stay c o a1 a2 a3 e)
theorem zh_stop {Q : Fin → Shared → Prop} (S : ZipSep2 z TI TO i1 i2 fp1 fp2) (D1 : Draws prog w A i1 fp1 n1 P1 St1) (D2 : Draws prog w A i2 fp2 n2 P2 St2) (hz : IsZipHeld s.heap z TI TO T b) (hT : s.heap.get? T = some oT) (hTI : IsTupOf2 s.heap TI (.ref i1) (.ref i2)) (t1 : St1 j s.heap) (t2 : St2 j s.heap) (l1 : j ≤ n1) (l2 : j ≤ n2) (over : j = n1 ∨ j = n2)
    (hE : ∀ h' tk e, (∀ c o, c ≠ z → c ≠ i1 → c ≠ i2 → s.heap.get? c = some o → h'.get? c = some o) → (∃ o, h'.get? e = some o ∧ o.cls = .type "StopIteration") → E (.ref e) { s with heap := h', toks := tk }) :
    wpAny (model prog w) A (Builtin.«zip.__next__» ⟨[.ref z], []⟩) Q E s := by
  obtain ⟨hp, g, d, tk0, os⟩ := s
  show wpAny _ _ (field (.ref z) 2 >>= _) _ _ _
  refine wpAny_bind (wpAny_field hz rfl (x := .bool false) rfl ?_)
  show wpAny _ _ (field (.ref z) 3 >>= _) _ _ _
  refine wpAny_bind (wpAny_field hz rfl (x := .ref TI) rfl ?_)
  refine wpAny_bind (wpAny_seqItems hTI rfl ?_)
  show wpAny _ _ (Builtin.SmallTypes.ownedTupleIsFree (.ref z) >>= _) _ _ _
  refine wpAny_bind (wpAny_tupleHeld_zip (s := ⟨hp, g, d, tk0, os⟩) hz hT fun k1 z1 c1 => ?_)
  replace c1 : Heap.SameBut z hp k1 := c1
  simp only [Bool.false_eq_true, if_false]
  refine wpAny_bind ?_
  rw [← Array.forIn_toList]
  simp only [List.forIn_cons, List.forIn_nil]
  refine wpAny_bind (wpAny_bind (wpAny_holding ?_))
  show wpAny _ _ (Builtin.SmallTypes.nextOf (.ref i1) >>= _) _ _ ⟨k1, g, d, tk0, os⟩
  by_cases c : j < n1
  · have e2 : j = n2 := by omega
    refine wpAny_bind (D1.item j _ _ _ c (D1.over t1 c1 S.zf1) fun u k2 tk1 pu t1' c2 => wpAny_pure ?_)
    replace c2 : Heap.SameBut i1 k1 k2 := c2
    refine wpAny_pure ?_
    refine wpAny_bind (wpAny_bind (wpAny_holding ?_))
    show wpAny _ _ (Builtin.SmallTypes.nextOf (.ref i2) >>= _) _ _ ⟨k2, g, d, tk1, os⟩
    refine wpAny_bind (D2.done ⟨k2, g, d, tk1, os⟩ _ _ (by rw [← e2]; exact D2.over (D2.over t2 c1 S.zf2) c2 S.sep1_2) fun q e hq he => ?_)
    exact hE q tk1 e (fun c o a1 a2 a3 x => hq c o a3 (c2.extBut _ _ a2 (c1.extBut _ _ a1 x))) he
  · have e1 : j = n1 := by omega
    refine wpAny_bind (D1.done ⟨k1, g, d, tk0, os⟩ _ _ (by rw [← e1]; exact D1.over t1 c1 S.zf1) fun q e hq he => ?_)
    exact hE q tk0 e (fun c o a1 a2 a3 x => hq c o a2 (c1.extBut _ _ a1 x)) he
/-- a zip whose tuples a list keeps -/
def ZSt (z TI TO i1 i2 L : Addr) (St1 St2 : Nat → Heap → Prop) (j : Nat) (h : Heap) : Prop := IsTupOf2 h TI (.ref i1) (.ref i2) ∧ St1 j h ∧ St2 j h ∧ ((IsZip h z TI TO .none ∧ ∃ a b, IsTupOf2 h TO a b) ∨ ∃ T f oT, IsZipHeld h z TI TO T f ∧ h.get? T = some oT ∧ T ≠ z ∧ T ≠ i1 ∧ T ≠ i2 ∧ T ≠ L)
theorem zst_type (st : ZSt z TI TO i1 i2 L St1 St2 j s.heap) : s.TypeIs (.ref z) "zip" := by
  rcases st.2.2.2 with ⟨hz, _⟩ | ⟨_, _, _, hz, _⟩
  · exact ⟨_, hz, rfl⟩
  · exact ⟨_, hz, rfl⟩
theorem zst_keep (D1 : Draws prog w A i1 fp1 n1 P1 St1) (D2 : Draws prog w A i2 fp2 n2 P2 St2) {h h' : Heap} (st : ZSt z TI TO i1 i2 L St1 St2 j h) (nz : z ≠ L) (nTI : TI ≠ L) (nTO : TO ≠ L) (nf1 : L ∉ fp1) (nf2 : L ∉ fp2) (k : ∀ c o, c ≠ L → h.get? c = some o → h'.get? c = some o) : ZSt z TI TO i1 i2 L St1 St2 j h' := by
  obtain ⟨a1, a2, a3, a4⟩ := st
  refine ⟨k _ _ nTI a1, D1.frame _ _ _ a2 fun c hc o e => k c o (fun q => nf1 (q ▸ hc)) e, D2.frame _ _ _ a3 fun c hc o e => k c o (fun q => nf2 (q ▸ hc)) e, ?_⟩
  rcases a4 with ⟨hz, a, b, hTO⟩ | ⟨T, f, oT, hz, hT, r1, r2, r3, r4⟩
  · exact .inl ⟨k _ _ nz hz, a, b, k _ _ nTO hTO⟩
  · exact .inr ⟨T, f, oT, k _ _ nz hz, k _ _ r4 hT, r1, r2, r3, r4⟩
theorem zst_item {Q : Option Value → Shared → Prop} (S : ZipSep2 z TI TO i1 i2 fp1 fp2) (D1 : Draws prog w A.in1 i1 fp1 n1 P1 St1) (D2 : Draws prog w A.in1 i2 fp2 n2 P2 St2) (st : ZSt z TI TO i1 i2 L St1 St2 j s.heap) (hL : L < s.heap.objs.size) (l1 : j < n1) (l2 : j < n2)
    (hQ : ∀ u v h' tk, P1 j u → P2 j v → ZSt z TI TO i1 i2 L St1 St2 (j + 1) h' → IsTupOf2 h' s.heap.objs.size u v → (∀ c o, c ≠ z → c ≠ TO → c ≠ i1 → c ≠ i2 → s.heap.get? c = some o → h'.get? c = some o) → Q (some (.ref s.heap.objs.size)) { s with heap := h', toks := tk }) :
    wpAny (model prog w) A (pyNext (.ref z)) Q E s := by
  have ty := zst_type st
  obtain ⟨hTI, t1, t2, a4⟩ := st
  have lt : ∀ {c o}, s.heap.get? c = some o → s.heap.objs.size ≠ c := fun e => Nat.ne_of_gt (Heap.lt_size e)
  have m1 : s.heap.objs.size ≠ i1 := by obtain ⟨_, e⟩ := D1.live _ _ t1; exact lt e
  have m2 : s.heap.objs.size ≠ i2 := by obtain ⟨_, e⟩ := D2.live _ _ t2; exact lt e
  rcases a4 with ⟨hz, a, b, hTO⟩ | ⟨T, f, oT, hz, hT, r1, r2, r3, r4⟩
  · refine wpAny_pyNext_zipD2_item S D1 D2 hz hTI hTO t1 t2 l1 l2 fun u v h' tk pu pv b1 b2 d1 d2 b5 b6 hk => ?_
    exact hQ u v h' tk pu pv ⟨hk _ _ S.TIz S.TITO S.TIi1 S.TIi2 hTI, d1, d2, .inr ⟨_, false, _, b1, b5, lt hz, m1, m2, Nat.ne_of_gt hL⟩⟩ b5 hk
  · unfold pyNext
    refine wpAny_bind (wpAny_attempt (wpAny_callSpecial?_slot (name := Str.ofString "__next__") ty F.slot_zip_next
      (wpAny_call_entry F.slot_zip_next ty F.entry_zip_next (zh_next S D1 D2 hz hT hTI t1 t2 l1 l2 fun u v h' tk pu pv b1 d1 d2 b5 b6 hk => wpAny_pure ?_) (F.args_zip_next_1 _))))
    exact hQ u v h' tk pu pv ⟨hk _ _ S.TIz S.TIi1 S.TIi2 hTI, d1, d2, .inr ⟨T, true, oT, b1, hk _ _ r1 r2 r3 hT, r1, r2, r3, r4⟩⟩ b5 fun c o q1 _ q3 q4 e => hk c o q1 q3 q4 e
theorem zst_done {Q : Option Value → Shared → Prop} (S : ZipSep2 z TI TO i1 i2 fp1 fp2) (D1 : Draws prog w A.in1 i1 fp1 n1 P1 St1) (D2 : Draws prog w A.in1 i2 fp2 n2 P2 St2) (st : ZSt z TI TO i1 i2 L St1 St2 j s.heap) (l1 : j ≤ n1) (l2 : j ≤ n2) (over : j = n1 ∨ j = n2)
    (hQ : ∀ h' tk, (∀ c o, c ≠ z → c ≠ TO → c ≠ i1 → c ≠ i2 → s.heap.get? c = some o → h'.get? c = some o) → Q none { s with heap := h', toks := tk }) : wpAny (model prog w) A (pyNext (.ref z)) Q E s := by
  have ty := zst_type st
  obtain ⟨hTI, t1, t2, a4⟩ := st
  rcases a4 with ⟨hz, a, b, hTO⟩ | ⟨T, f, oT, hz, hT, r1, r2, r3, r4⟩
  · exact wpAny_pyNext_zipD2_end S D1 D2 hz hTI hTO t1 t2 l1 l2 over hQ
  · unfold pyNext
    refine wpAny_bind (wpAny_attempt (wpAny_callSpecial?_slot (name := Str.ofString "__next__") ty F.slot_zip_next
      (wpAny_call_entry F.slot_zip_next ty F.entry_zip_next (zh_stop S D1 D2 hz hT hTI t1 t2 l1 l2 over fun h' tk e hk he => ?_) (F.args_zip_next_1 _))))
    obtain ⟨o, ho, hc⟩ := he
    refine wpAny_bind (wpAny_isInstance (T := "StopIteration") (b := true) ⟨o, ho, hc⟩ isSubtype_stop ?_)
    exact wpAny_pure (hQ _ _ fun c o q1 _ q3 q4 e => hk c o q1 q3 q4 e)
theorem zst_self {Q : Value → Shared → Prop} (st : ZSt z TI TO i1 i2 L St1 St2 j s.heap) (h : Q (.ref z) s) : wpAny (model prog w) A (pyIter (.ref z)) Q E s := by
  have ty := zst_type st
  refine wpAny_pyIter_slot ty F.slot_zip_iter (wpAny_call_entry F.slot_zip_iter ty F.entry_zip_iter ?_ (F.args_zip_iter_1 _))
  show wpAny _ _ (ret (.ref z)) _ _ s
  exact wpAny_pure ⟨_, rfl, "zip", _, ty, F.slot_zip_next.lookup, h⟩
end
/-- the addresses of the pairs given out so far -/
structure ZGo (P1 P2 : Nat → Value → Prop) (lo : Addr) (h : Heap) (as : List Addr) : Prop where
  up : as.Pairwise (· < ·)
  hi : ∀ a ∈ as, lo < a
  each : ∀ (k : Nat) (a : Addr), as[k]? = some a → ∃ u v, P1 k u ∧ P2 k v ∧ IsTupOf2 h a u v
end Rg
namespace Rg
open PySem PySem.Spec PyProof.Rows L2
theorem nolen_zp : typeLookup (.type "zip") "__len__" = pure none := by rw [typeLookup_type, builtinLookup_eq_fast]; kernel_rfl
theorem nohint_zp : typeLookup (.type "zip") "__length_hint__" = pure none := by rw [typeLookup_type, builtinLookup_eq_fast]; kernel_rfl
/-- all cells of the zip stand below L -/
structure ZLow (z TI TO L : Addr) (fp1 fp2 : List Addr) : Prop where
  z : z < L
  TI : TI < L
  TO : TO < L
  f1 : ∀ c ∈ fp1, c < L
  f2 : ∀ c ∈ fp2, c < L
section
variable {prog : Program} {w : World} {A : Around} {s : Shared} {R : Result → Shared → Prop} {z TI TO L i1 i2 : Addr} {fp1 fp2 : List Addr} {n1 n2 : Nat} {P1 P2 : Nat → Value → Prop} {St1 St2 : Nat → Heap → Prop}
theorem zl_keep (W : ZLow z TI TO L fp1 fp2) (D1 : Draws prog w A i1 fp1 n1 P1 St1) (D2 : Draws prog w A i2 fp2 n2 P2 St2) {j : Nat} {h h' : Heap} (st : ZSt z TI TO i1 i2 L St1 St2 j h) (k : ∀ c o, c ≠ L → h.get? c = some o → h'.get? c = some o) : ZSt z TI TO i1 i2 L St1 St2 j h' :=
  zst_keep D1 D2 st (Nat.ne_of_lt W.z) (Nat.ne_of_lt W.TI) (Nat.ne_of_lt W.TO) (fun q => Nat.lt_irrefl _ (W.f1 _ q)) (fun q => Nat.lt_irrefl _ (W.f2 _ q)) k
theorem zl_loop (S : ZipSep2 z TI TO i1 i2 fp1 fp2) (D1 : Draws prog w A.in1.in1 i1 fp1 n1 P1 St1) (D2 : Draws prog w A.in1.in1 i2 fp2 n2 P2 St2) (W : ZLow z TI TO L fp1 fp2) (hn : min n1 n2 ≤ sizeLine) (res : Value) {h0 : Heap}
    (hR : ∀ h' tk acc c as, (∀ b o, b ≠ L → b ≠ z → b ≠ TO → b ≠ i1 → b ≠ i2 → h0.get? b = some o → h'.get? b = some o) → h'.get? L = some { cls := .type "list", dict := none, data := .seq acc c, slots := #[] } → as.length = min n1 n2 → ZGo P1 P2 L h' as → acc.toList = as.map Value.ref → R (.ok (.ret res)) { s with heap := h', toks := tk }) :
    ∀ (m j : Nat) (h : Heap) (tk c : Nat) (acc : Array Value) (as : List Addr), min n1 n2 - j = m → j ≤ min n1 n2 → ZSt z TI TO i1 i2 L St1 St2 j h → (∀ b o, b ≠ L → b ≠ z → b ≠ TO → b ≠ i1 → b ≠ i2 → h0.get? b = some o → h.get? b = some o) →
      h.get? L = some { cls := .type "list", dict := none, data := .seq acc c, slots := #[] } → acc.toList = as.map Value.ref → as.length = j → ZGo P1 P2 L h as → codeAny (model prog w) A (.builtin "list.extend.loop" ⟨[.ref L, .ref z, res], []⟩) R { s with heap := h, toks := tk } := by
  have lz : L ≠ z := Nat.ne_of_gt W.z
  have lTO : L ≠ TO := Nat.ne_of_gt W.TO
  have li1 : L ≠ i1 := Nat.ne_of_gt (W.f1 _ S.mem1)
  have li2 : L ≠ i2 := Nat.ne_of_gt (W.f2 _ S.mem2)
  have off : ∀ {a : Addr}, L < a → a ≠ z ∧ a ≠ TO ∧ a ≠ i1 ∧ a ≠ i2 := fun {a} q => ⟨Nat.ne_of_gt (Nat.lt_trans W.z q), Nat.ne_of_gt (Nat.lt_trans W.TO q), Nat.ne_of_gt (Nat.lt_trans (W.f1 _ S.mem1) q), Nat.ne_of_gt (Nat.lt_trans (W.f2 _ S.mem2) q)⟩
  intro m
  induction m with
  | zero =>
    intro j h tk c acc as hm hj st keep hL full len G
    have le1 := Nat.min_le_left n1 n2
    have le2 := Nat.min_le_right n1 n2
    refine codeAny_builtin PySem.F.entry_extend_loop ?_
    rw [Around.under_plainId PySem.F.plain_extend_loop _]
    show wpAny _ A.in1 (pyNext (.ref z) >>= _) _ _ _
    refine wpAny_bind (zst_done (s := { s with heap := h, toks := tk }) (A := A.in1) S D1 D2 st (by omega) (by omega) (by omega) fun h' tk' ex => ?_)
    refine wpAny_pure (hR h' tk' acc c as (fun b o q0 q1 q2 q3 q4 e => ex b o q1 q2 q3 q4 (keep b o q0 q1 q2 q3 q4 e)) (ex L _ lz lTO li1 li2 hL) (by omega) ⟨G.up, G.hi, fun k a hk => ?_⟩ full)
    obtain ⟨u, v, pu, pv, e⟩ := G.each k a hk
    obtain ⟨o1, o2, o3, o4⟩ := off (G.hi a (List.mem_of_getElem? hk))
    exact ⟨u, v, pu, pv, ex a _ o1 o2 o3 o4 e⟩
  | succ m ih =>
    intro j h tk c acc as hm hj st keep hL full len G
    have le1 := Nat.min_le_left n1 n2
    have le2 := Nat.min_le_right n1 n2
    have size : acc.size = j := by rw [← Array.length_toList, full, List.length_map, len]
    have hLs : L < h.objs.size := Heap.lt_size hL
    refine codeAny_builtin PySem.F.entry_extend_loop ?_
    rw [Around.under_plainId PySem.F.plain_extend_loop _]
    show wpAny _ A.in1 (pyNext (.ref z) >>= _) _ _ _
    refine wpAny_bind (zst_item (s := { s with heap := h, toks := tk }) (A := A.in1) S D1 D2 st hLs (by omega) (by omega) fun u v h' tk' pu pv st' new ex => ?_)
    dsimp only at new ex ⊢
    have hL' := ex L _ lz lTO li1 li2 hL
    have up : ∀ b o, b ≠ L → h'.get? b = some o → (h'.update L (Obj.mapSeq (·.push (Value.ref h.objs.size)))).get? b = some o := fun b o hb e => (Heap.get?_update_other _ _ (Ne.symm hb)).trans e
    show wpAny _ A.in1 (updateSeq L (·.push (Value.ref h.objs.size)) >>= _) _ _ _
    refine wpAny_bind ?_
    refine wpAny_updateSeq hL' rfl (wpAny_pure ⟨plainId_quiet PySem.F.plain_extend_loop _, ih (j + 1) _ tk' _ (acc.push (Value.ref h.objs.size)) (as ++ [h.objs.size]) (by omega) (by omega) (zl_keep W D1 D2 st' up)
      (fun b o q0 q1 q2 q3 q4 e => up b o q0 (ex b o q1 q2 q3 q4 (keep b o q0 q1 q2 q3 q4 e))) (Heap.get?_update_self _ hL' rfl) (by rw [Array.toList_push, full, List.map_append]; rfl) (by rw [List.length_append, len]; rfl) ⟨?_, ?_, ?_⟩⟩) (by rw [size]; omega) (by show (acc.push (Value.ref h.objs.size)).size ≤ sizeLine + 1; rw [Array.size_push, size]; omega)
    · refine List.pairwise_append.mpr ⟨G.up, List.pairwise_singleton _ _, fun a ha b hb => ?_⟩
      rw [List.mem_singleton.mp hb]
      obtain ⟨k, hk⟩ := List.mem_iff_getElem?.mp ha
      obtain ⟨_, _, _, _, e⟩ := G.each k a hk
      exact Heap.lt_size e
    · intro a ha
      rcases List.mem_append.mp ha with ha | ha
      · exact G.hi a ha
      · rw [List.mem_singleton.mp ha]; exact hLs
    · intro k a hk
      rcases Nat.lt_trichotomy k as.length with q | q | q
      · rw [List.getElem?_append_left q] at hk
        obtain ⟨u', v', pu', pv', e⟩ := G.each k a hk
        have ha := G.hi a (List.mem_of_getElem? hk)
        obtain ⟨o1, o2, o3, o4⟩ := off ha
        exact ⟨u', v', pu', pv', up a _ (Nat.ne_of_gt ha) (ex a _ o1 o2 o3 o4 e)⟩
      · subst q
        have ha : h.objs.size = a := by simpa using hk
        subst ha
        rw [len]
        exact ⟨u, v, pu, pv, up _ _ (Nat.ne_of_gt hLs) new⟩
      · rw [List.getElem?_eq_none (by rw [List.length_append, List.length_singleton]; omega)] at hk
        cases hk
theorem zl_extend (S : ZipSep2 z TI TO i1 i2 fp1 fp2) (D1 : Draws prog w A.in1.in1 i1 fp1 n1 P1 St1) (D2 : Draws prog w A.in1.in1 i2 fp2 n2 P2 St2) (W : ZLow z TI TO L fp1 fp2) (hn : min n1 n2 ≤ sizeLine) (res : Value) (c0 : Nat) (st : ZSt z TI TO i1 i2 L St1 St2 0 s.heap) (hL : s.heap.get? L = some { cls := .type "list", data := .seq #[] c0 })
    (hR : ∀ h' tk acc c as, (∀ b o, b ≠ L → b ≠ z → b ≠ TO → b ≠ i1 → b ≠ i2 → s.heap.get? b = some o → h'.get? b = some o) → h'.get? L = some { cls := .type "list", dict := none, data := .seq acc c, slots := #[] } → as.length = min n1 n2 → ZGo P1 P2 L h' as → acc.toList = as.map Value.ref → R (.ok (.ret res)) { s with heap := h', toks := tk }) :
    wpAny (model prog w) A.in1 (Builtin.List.listExtendWith (.ref L) (.ref z) res)
      (fun fin s' => match fin with | .done f => R (.ok f) s' | .again c' => c'.quiet = true ∧ codeAny (model prog w) A c' R s') (fun e s' => R (.error e) s') s := by
  have ty := zst_type st
  have ne : L ≠ z := Nat.ne_of_gt W.z
  unfold Builtin.List.listExtendWith
  refine wpAny_bind (wpAny_typeOf (T := "zip") ty ?_)
  have q1 : Builtin.List.listSameRef (.ref L) (.ref z) = false := by simp [Builtin.List.listSameRef, ne]
  have q2 : (Value.type "zip" == Value.type "list") = false := by decide
  have q3 : (Value.type "zip" == Value.type "tuple") = false := by decide
  simp only [q1, q2, q3, Bool.or_false, Bool.false_eq_true, if_false]
  refine wpAny_bind (zst_self st ?_)
  refine wpAny_bind (wpAny_holding ?_)
  unfold Builtin.List.listLengthHint
  refine wpAny_bind (wpAny_specialOf ty nolen_zp ?_)
  show wpAny _ A.in1 (specialOf (Value.ref z) (Str.ofString "__length_hint__") >>= _) _ _ _
  refine wpAny_bind (wpAny_specialOf ty nohint_zp ?_)
  refine wpAny_pure ?_
  show wpAny _ A.in1 (rule "list.extend.makes-room" >>= fun _ => Builtin.List.listTouch (.ref L) >>= fun _ => again (.builtin "list.extend.loop" ⟨[.ref L, .ref z, res], []⟩)) _ _ _
  refine wpAny_bind (wpAny_rule ?_)
  refine wpAny_bind ?_
  show wpAny _ A.in1 (updateSeq L (·.push .none) >>= fun _ => updateSeq L (·.pop)) _ _ _
  refine wpAny_bind (wpAny_updateSeq hL rfl ?_)
  have hL2 := Heap.get?_update_self (Obj.mapSeq (·.push Value.none)) hL rfl
  refine wpAny_updateSeq (hz := by seq_fits) hL2 rfl ?_
  have hL3 := Heap.get?_update_self (Obj.mapSeq (·.pop)) hL2 rfl
  have oth : ∀ b o, b ≠ L → s.heap.get? b = some o → ((s.heap.update L (Obj.mapSeq (·.push Value.none))).update L (Obj.mapSeq (·.pop))).get? b = some o := fun b o hb e => (Heap.get?_update_other _ _ (Ne.symm hb)).trans ((Heap.get?_update_other _ _ (Ne.symm hb)).trans e)
  refine wpAny_pure ⟨plainId_quiet PySem.F.plain_extend_loop _, zl_loop (s := s) (h0 := s.heap) S D1 D2 W hn res hR _ 0 _ s.toks _ #[] [] rfl (Nat.zero_le _) (zl_keep W D1 D2 st oth) (fun b o q0 _ _ _ _ e => oth b o q0 e) hL3 rfl rfl ⟨List.Pairwise.nil, (fun _ q => nomatch q), fun k a q => by simp at q⟩⟩
theorem zl_call {E : Value → Shared → Prop} {Q : Value → Shared → Prop} (S : ZipSep2 z TI TO i1 i2 fp1 fp2) (D1 : Draws prog w A.in1.in1.in1 i1 fp1 n1 P1 St1) (D2 : Draws prog w A.in1.in1.in1 i2 fp2 n2 P2 St2) (W : ZLow z TI TO s.heap.objs.size fp1 fp2) (hn : min n1 n2 ≤ sizeLine) (st : ZSt z TI TO i1 i2 s.heap.objs.size St1 St2 0 s.heap)
    (hQ : ∀ h' tk acc c as, (∀ b o, b ≠ z → b ≠ TO → b ≠ i1 → b ≠ i2 → s.heap.get? b = some o → h'.get? b = some o) → h'.get? s.heap.objs.size = some { cls := .type "list", dict := none, data := .seq acc c, slots := #[] } → as.length = min n1 n2 → ZGo P1 P2 s.heap.objs.size h' as → acc.toList = as.map Value.ref → Q (.ref s.heap.objs.size) { s with heap := h', toks := tk }) :
    wpAny (model prog w) A (call (.type "list") [.ref z]) Q E s := by
  refine callType_codes (Q₁ := fun obj t => obj = .ref s.heap.objs.size ∧ t = { s with heap := s.heap.push { cls := .type "list", data := .seq #[] } }) PySem.F.called_list (PySem.F.typeCall_list_1 _) PySem.F.entry_list_init
    (code_list_new _ ⟨rfl, rfl⟩) fun obj t ht => ?_
  obtain ⟨rfl, rfl⟩ := ht
  have hL : (s.heap.push { cls := .type "list", data := .seq #[] }).get? s.heap.objs.size = some { cls := .type "list", data := .seq #[] } := Heap.get?_push_size _ rfl
  refine ⟨⟨_, hL, rfl⟩, PySem.F.args_list_init_2 _ _, ?_⟩
  show wpAny _ _ (do let old ← Builtin.List.listItems (.ref s.heap.objs.size); Builtin.List.listUpdate (.ref s.heap.objs.size) (fun _ => #[]); letGo old.toList.reverse; Builtin.List.listExtendWith (.ref s.heap.objs.size) (.ref z) .none) _ _ _
  refine wpAny_bind ?_
  unfold Builtin.List.listItems
  refine wpAny_bind (wpAny_seqItems hL rfl (wpAny_pure ?_))
  show wpAny _ _ (updateSeq s.heap.objs.size (fun _ => #[]) >>= fun _ => letGo (#[] : Array Value).toList.reverse >>= fun _ => Builtin.List.listExtendWith (.ref s.heap.objs.size) (.ref z) .none) _ _ _
  refine wpAny_bind (wpAny_updateSeq hL rfl ?_)
  have hL2 := Heap.get?_update_self (Obj.mapSeq (fun _ => (#[] : Array Value))) hL rfl
  have oth : ∀ b o, b ≠ s.heap.objs.size → s.heap.get? b = some o → ((s.heap.push { cls := .type "list", data := .seq #[] }).update s.heap.objs.size (Obj.mapSeq (fun _ => (#[] : Array Value)))).get? b = some o :=
    fun b o hb e => (Heap.get?_update_other _ _ (Ne.symm hb)).trans (Heap.get?_push_of_some _ e)
  refine wpAny_bind (wpAny_letGo ?_)
  refine zl_extend (A := A.in1) S D1 D2 W hn .none _ (zl_keep W D1 D2 st oth) hL2 fun h' tk acc c as hk hL' hl G hacc => ?_
  exact ⟨rfl, hQ h' tk acc c as (fun b o q1 q2 q3 q4 e => hk b o (Nat.ne_of_lt (Heap.lt_size e)) q1 q2 q3 q4 (oth b o (Nat.ne_of_lt (Heap.lt_size e)) e)) hL' hl G hacc⟩
end
end Rg
namespace Rg
open PySem PySem.Spec PyProof.Rows L2
/-! ### x in a tuple of data -/
section
variable {X : Cx}
def rInDT (K : PySem.W.Frag) : R2 := fun x y Hh Qq => ∃ dx dxs, Dp K Hh x dx ∧ Dp K Hh y (.tuple dxs) ∧ SeqAt.shaped dx = true ∧ SeqAt.shaped (.tuple dxs) = true ∧ Qq (.bl (dxs.any fun z => PyData.eqv z dx)) Hh
theorem op_inDT (hu : X.A.units + 65 < cLine) : OpR X (compareOp .In) (rInDT X.K) := by
  intro pns s σs Hh x y v u Qq Iv rlx rly h
  obtain ⟨dx, dxs, hdx, hdy, sx, sy, qq⟩ := h
  obtain ⟨as, rd1⟩ := Dp.reads Iv dx x v hdx rlx
  obtain ⟨bs, rd2⟩ := Dp.reads Iv (.tuple dxs) y u hdy rly
  exact SeqAt.in_tuple_reads rd2 rd1 (SeqAt.canLay_of_shaped sy) (SeqAt.canLay_of_shaped sx) (room_in_shaped sx hu) ⟨.bl _, Hh, Iv, rfl, qq⟩
end
end Rg
namespace Rg
open PySem PySem.Spec PyProof.Rows L2
/-! ### list(zip(x, y)), by the hand layer -/
/-- pairs tracked at their addresses -/
def putZ : Hp → List Addr → List (V × V) → Hp
  | H, a :: as, q :: qs => putZ (upd H a (.tup [q.1, q.2])) as qs
  | H, _, _ => H
theorem putZ_off {b : Addr} : ∀ (as : List Addr) (qs : List (V × V)) (H : Hp), b ∉ as → putZ H as qs b = H b
  | [], _, _, _ => rfl
  | _ :: _, [], _, _ => rfl
  | a :: as, q :: qs, H, h => by
    show putZ (upd H a (.tup [q.1, q.2])) as qs b = H b
    rw [putZ_off as qs _ (fun m => h (List.mem_cons_of_mem _ m)), upd_ne (fun m => h (by rw [m]; exact List.mem_cons_self))]
/-- where pairs stand -/
def PairsAt (H : Hp) : List Addr → List (V × V) → Prop := Paired fun (t : Addr) (q : V × V) => H t = some (.tup [q.1, q.2])
theorem putZ_at : ∀ (as : List Addr) (qs : List (V × V)) (H : Hp), as.length = qs.length → as.Nodup → PairsAt (putZ H as qs) as qs
  | [], [], _, _, _ => .nil
  | [], _ :: _, _, h, _ => by cases h
  | _ :: _, [], _, h, _ => by cases h
  | a :: as, q :: qs, H, h, hn => by
    have hn' := List.nodup_cons.mp hn
    refine .cons ?_ (putZ_at as qs (upd H a (.tup [q.1, q.2])) (Nat.succ.inj h) hn'.2)
    show putZ (upd H a (.tup [q.1, q.2])) as qs a = some (.tup [q.1, q.2])
    rw [putZ_off as qs _ hn'.1, upd_same]
theorem pairs_get {H : Hp} : ∀ {as : List Addr} {qs : List (V × V)}, PairsAt H as qs → ∀ {i : Nat} {a : Addr}, as[i]? = some a → ∃ q, qs[i]? = some q ∧ H a = some (.tup [q.1, q.2])
  | _, _, .nil, i, x, h => by cases h
  | _, _, .cons r t, 0, x, h => by
    cases h
    exact ⟨_, rfl, r⟩
  | _, _, .cons r t, i + 1, x, h => pairs_get t h
theorem pairs_mem {H : Hp} {as : List Addr} {qs : List (V × V)} (h : PairsAt H as qs) {a : Addr} (m : a ∈ as) : ∃ (i : Nat) (q : V × V), as[i]? = some a ∧ qs[i]? = some q ∧ H a = some (.tup [q.1, q.2]) := by
  obtain ⟨i, hi⟩ := List.mem_iff_getElem?.mp m
  obtain ⟨q, e1, e2⟩ := pairs_get h hi
  exact ⟨i, q, hi, e1, e2⟩
theorem refs_vals : ∀ as : List Addr, Vals (as.map V.ref) (as.map Value.ref)
  | [] => .nil
  | _ :: as => .cons rfl (refs_vals as)
theorem zip_get {α β : Type} : ∀ {xs : List α} {ys : List β} {i : Nat} {q : α × β}, (xs.zip ys)[i]? = some q → xs[i]? = some q.1 ∧ ys[i]? = some q.2
  | [], _, i, q, h => by simp at h
  | _ :: _, [], i, q, h => by simp at h
  | x :: xs, y :: ys, 0, q, h => by
    have e : (x, y) = q := by simpa using h
    subst e
    exact ⟨rfl, rfl⟩
  | x :: xs, y :: ys, i + 1, q, h => by
    have h' : (xs.zip ys)[i]? = some q := by simpa using h
    simpa using zip_get h'
theorem zip_laid {X : Cx} {pins : List (Addr × Obj)} {σ : L2.St} {H : Hp} {s : Shared} {h' : Heap} {tk : Nat} {xs ys : List V} {is js : List Value} {acc : Array Value} {c : Nat} {as : List Addr} {L : Addr} (I : Inv X pins σ H s) (hx : Vals xs is) (hy : Vals ys js) (hz : xs.length ≤ sizeLine) (above : s.heap.objs.size ≤ L)
    (keep : ∀ b o, s.heap.get? b = some o → h'.get? b = some o) (hL : h'.get? L = some { cls := .type "list", dict := none, data := .seq acc c, slots := #[] }) (len : as.length = min is.toArray.size js.toArray.size) (G : ZGo (fun i v => is.toArray[i]? = some v) (fun i v => js.toArray[i]? = some v) L h' as) (full : acc.toList = as.map Value.ref) :
    ∃ H' : Hp, Same H H' ∧ H L = none ∧ (∀ t ∈ as, H t = none) ∧ H' L = some (.lst (as.map V.ref)) ∧ PairsAt H' as (xs.zip ys) ∧ Inv X pins σ H' { s with heap := h', toks := tk } := by
  have l1 := hx.length
  have l2 := hy.length
  have lz : as.length = (xs.zip ys).length := by rw [List.length_zip, len]; simp only [List.size_toArray]; omega
  have nL : L ∉ as := fun m => Nat.lt_irrefl _ (G.hi _ m)
  have nd : as.Nodup := List.Pairwise.imp (fun {a b} (h : a < b) => Nat.ne_of_lt h) G.up
  have fresh : ∀ t ∈ as, H t = none := fun t m => I.hok.fresh (Nat.le_trans above (Nat.le_of_lt (G.hi t m)))
  have freshL : H L = none := I.hok.fresh above
  have at_ := putZ_at as (xs.zip ys) (upd H L (.lst (as.map V.ref))) lz nd
  have off : ∀ b, b ∉ as → b ≠ L → putZ (upd H L (.lst (as.map V.ref))) as (xs.zip ys) b = H b := fun b m n => by rw [putZ_off as _ _ m, upd_ne n]
  have low : ∀ b o, s.heap.get? b = some o → b ∉ as ∧ b ≠ L := fun b o e => ⟨fun m => absurd (Heap.lt_size e) (Nat.not_lt.mpr (Nat.le_trans above (Nat.le_of_lt (G.hi b m)))), Nat.ne_of_lt (Nat.lt_of_lt_of_le (Heap.lt_size e) above)⟩
  have kp : ∀ b u, H b = some u → (putZ (upd H L (.lst (as.map V.ref))) as (xs.zip ys)) b = some u := fun b u e => by
    rw [off b (fun m => by rw [fresh b m] at e; cases e) (fun m => by rw [m, freshL] at e; cases e)]
    exact e
  have eL : putZ (upd H L (.lst (as.map V.ref))) as (xs.zip ys) L = some (.lst (as.map V.ref)) := by rw [putZ_off as _ _ nL, upd_same]
  refine ⟨putZ (upd H L (.lst (as.map V.ref))) as (xs.zip ys), kp, freshL, fresh, eL, at_, ?_⟩
  refine I.call' (ch := []) rfl ⟨fun b o q _ _ _ => keep b o q, fun b o q _ _ _ => ⟨o.slots, keep b o q⟩, fun b o q n _ => ?_, fun b o q _ => ⟨o, keep b o q⟩, fun b us q => kp b _ q, fun b o u q => kp b _ q, fun b ps q => ⟨#[], by rw [kp b _ q]; simp⟩⟩ (fun b u q => ?_) I.bare fun b m => by simp at m
  · obtain ⟨m1, m2⟩ := low b o q
    rw [off b m1 m2]
    exact n
  · by_cases m : b ∈ as
    · obtain ⟨i, p, e1, e2, e3⟩ := pairs_mem at_ m
      rw [e3] at q
      cases q
      obtain ⟨x, y⟩ := p
      obtain ⟨f1, f2⟩ := zip_get e2
      obtain ⟨u, v, pu, pv, hT⟩ := G.each i b e1
      obtain ⟨u', hu, ru⟩ := hx.get f1
      obtain ⟨v', hv, rv⟩ := hy.get f2
      have eu : u' = u := by rw [List.getElem?_toArray, hu] at pu; exact Option.some.inj pu
      have ev : v' = v := by rw [List.getElem?_toArray, hv] at pv; exact Option.some.inj pv
      subst eu ev
      exact ⟨by show 2 ≤ sizeLine; decide, [u', v'], .cons ru (.cons rv .nil), ⟨_, hT, rfl, _, rfl⟩⟩
    · by_cases m2 : b = L
      · rw [m2] at q ⊢
        rw [eL] at q
        cases q
        refine ⟨by rw [List.length_map, lz, List.length_zip]; omega, acc.toList, c, by rw [full]; exact refs_vals as, ?_⟩
        rw [Array.toArray_toList]
        exact hL
      · rw [off b m m2] at q
        exact (I.hok b u q).stay (fun d v _ y => keep d v y) (fun d y => kp d _ y) fun d us y => kp d _ y
section
variable {X : Cx}
/-- two lists, or two tuples -/
def Seq2 (K : PySem.W.Frag) (H : Hp) (a b : Addr) (xs ys : List V) : Prop := (SqL K H a xs ∧ SqL K H b ys) ∨ (SqT K H a xs ∧ SqT K H b ys)
def tLZip (K : PySem.W.Frag) (ta : TA) : TE := fun σ H Q => ta σ H fun vs H1 => ∃ (a b : Addr) (xs ys : List V), vs = [.ref a, .ref b] ∧ Seq2 K H1 a b xs ys ∧
  ∀ (p : Addr) (ts : List Addr) (H' : Hp), Same H1 H' → H1 p = none → (∀ t ∈ ts, H1 t = none) → H' p = some (.lst (ts.map V.ref)) → PairsAt H' ts (xs.zip ys) → Q (.ref p) H'
theorem pe_listZip {e e2 : Expr} {ta : TA} {p p2 pos2 pos : Pos} (calm : X.calm = true) (gl : Gl X "list") (ml : X.mg "list" = none) (gz : Gl X "zip") (mz : X.mg "zip" = none) (ha : PA X [e, e2] ta)
    (st : starEach [.Call (.Name "zip" p2) [e, e2] [] pos2] X.env = (false, eval (.Call (.Name "zip" p2) [e, e2] [] pos2) X.env) :: starEach [] X.env := by rfl)
    (st2 : starEach [e, e2] X.env = (false, eval e X.env) :: starEach [e2] X.env := by rfl) (pl2 : (backTo pos2 (starEach [e2] X.env)).any (·.1) = false := by rfl) :
    PE X (.Call (.Name "list" p) [.Call (.Name "zip" p2) [e, e2] [] pos2] [] pos) (tLZip X.K ta) := by
  refine ⟨fun pins s σ H Q I h => ?_⟩
  refine wpAny_Call_Name_kw (ld_blt I gl ml (by decide +kernel : bootBuiltins "list" = some (.type "list")) ?_)
  refine PyProof.Rows.callWith_type1 ?_ st rfl
  rw [st]
  show wpAny _ _ (spliced ((false, eval (.Call (.Name "zip" p2) [e, e2] [] pos2) X.env) :: backTo pos (starEach [] X.env))) _ _ s
  refine Calls.spliced_cons ?_
  refine wpAny_Call_Name_kw (ld_blt I gz mz PyProof.Rows.boot_zip ?_)
  refine PyProof.Rows.callWith_type1 (thn (ha.run pos2 pins s σ H _ I h) fun us s1 ⟨vs, H1, I1, r1, q1⟩ => ?_) st2 pl2
  obtain ⟨a, b, xs, ys, ex, sq, q⟩ := q1
  subst ex
  cases r1 with
  | cons r rr =>
    cases rr with
    | cons r' rr =>
      cases rr
      cases r
      cases r'
      have clear := I1.ok.hd calm
      have fin : ∀ {is js : List Value} {St1 St2 : Nat → Heap → Prop} {h' : Heap}, Vals xs is → Vals ys js → xs.length ≤ sizeLine → ys.length ≤ sizeLine → a < s1.heap.objs.size → b < s1.heap.objs.size →
          Draws X.prog X.w X.A.in1.in1.in1 s1.heap.objs.size [s1.heap.objs.size, a] is.toArray.size (fun i v => is.toArray[i]? = some v) St1 → Draws X.prog X.w X.A.in1.in1.in1 (s1.heap.objs.size + 1) [s1.heap.objs.size + 1, b] js.toArray.size (fun i v => js.toArray[i]? = some v) St2 →
          IsZip h' (s1.heap.objs.size + 4) (s1.heap.objs.size + 2) (s1.heap.objs.size + 3) .none → IsPair h' (s1.heap.objs.size + 2) (.ref s1.heap.objs.size) (.ref (s1.heap.objs.size + 1)) → IsPair h' (s1.heap.objs.size + 3) .none .none → St1 0 h' → St2 0 h' → h'.objs.size = s1.heap.objs.size + 5 →
          (∀ c o, s1.heap.get? c = some o → h'.get? c = some o) → wpAny (model X.prog X.w) X.A (spliced (backTo pos (starEach [] X.env))) (fun vs s₁ => wpAny (model X.prog X.w) X.A (call (.type "list") (.ref (s1.heap.objs.size + 4) :: vs)) (EP X pins σ Q) X.xe s₁) X.xe { s1 with heap := h' } := by
        intro is js St1 St2 h' rx ry zx zy la lb D1 D2 hz hTI hTO t1 t2 size keep
        refine Calls.spliced_nil ?_
        have S := zip_sep2 (N := s1.heap.objs.size) (fp1 := [a]) (fp2 := [b]) (fun c m => by rw [List.mem_singleton.mp m]; exact la) (fun c m => by rw [List.mem_singleton.mp m]; exact lb)
        have lx := rx.length
        have W : ZLow (s1.heap.objs.size + 4) (s1.heap.objs.size + 2) (s1.heap.objs.size + 3) h'.objs.size [s1.heap.objs.size, a] [s1.heap.objs.size + 1, b] := by
          rw [size]
          refine ⟨show (s1.heap.objs.size + 4 : Nat) < s1.heap.objs.size + 5 by omega, show (s1.heap.objs.size + 2 : Nat) < s1.heap.objs.size + 5 by omega, show (s1.heap.objs.size + 3 : Nat) < s1.heap.objs.size + 5 by omega, fun c m => ?_, fun c m => ?_⟩
          · rcases List.mem_cons.mp m with e | m
            · rw [e]; exact show (s1.heap.objs.size : Nat) < s1.heap.objs.size + 5 by omega
            · rw [List.mem_singleton.mp m]; exact Nat.lt_of_lt_of_le la (Nat.le_add_right _ _)
          · rcases List.mem_cons.mp m with e | m
            · rw [e]; exact show (s1.heap.objs.size + 1 : Nat) < s1.heap.objs.size + 5 by omega
            · rw [List.mem_singleton.mp m]; exact Nat.lt_of_lt_of_le lb (Nat.le_add_right _ _)
        refine zl_call (s := { s1 with heap := h' }) S D1 D2 W (Nat.le_trans (Nat.min_le_left _ _) (by simp only [List.size_toArray]; omega)) ⟨hTI, t1, t2, .inl ⟨hz, _, _, hTO⟩⟩ fun h2 tk acc c as hk hL len G full => ?_
        have keep2 : ∀ b o, s1.heap.get? b = some o → h2.get? b = some o := fun d o x => by
          have l := Heap.lt_size x
          exact hk d o (Nat.ne_of_lt (Nat.lt_of_lt_of_le l (Nat.le_add_right _ _))) (Nat.ne_of_lt (Nat.lt_of_lt_of_le l (Nat.le_add_right _ _))) (Nat.ne_of_lt l) (Nat.ne_of_lt (Nat.lt_of_lt_of_le l (Nat.le_add_right _ _))) (keep d o x)
        obtain ⟨H', k1, k2, k3, k4, k5, J⟩ := zip_laid (tk := tk) I1 rx ry zx (by show s1.heap.objs.size ≤ h'.objs.size; rw [size]; exact Nat.le_add_right _ _) keep2 hL len G full
        exact ⟨.ref _, H', J, rfl, q _ as H' k1 k2 k3 k4 k5⟩
      rcases sq with ⟨hx, hy⟩ | ⟨hx, hy⟩
      · obtain ⟨is, rx, p1, zx⟩ := I1.list hx
        obtain ⟨js, ry, p2, zy⟩ := I1.list hy
        have d1 : Draws X.prog X.w X.A.in1.in1.in1 s1.heap.objs.size [s1.heap.objs.size, a] is.toArray.size (fun i v => is.toArray[i]? = some v) (fun j h => h.IsListIter s1.heap.objs.size a j ∧ h.IsList a is.toArray) := Draws.list (A := X.A.in1.in1.in1) clear _ a (Nat.ne_of_lt p1.lt) _
        have d2 : Draws X.prog X.w X.A.in1.in1.in1 (s1.heap.objs.size + 1) [s1.heap.objs.size + 1, b] js.toArray.size (fun i v => js.toArray[i]? = some v) (fun j h => h.IsListIter (s1.heap.objs.size + 1) b j ∧ h.IsList b js.toArray) := Draws.list (A := X.A.in1.in1.in1) clear _ b (Nat.ne_of_lt (Nat.lt_succ_of_lt p2.lt)) _
        refine call_zip_2 p1.isList p2.isList fun h' hz hTI hTO h1 h2 size keep => fin rx ry zx zy p1.lt p2.lt d1 d2 hz hTI hTO ⟨h1, p1.isList.at fun o e => keep _ o e⟩ ⟨h2, p2.isList.at fun o e => keep _ o e⟩ size keep
      · obtain ⟨is, rx, p1, zx⟩ := I1.tuple hx
        obtain ⟨js, ry, p2, zy⟩ := I1.tuple hy
        have la : a < s1.heap.objs.size := by obtain ⟨o1, ho1, _⟩ := id p1; exact Heap.lt_size ho1
        have lb : b < s1.heap.objs.size := by obtain ⟨o1, ho1, _⟩ := id p2; exact Heap.lt_size ho1
        have g1 : s1.heap.IsTuple a is.toArray := p1
        have g2 : s1.heap.IsTuple b js.toArray := p2
        have d1 : Draws X.prog X.w X.A.in1.in1.in1 s1.heap.objs.size [s1.heap.objs.size, a] is.toArray.size (fun i v => is.toArray[i]? = some v) (fun j h => h.IsTupleIter s1.heap.objs.size a j ∧ h.IsTuple a is.toArray) := draws_tup (A := X.A.in1.in1.in1) clear _ a (Nat.ne_of_lt la) _
        have d2 : Draws X.prog X.w X.A.in1.in1.in1 (s1.heap.objs.size + 1) [s1.heap.objs.size + 1, b] js.toArray.size (fun i v => js.toArray[i]? = some v) (fun j h => h.IsTupleIter (s1.heap.objs.size + 1) b j ∧ h.IsTuple b js.toArray) := draws_tup (A := X.A.in1.in1.in1) clear _ b (Nat.ne_of_lt (Nat.lt_succ_of_lt lb)) _
        refine RZ.call_zipT g1 g2 fun h' hz hTI hTO h1 h2 size keep => fin rx ry zx zy la lb d1 d2 hz hTI hTO ⟨h1, tup_at g1 fun o e => keep _ o e⟩ ⟨h2, tup_at g2 fun o e => keep _ o e⟩ size keep
/-! ### for .. in (x if c else y) -/
def iIf (tA : TT) (wa wb : TI) : TI := fun σ H R => tA σ H fun d H1 => if d = true then wa σ H1 R else wb σ H1 R
theorem pi_ifExp {c a b tg : Expr} {pos : Pos} {tA : TT} {wa wb : TI} (hc : PT X c tA) (ha : PI X tg a wa) (hb : PI X tg b wb) : PI X tg (.IfExp c a b pos) (iIf tA wa wb) := by
  refine ⟨fun pins s σ H R I h => ?_⟩
  refine wpAny_IfExp (thn (hc.run pins s σ H _ I h) fun d s1 ⟨H1, I1, q1⟩ => ?_)
  cases d with
  | true => exact ha.run pins s1 σ H1 R I1 q1
  | false => exact hb.run pins s1 σ H1 R I1 q1
/-! ### x not in a tuple of data -/
def rNotInDT (K : PySem.W.Frag) : R2 := fun x y Hh Qq => ∃ dx dxs, Dp K Hh x dx ∧ Dp K Hh y (.tuple dxs) ∧ SeqAt.shaped dx = true ∧ SeqAt.shaped (.tuple dxs) = true ∧ Qq (.bl (!dxs.any fun z => PyData.eqv z dx)) Hh
theorem op_notInDT (hu : X.A.units + 65 < cLine) : OpR X (compareOp .NotIn) (rNotInDT X.K) := by
  intro pns s σs Hh x y v u Qq Iv rlx rly h
  obtain ⟨dx, dxs, hdx, hdy, sx, sy, qq⟩ := h
  obtain ⟨as, rd1⟩ := Dp.reads Iv dx x v hdx rlx
  obtain ⟨bs, rd2⟩ := Dp.reads Iv (.tuple dxs) y u hdy rly
  exact SeqAt.notIn_tuple_reads rd2 rd1 (SeqAt.canLay_of_shaped sy) (SeqAt.canLay_of_shaped sx) (room_in_shaped sx hu) ⟨.bl _, Hh, Iv, rfl, qq⟩
end
end Rg
namespace K
open PySem L2 Rg
open Evl (pss_cut)
/-- each from 1 to m -/
def Bd (m : Int) (ls : List Int) : Prop := ∀ x ∈ ls, 1 ≤ x ∧ x ≤ m
theorem Bd.snoc {m x : Int} {ls : List Int} (h : Bd m ls) (h1 : 1 ≤ x) (h2 : x ≤ m) : Bd m (ls ++ [x]) := fun y hy => by
  rcases List.mem_append.mp hy with z | z
  · exact h y z
  · rw [List.mem_singleton.mp z]
    exact ⟨h1, h2⟩
theorem Bd.le {m k : Int} {ls : List Int} (h : Bd m ls) (hk : m ≤ k) : Bd k ls := fun x hx => ⟨(h x hx).1, by have := (h x hx).2; omega⟩
theorem Bd.set {m x : Int} {ls : List Int} {i : Nat} (h : Bd m ls) (h1 : 1 ≤ x) (h2 : x ≤ m) : Bd m (ls.set i x) := fun y hy => by
  rcases List.mem_or_eq_of_mem_set hy with z | z
  · exact h y z
  · rw [z]; exact ⟨h1, h2⟩
theorem Bd.sum {m : Int} : ∀ {ls : List Int}, Bd m ls → (ls.length : Int) ≤ ls.sum ∧ ls.sum ≤ m * ls.length
  | [], _ => by simp
  | x :: ls, h => by
    have ih := Bd.sum (m := m) (ls := ls) fun y hy => h y (List.mem_cons_of_mem _ hy)
    have hx := h x (List.mem_cons_self ..)
    rw [List.sum_cons, List.length_cons]
    have e : m * ((ls.length + 1 : Nat) : Int) = m * ls.length + m := by push_cast; rw [Int.mul_add, Int.mul_one]
    rw [e]
    push_cast
    omega
theorem ixN_at {n : Nat} {r : Int} (h0 : 0 ≤ r) (h1 : r < n) : ixN n r = some r.toNat := by
  unfold ixN
  rw [if_pos h0, if_pos h1]
theorem int_get {ls : List Int} {i : Nat} (h : i < ls.length) : (ls.map V.int)[i]? = some (V.int ls[i]) := by
  rw [List.getElem?_map, List.getElem?_eq_getElem h]; rfl
theorem set_map (ls : List Int) (i : Nat) (x : Int) : (ls.map V.int).set i (V.int x) = (ls.set i x).map V.int := by
  rw [List.map_set]
theorem erase_sum : ∀ {ls : List Int} {i : Nat} (h : i < ls.length), (ls.eraseIdx i).sum = ls.sum - ls[i]
  | x :: ls, 0, h => by simp [List.sum_cons]; omega
  | x :: ls, i + 1, h => by
    have h' : i < ls.length := by simpa using h
    have ih := erase_sum h'
    rw [List.eraseIdx_cons_succ, List.sum_cons, List.sum_cons, ih, List.getElem_cons_succ]
    omega
theorem abs_sum {m : Int} (hm : 0 ≤ m) : ∀ {ls : List Int}, (∀ x ∈ ls, -m ≤ x ∧ x ≤ m) → -(m * ls.length) ≤ ls.sum ∧ ls.sum ≤ m * ls.length
  | [], _ => by simp
  | x :: ls, h => by
    have ih := abs_sum hm (ls := ls) fun y hy => h y (List.mem_cons_of_mem _ hy)
    have hx := h x (List.mem_cons_self ..)
    have e : m * ((ls.length + 1 : Nat) : Int) = m * ls.length + m := by push_cast; rw [Int.mul_add, Int.mul_one]
    rw [List.sum_cons, List.length_cons, e]
    omega
section
variable {P : Program} {w : World} {K : PySem.W.Frag} {mg : Str → Option Value} {base : Heap}
def spLengths (K : PySem.W.Frag) : Sp := fun vs H Q _ => ∃ (p : Addr) (e : Addr × List Int) (m n : Nat), vs = [.ref p, .int (m : Nat)] ∧ 3 ≤ m ∧ m ≤ 8 ∧ n < 800000 ∧ PenAt K H p e n ∧
  ∀ (l : Addr) (ls : List Int) (H' : Hp), ls.length = m → Bd 1000000 ls → H l = none → But p H H' → H' l = some (.lst (ls.map V.int)) → PenAt K H' p e (n + 12) → Q (.ref l) H'
abbrev nLengths : List Str := ["_law_bench_here", "_law_many", "_law_way", "_law_most", "_law_found", "_law_at", "_law_bar"]
theorem scLengths : FnScope nLengths ["_law_bench_here", "_law_many"] (defScope sLwLengths) := ⟨rfl, rfl, rfl, by decide +kernel, rfl, by decide +kernel, by decide +kernel⟩
theorem put_bd {ls : List Int} {m i : Nat} {most r : Int} (h : ls.length = m) (h3 : 3 ≤ m) (h8 : m ≤ 8) (bd : Bd most ls) (mm : most * m ≤ 1000000) (hi : i < ls.length) (r0 : 0 ≤ r) (r3 : r < 3) : ls.sum - ls[i] + r - 1 ≤ 1000000 := by
  have e := Bd.sum (m := most) (ls := ls.eraseIdx i) fun y hy => bd y (List.mem_of_mem_eraseIdx hy)
  rw [erase_sum hi, List.length_eraseIdx_of_lt hi, h] at e
  have b := bd _ (List.getElem_mem hi)
  have c : most * ((m - 1 : Nat) : Int) = most * m - most := by
    rw [show ((m - 1 : Nat) : Int) = (m : Int) - 1 by omega, Int.mul_sub, Int.mul_one]
  omega
theorem ok_lengths {f fD : Addr} {fd fdD : FuncData} (F : Fun K "_law_lengths" "_law_lengths" sLwLengths f fd) (T : Bi mg) (D : DrawAt P w K mg base fD fdD) : FnOk P w K mg base CX0 3 f fd ["_law_bench_here", "_law_many"] (spLengths K) := by
  refine F.ok scLengths (fun vs H Q E h => ?_) (fun cdv A outer s H vs Q E hr h => ?_)
  · obtain ⟨p, e, m, n, rfl, _⟩ := h
    rfl
  · have nd := scLengths.nd
    refine ⟨_, pss_cons (ps_set (i := 2) nd rfl (Or.inl rfl) (pe_call D.ok hr rfl D.g D.kp D.b .nil pass0 (pa_cons (pv 0) (pa_cons pe_int pa_nil))))
      (pss_cut (ps_set (i := 3) nd rfl (Or.inr rfl) (pe_ifExp (pt_cmpR op_lt (pv 2) pe_int (nomark _)) pe_int (pe_ifExp (pt_cmpR op_lt (pv 2) pe_int (nomark _)) pe_int (pe_op op_fdiv (pe_op op_pow pe_int pe_int) (pv 1)))))
      (pss_cons (ps_setLc (i := 4) (own := [("_law_bar", 6)]) (g := gName 6) rfl nd rfl rfl (sw_true rfl rfl rfl (by decide +kernel)) (pi_range1 (by rfl) T.range (pa_cons (pv 1) pa_nil)) (blkOk_by (N := nLengths) (sc := defScope sLwLengths) (by decide +kernel))
        (fun _ _ _ _ _ => pg_name (i := 6) nd rfl (Or.inl rfl)) (fun _ _ _ _ _ => pts_nil) (fun _ _ _ _ _ => pe_op op_add pe_int (pe_call D.ok hr rfl D.g D.kp D.b .nil pass0 (pa_cons (pv 0) (pa_cons (pv 3) pa_nil)))))
      (pss_cut (ps_if (pt_cmpR op_eq (pe_call D.ok hr rfl D.g D.kp D.b .nil pass0 (pa_cons (pv 0) (pa_cons pe_int pa_nil))) pe_int (nomark _))
        (pss_cons (ps_set (i := 5) nd rfl (Or.inl rfl) (pe_call D.ok hr rfl D.g D.kp D.b .nil pass0 (pa_cons (pv 0) (pa_cons (pv 1) pa_nil))))
        (pss_cons (ps_asg (pe_op op_sub (pe_op op_add (pe_op op_sub (pe_callB (cr_sum rfl) (by rfl) T.sum (by decide +kernel) (pa_cons (pv 4) pa_nil)) (pe_ix ix_list (pv 4) (pv 5) (fun _ _ => rfl))) (pe_call D.ok hr rfl D.g D.kp D.b .nil pass0 (pa_cons (pv 0) (pa_cons pe_int pa_nil)))) pe_int) (pg_sub (pv 4) (pv 5) set_list))
        (pss_one (ps_asg (pe_callB (call_max2 rfl) (by rfl) T.max (by decide +kernel) (pa_cons pe_int (pa_cons (pe_ix ix_list (pv 4) (pv 5) (fun _ _ => rfl)) pa_nil))) (pg_sub (pv 4) (pv 5) set_list))))) pss_nil)
      (pss_one (ps_ret (pv 4)))))), ?_⟩
    obtain ⟨p, e, m, n, rfl, m3, m8, hn, pen, k⟩ := h
    refine ⟨_, rfl, p, e, 8, n, rfl, by decide, by decide, by omega, pen, fun r1 H1 r1a r1b b1 pen1 => ?_⟩
    refine ⟨fun σ' H' => ∃ most : Int, 1 ≤ most ∧ most * m ≤ 1000000 ∧ σ' = [some (.ref p), some (.int (m : Nat)), some (.int r1), some (.int most), none, none, none] ∧ H' = H1, ?_, ?_⟩
    · refine ⟨_, rfl, _, _, rfl, rfl, _, rfl, ?_⟩
      refine ite2 (fun c => ⟨9, by decide, by omega, rfl, rfl⟩) (fun c => ?_)
      refine ⟨_, rfl, _, _, rfl, rfl, _, rfl, ?_⟩
      refine ite2 (fun c => ⟨3, by decide, by omega, rfl, rfl⟩) (fun c => ?_)
      have pw : CPow 10 6 := ⟨by decide, by decide, by decide⟩
      refine ⟨_, _, rfl, rfl, pw, _, rfl, _, _, rfl, rfl, ⟨by omega, by omega⟩, ?_⟩
      refine ⟨_, ?_, ?_, rfl, rfl⟩
      · show 1 ≤ (10 : Int) ^ (6 : Int).toNat / (m : Int)
        exact Int.le_ediv_of_mul_le (by omega) (by show 1 * (m : Int) ≤ 1000000; omega)
      · exact Int.ediv_mul_le _ (by omega)
    rintro σ' H' ⟨most, mo1, mom, rfl, rfl⟩
    have mo6 : most ≤ 1000000 := by
      have := Int.mul_le_mul_of_nonneg_left (show (1 : Int) ≤ m by omega) (show 0 ≤ most by omega)
      omega
    refine ⟨_, rfl, _, rfl, by omega, by omega, fun D0 hD => ?_⟩
    have hDp : D0 ≠ p := pen1.ne hD
    have hD0 : H D0 = none := b1.free hDp hD
    refine lc_range (lo := 0) (n := ((m : Nat) : Int).toNat) (fun i H' => ∃ ls : List Int, ls.length = i ∧ Bd most ls ∧ H' D0 = some (.lst (ls.map V.int)) ∧ But p H H' ∧ PenAt K H' p e (n + 1 + i)) ⟨[], rfl, fun x hx => (by cases hx), upd_same, b1.mut hD0, pen.mut pen1 b1 hD0⟩ ?_ ?_
    · rintro i H' hi ⟨ls, ll, bd, hd, b, pen'⟩
      rw [Int.toNat_natCast] at hi
      refine ⟨rfl, _, rfl, _, rfl, p, e, most, n + 1 + i, rfl, mo1, mo6, by omega, pen', fun r H4 q0 q1 b4 pen4 => ⟨_, _, rfl, rfl, _, b4 D0 _ hDp hd, szl (by rw [List.length_map]; omega), ls ++ [1 + r], by rw [List.length_append, ll]; rfl, bd.snoc (by omega) (by omega), ?_, (b.trans b4).mut hD0, pen.mut pen4 (b.trans b4) hD0⟩⟩
      rw [List.map_append]
      exact upd_same
    rintro H2 ⟨ls, ll, bd, hd, b2, pen2⟩
    rw [Int.toNat_natCast] at ll pen2
    refine ⟨fun σ' H' => ∃ (z : Option V) (ms : List Int), ms.length = m ∧ Bd 1000000 ms ∧ σ' = [some (.ref p), some (.int (m : Nat)), some (.int r1), some (.int most), some (.ref D0), z, none] ∧ But p H H' ∧ H' D0 = some (.lst (ms.map V.int)) ∧ PenAt K H' p e (n + 12), ?_, ?_⟩
    · refine ⟨_, rfl, p, e, 7, _, rfl, by decide, by decide, by omega, pen2, fun r2 H3 r2a r2b b3 pen3 => ⟨rfl, _, rfl, ?_⟩⟩
      have hd3 := b3 _ _ hDp hd
      have b23 := b2.trans b3
      rw [dec_int]
      refine ite2 (fun c => ?_) (fun c => ?_)
      · refine ⟨_, rfl, _, rfl, p, e, (m : Nat), _, rfl, by omega, by omega, by omega, pen3, fun r3 H4 r3a r3b b4 pen4 => ?_⟩
        have hd4 := b4 _ _ hDp hd3
        have il : r3.toNat < ls.length := by omega
        have gx : atI (ls.map V.int) r3 = some (.int ls[r3.toNat]) := at_of (j := r3.toNat) (by omega) (int_get il)
        refine ⟨_, rfl, D0, ls, rfl, SqL.of hd4, _, rfl, _, rfl, D0, _, _, _, rfl, rfl, SqL.of hd4, gx, _, _, rfl, rfl, _, rfl, p, e, 3, _, rfl, by decide, by decide, by omega, pen4, fun r4 H5 r4a r4b b5 pen5 => ⟨_, _, rfl, rfl, _, _, rfl, rfl, ?_⟩⟩
        have hd5 := b5 _ _ hDp hd4
        have up := put_bd ll m3 m8 bd mom il r4a r4b
        have pen5b := pen5
        obtain ⟨y, hy⟩ : ∃ y : Int, y = ls.sum - ls[r3.toNat] + r4 - 1 := ⟨_, rfl⟩
        refine ⟨_, rfl, _, rfl, D0, _, _, r3.toNat, rfl, rfl, hd5, ixN_at r3a (by rw [List.length_map]; omega), ?_⟩
        have b25 := (b23.trans b4).trans b5
        have h6 : upd H5 D0 (.lst ((ls.map V.int).set r3.toNat (.int (ls.sum - ls[r3.toNat] + r4 - 1)))) D0 = some (.lst ((ls.set r3.toNat y).map V.int)) := by
          rw [upd_same, set_map, hy]
        have b6 : But p H (upd H5 D0 (.lst ((ls.map V.int).set r3.toNat (.int (ls.sum - ls[r3.toNat] + r4 - 1))))) := b25.mut hD0
        have pen6 := pen.mut pen5 b25 hD0 (o := .lst ((ls.map V.int).set r3.toNat (.int (ls.sum - ls[r3.toNat] + r4 - 1))))
        generalize upd H5 D0 (.lst ((ls.map V.int).set r3.toNat (.int (ls.sum - ls[r3.toNat] + r4 - 1)))) = H6 at h6 b6 pen6 ⊢
        have il6 : r3.toNat < (ls.set r3.toNat y).length := by rw [List.length_set]; exact il
        have gx6 : atI ((ls.set r3.toNat y).map V.int) r3 = some (.int y) := at_of (j := r3.toNat) (by omega) (by rw [int_get il6, List.getElem_set_self])
        refine ⟨_, rfl, _, rfl, D0, _, _, _, rfl, rfl, SqL.of h6, gx6, _, _, rfl, _, rfl, _, rfl, D0, _, _, r3.toNat, rfl, rfl, h6, ixN_at r3a (by rw [List.length_map, List.length_set]; omega), ?_⟩
        have mx1 : (1 : Int) ≤ (if y > 1 then y else 1) := by split <;> omega
        have mx2 : (if y > 1 then y else 1) ≤ 1000000 := by split <;> omega
        refine ⟨some (.int r3), (ls.set r3.toNat y).set r3.toNat (if y > 1 then y else 1), by rw [List.length_set, List.length_set]; exact ll, ?_, rfl, b6.mut hD0, by rw [upd_same, set_map], (pen.mut pen6 b6 hD0).mono (by omega)⟩
        rw [List.set_set]
        exact (bd.le mo6).set mx1 mx2
      · exact ⟨none, ls, ll, bd.le mo6, rfl, b23, hd3, pen3.mono (by omega)⟩
    rintro σ' H3 ⟨z, ms, ml, bdm, rfl, b3, h3, pen3⟩
    exact ⟨_, rfl, k D0 ms H3 ml bdm hD0 b3 h3 pen3⟩
end
end K
namespace K
open PySem L2 Rg
open Evl (pss_cut)
/-! ### what a ring tells -/
def sumsOf (ls : List Int) : List Int := ls.foldl (fun s l => s ++ s.map (· + l)) [0]
def levelB (ls : List Int) : Bool := (sumsOf ls).any fun o => decide (2 * o = ls.sum)
def closesB (ls : List Int) : Bool := ls.all fun x => decide (2 * x ≤ ls.sum)
def lsum (ls ns : List Int) : Int := (ns.map fun b => ls.getD b.toNat 0).sum
def sortV (ls ns : List Int) : Str := if 2 * lsum ls ns = ls.sum then "level" else if 2 * lsum ls ns < ls.sum then "short" else "long"
theorem sums_take {ls : List Int} {i : Nat} {z : Int} (h : ls[i]? = some z) : sumsOf (ls.take (i + 1)) = sumsOf (ls.take i) ++ (sumsOf (ls.take i)).map (· + z) := by
  unfold sumsOf
  rw [← take_snoc h, List.foldl_append]
  rfl
theorem sums_len : ∀ (ls : List Int) (i : Nat), i ≤ ls.length → (sumsOf (ls.take i)).length = 2 ^ i
  | ls, 0, _ => rfl
  | ls, i + 1, h => by
    have hz : ls[i]? = some ls[i] := List.getElem?_eq_getElem h
    rw [sums_take hz, List.length_append, List.length_map, sums_len ls i (by omega), Nat.pow_succ]
    omega
theorem closes_max {ls : List Int} {m : Int} (hm : m ∈ ls) (hx : ∀ y ∈ ls, y ≤ m) : decide (2 * m ≤ ls.sum) = closesB ls := by
  unfold closesB
  by_cases c : 2 * m ≤ ls.sum
  · rw [decide_eq_true c]
    refine (List.all_eq_true.mpr fun y hy => decide_eq_true ?_).symm
    have := hx y hy
    omega
  · rw [decide_eq_false c]
    cases e : ls.all fun x => decide (2 * x ≤ ls.sum) with
    | false => rfl
    | true => exact absurd (of_decide_eq_true (List.all_eq_true.mp e m hm)) c
theorem dec_int (a b : Int) : decide (V.int a = V.int b) = decide (a = b) := by
  by_cases e : a = b
  · rw [e]; simp
  · rw [decide_eq_false e, decide_eq_false fun z => e (V.int.inj z)]
theorem all_any (l : List Int) (g : Int → Bool) : (l.map g).any id = l.any g := by
  rw [List.any_map]; rfl
/-- the attributes of a ring, in the order in which __init__ stores them -/
def rf (t : Addr) (ls : List Int) : List (Str × V) := putF "is_clear" (.bl (!levelB ls)) (putF "closes" (.bl (closesB ls)) (putF "total" (.int ls.sum) (putF "lengths" (.ref t) [])))
theorem n1 : ¬ (("lengths" : Str) = "total") := by decide +kernel
theorem n2 : ¬ (("lengths" : Str) = "closes") := by decide +kernel
theorem n3 : ¬ (("lengths" : Str) = "is_clear") := by decide +kernel
theorem n4 : ¬ (("total" : Str) = "closes") := by decide +kernel
theorem n5 : ¬ (("total" : Str) = "is_clear") := by decide +kernel
theorem n6 : ¬ (("closes" : Str) = "is_clear") := by decide +kernel
theorem rf_lengths (t : Addr) (ls : List Int) : (rf t ls).lookup ("lengths" : Str) = some (.ref t) := by
  unfold rf
  rw [lookup_putF, if_neg n3, lookup_putF, if_neg n2, lookup_putF, if_neg n1, lookup_putF, if_pos rfl]
theorem rf_total (t : Addr) (ls : List Int) : (rf t ls).lookup ("total" : Str) = some (.int ls.sum) := by
  unfold rf
  rw [lookup_putF, if_neg n5, lookup_putF, if_neg n4, lookup_putF, if_pos rfl]
theorem rf_closes (t : Addr) (ls : List Int) : (rf t ls).lookup ("closes" : Str) = some (.bl (closesB ls)) := by
  unfold rf
  rw [lookup_putF, if_neg n6, lookup_putF, if_pos rfl]
theorem rf_clear (t : Addr) (ls : List Int) : (rf t ls).lookup ("is_clear" : Str) = some (.bl (!levelB ls)) := by
  unfold rf
  rw [lookup_putF, if_pos rfl]
theorem rf_no (t : Addr) (ls : List Int) {m : Str} (h1 : ¬ m = "lengths") (h2 : ¬ m = "total") (h3 : ¬ m = "closes") (h4 : ¬ m = "is_clear") : (rf t ls).lookup m = none := by
  unfold rf
  rw [lookup_putF, if_neg h4, lookup_putF, if_neg h3, lookup_putF, if_neg h2, lookup_putF, if_neg h1]
  rfl
section
variable {P : Program} {w : World} {K : PySem.W.Frag} {mg : Str → Option Value} {base : Heap}
def RingAt (K : PySem.W.Frag) (C : Addr) (H : Hp) (r : Addr) (ls : List Int) : Prop := ∃ dx t, H r = some (.ins C dx (rf t ls)) ∧ SqT K H t (ls.map V.int) ∧ ∃ o : Obj, H t = some (.frz o (.tup (ls.map V.int))) ∧ o.dict = none
theorem RingAt.same {C : Addr} {H H' : Hp} {r : Addr} {ls : List Int} (h : RingAt K C H r ls) (s : Same H H') : RingAt K C H' r ls := by
  obtain ⟨dx, t, h1, h2, o, h3, h4⟩ := h
  exact ⟨dx, t, s _ _ h1, s.tup h2, o, s _ _ h3, h4⟩
/-- the class Ring as the top has made it -/
structure RingC (K : PySem.W.Frag) (mg : Str → Option Value) (C : Addr) : Prop where
  cl : Cls K C
  nL : NoAttr K C "lengths"
  nT : NoAttr K C "total"
  nC : NoAttr K C "closes"
  nI : NoAttr K C "is_clear"
  g : mg "Ring" = some (.ref C)
  ha : PySem.W.findIn K (.ref C) "__class__" = some (some (.builtin "object.__class__"))
  hn : PySem.W.specialIn K (.builtin "object.__class__") "__get__" = some (some (.builtin "getset_descriptor.__get__"))
  ht : PySem.W.takesIn K (.builtin "object.__class__") = some true
  hm : PySem.W.mroIn K C (.type "object") = some true
structure Nm (mg : Str → Option Value) : Prop where
  mostL : ∃ t, mg "MOST_LENGTH" = some (.int 1000000 t)
  leastB : ∃ t, mg "LEAST_BARS" = some (.int 3 t)
  mostB : ∃ t, mg "MOST_BARS" = some (.int 8 t)
/-! ### are_lengths -/
def spAreL (K : PySem.W.Frag) : Sp := fun vs H Q _ => ∃ (a : Addr) (ls : List Int), vs = [.ref a] ∧ Knd K H (.ref a) "list" ∧ SqL K H a (ls.map V.int) ∧ ls.length ≤ 1000 ∧ Bd 1000000 ls ∧ ∀ H', Same H H' → Q (.bl true) H'
abbrev nAreL : List Str := ["value", "one"]
theorem scAreL : FnScope nAreL ["value"] (defScope sAreLengths) := ⟨rfl, rfl, rfl, by decide +kernel, rfl, by decide +kernel, by decide +kernel⟩
theorem all_true {bs : List Bool} (h : ∀ b ∈ bs, b = true) : bs.all id = true := List.all_eq_true.mpr fun b hb => h b hb
theorem ok_areL {f fW fL : Addr} {fd fdW fdL : FuncData} (F : Fun K "are_lengths" "are_lengths" sAreLengths f fd) (T : Bi mg) (N : Nm mg) (W : DefAt P w K mg base CX0 2 "is_within" ["value", "least", "most"] spWithin fW fdW) (L : DefAt P w K mg base CX0 1 "is_list" ["value"] (spIsList K) fL fdL) : FnOk P w K mg base CX0 3 f fd ["value"] (spAreL K) := by
  refine F.ok scAreL (fun vs H Q E h => ?_) (fun cdv A outer s H vs Q E hr h => ?_)
  · obtain ⟨a, ls, rfl, _⟩ := h
    rfl
  · obtain ⟨tM, hM⟩ := N.mostL
    refine ⟨_, pss_one (ps_ret (pe_and (pe_call L.ok (hr.mono (by decide)) rfl L.g L.kp L.b .nil pass0 (pa_cons (pv 0) pa_nil)) (pe_one (pe_callB (cr_all rfl) (by rfl) T.all (by decide +kernel) (pa_cons (pe_lc (own := [("one", 1)]) (g := gName 1) (tt := tYes) rfl scAreL.nd (pi_list (pv 0))
      (blkOk_by (N := nAreL) (sc := defScope sAreLengths) (by decide +kernel)) (fun _ _ _ _ _ => pg_name (i := 1) scAreL.nd rfl (Or.inl rfl)) (fun _ _ _ _ _ => pts_nil) (fun _ _ _ _ _ => pe_call W.ok hr rfl W.g W.kp W.b .nil pass0 (pa_cons (pv 1) (pa_cons pe_int (pa_cons (pe_glob (v := .int 1000000) rfl hM ⟨_, rfl⟩) pa_nil))))) pa_nil))))), ?_⟩
    obtain ⟨a, ls, rfl, hk, hs, hl, hb, q⟩ := h
    refine ⟨_, rfl, _, "list", rfl, hk, fun H1 s1 => ⟨_, rfl, iteDT (.inl rfl) ?_⟩⟩
    refine ⟨_, rfl, a, rfl, ⟨_, s1.seq hs⟩, fun D hD => ?_⟩
    have hD0 := s1.free hD
    refine lc_list (K := K) (a := a) (xs := ls.map V.int) (fun i H' => Same H H' ∧ ∃ bs : List Bool, (∀ b ∈ bs, b = true) ∧ bs.length ≤ i ∧ H' D = some (.lst (bs.map V.bl))) ⟨s1.new hD, [], (fun b hb => nomatch hb), Nat.le_refl _, upd_same⟩ (fun i H' _ p => p.1.seq hs) ?_ ?_
    · rintro i x H' hi ⟨s2, bs, h1, h2, h3⟩
      obtain ⟨z, hz, rfl⟩ := int_at hi
      have hil : i < ls.length := (List.getElem?_eq_some_iff.mp hz).1
      have hzb := hb z (List.mem_of_getElem? hz)
      refine ⟨rfl, _, rfl, z, 1, 1000000, rfl, _, h3, (by rw [List.length_map]; exact sm (by omega)), s2.mut hD0, bs ++ [true], fun b hb => ?_, by rw [List.length_append, List.length_singleton]; omega, ?_⟩
      · rcases List.mem_append.mp hb with m | m
        · exact h1 b m
        · exact List.mem_singleton.mp m
      · rw [upd_same, List.map_append, decide_eq_true hzb.1, decide_eq_true hzb.2]
        rfl
    · rintro H' ⟨s2, bs, h1, h2, h3⟩
      refine ⟨D, bs, rfl, SqL.of h3, ?_⟩
      rw [all_true h1]
      exact q H' s2
/-! ### has_level -/
def spHasL (K : PySem.W.Frag) : Sp := fun vs H Q _ => ∃ (t : Addr) (ls : List Int), vs = [.ref t] ∧ SqT K H t (ls.map V.int) ∧ ls.length ≤ 8 ∧ ∀ H', Same H H' → Q (.bl (levelB ls)) H'
abbrev nHasL : List Str := ["lengths", "sums", "length", "one"]
theorem scHasL : FnScope nHasL ["lengths"] (defScope sHasLevel) := ⟨rfl, rfl, rfl, by decide +kernel, rfl, by decide +kernel, by decide +kernel⟩
theorem ok_hasL {f : Addr} {fd : FuncData} (F : Fun K "has_level" "has_level" sHasLevel f fd) (T : Bi mg) : FnOk P w K mg base CX0 2 f fd ["lengths"] (spHasL K) := by
  refine F.ok scHasL (fun vs H Q E h => ?_) (fun cdv A outer s H vs Q E hr h => ?_)
  · obtain ⟨a, ls, rfl, _⟩ := h
    rfl
  · have nd := scHasL.nd
    refine ⟨_, pss_cons (ps_set (i := 1) nd rfl (Or.inl rfl) (pe_lst (pa_cons pe_int pa_nil)))
      (pss_cons (ps_for PassesOwn.never rfl (pi_tup (pv 0)) (pg_name (i := 2) nd rfl (Or.inr rfl)) (pss_one (ps_set (i := 1) nd rfl (Or.inl rfl) (pe_op op_cat (pv 1) (pe_lc (own := [("one", 3)]) (g := gName 3) (tt := tYes) rfl nd (pi_list (pv 1))
        (blkOk_by (N := nHasL) (sc := defScope sHasLevel) (by decide +kernel)) (fun _ _ _ _ _ => pg_name (i := 3) nd rfl (Or.inl rfl)) (fun _ _ _ _ _ => pts_nil) (fun _ _ _ _ _ => pe_op op_add (pv 3) (pv 2)))))))
      (pss_one (ps_ret (pe_callB (cr_any rfl) (by rfl) T.any (by decide +kernel) (pa_cons (pe_lc (own := [("one", 3)]) (g := gName 3) (tt := tYes) rfl nd (pi_list (pv 1))
        (blkOk_by (N := nHasL) (sc := defScope sHasLevel) (by decide +kernel)) (fun _ _ _ _ _ => pg_name (i := 3) nd rfl (Or.inl rfl)) (fun _ _ _ _ _ => pts_nil) (fun _ _ _ _ _ => pe_cmpR op_eq (pe_op op_mul pe_int (pv 3)) (pe_callB (r := rSumT K) (cr_sumT (by rfl)) (by rfl) T.sum (by decide +kernel) (pa_cons (pv 0) pa_nil)) (nomark _))) pa_nil))))), ?_⟩
    obtain ⟨t, ls, rfl, hs, hl, q⟩ := h
    refine ⟨(by show 1 ≤ sizeLine; decide), fun l0 hl0 => ?_⟩
    have s0 : Same H (upd H l0 (.lst [.int 0])) := (Same.refl H).new hl0
    have pw : ∀ i, i ≤ ls.length → (sumsOf (ls.take i)).length ≤ 256 := fun i hi => by
      rw [sums_len ls i hi]
      exact Nat.pow_le_pow_right (by decide) (show i ≤ 8 by omega)
    refine ⟨_, rfl, t, rfl, ⟨_, s0.tup hs⟩, for_tup (K := K) (a := t) (xs := ls.map V.int) (fun i σ H' => ∃ (l : Addr) (z : Option V), σ = [some (.ref t), some (.ref l), z, none] ∧ Same H H' ∧ H' l = some (.lst ((sumsOf (ls.take i)).map V.int)))
      ⟨l0, none, rfl, s0, upd_same⟩ (fun i σ H' _ ⟨_, _, _, s, _⟩ => s.tup hs) ?_ ?_⟩
    · rintro i x σ H' hi ⟨l, z, rfl, s1, h1⟩
      obtain ⟨z, hz, rfl⟩ := int_at hi
      have hil : i < ls.length := (List.getElem?_eq_some_iff.mp hz).1
      have p1 := pw i (by omega)
      refine ⟨_, rfl, _, rfl, l, rfl, ⟨_, SqL.of h1⟩, fun D hD => ?_⟩
      have hlD : l ≠ D := ne_of_none h1 hD
      refine lc_list (K := K) (a := l) (xs := (sumsOf (ls.take i)).map V.int) (fun j H2 => Same H' H2 ∧ H2 D = some (.lst ((((sumsOf (ls.take i)).take j).map (· + z)).map V.int))) ⟨(Same.refl H').new hD, upd_same⟩ (fun j H2 _ p => p.1.seq (SqL.of h1)) ?_ ?_
      · rintro j y H2 hj ⟨s2, h2⟩
        obtain ⟨o, ho, rfl⟩ := int_at hj
        refine ⟨rfl, _, rfl, _, rfl, _, _, rfl, rfl, _, h2, (by rw [List.length_map, List.length_map, List.length_take]; exact sm (by omega)), s2.mut hD, ?_⟩
        rw [upd_same, ← take_snoc ho, List.map_append, List.map_append]
        rfl
      · rintro H2 ⟨s2, h2⟩
        rw [List.length_map, List.take_length] at h2
        refine ⟨l, D, _, _, rfl, rfl, s2 _ _ h1, h2, (by rw [List.length_map, List.length_map, List.length_map]; exact Nat.le_of_lt (sm (by omega))), fun p hp => ⟨p, _, rfl, (s1.trans s2).new hp, ?_⟩⟩
        rw [upd_same, sums_take hz, List.map_append]
    · rintro σ H' ⟨l, z, rfl, s1, h1⟩
      rw [List.length_map, List.take_length] at h1
      have p1 := pw ls.length (Nat.le_refl _)
      rw [List.take_length] at p1
      refine ⟨_, rfl, l, rfl, ⟨_, SqL.of h1⟩, fun D hD => ?_⟩
      refine lc_list (K := K) (a := l) (xs := (sumsOf ls).map V.int) (fun j H2 => Same H' H2 ∧ H2 D = some (.lst ((((sumsOf ls).take j).map fun o => decide (2 * o = ls.sum)).map V.bl))) ⟨(Same.refl H').new hD, upd_same⟩ (fun j H2 _ p => p.1.seq (SqL.of h1)) ?_ ?_
      · rintro j y H2 hj ⟨s2, h2⟩
        obtain ⟨o, ho, rfl⟩ := int_at hj
        refine ⟨rfl, _, rfl, _, _, rfl, rfl, .inl ⟨by decide, by decide⟩, _, rfl, t, ls, rfl, (s1.trans s2).tup hs, rfl, _, h2, (by rw [List.length_map, List.length_map, List.length_take]; exact sm (by omega)), s2.mut hD, ?_⟩
        rw [upd_same, ← take_snoc ho, List.map_append, List.map_append, dec_int]
        rfl
      · rintro H2 ⟨s2, h2⟩
        rw [List.length_map, List.take_length] at h2
        refine ⟨D, _, rfl, SqL.of h2, ?_⟩
        rw [all_any]
        exact q H2 (s1.trans s2)
/-! ### Ring.__init__ -/
def spRI (K : PySem.W.Frag) (C : Addr) : Sp := fun vs H Q _ => ∃ (r l dx : Addr) (ls : List Int), vs = [.ref r, .ref l] ∧ H r = some (.ins C dx []) ∧ Knd K H (.ref l) "list" ∧ SqL K H l (ls.map V.int) ∧ 3 ≤ ls.length ∧ ls.length ≤ 8 ∧ Bd 1000000 ls ∧
  ∀ H', RingAt K C H' r ls → (∀ b o, H b = some o → b ≠ r → H' b = some o) → Q .non H'
theorem scRI : FnScope ["self", "lengths"] ["self", "lengths"] (defScope sRingInit) := ⟨rfl, rfl, rfl, by decide +kernel, rfl, by decide +kernel, by decide +kernel⟩
theorem ok_ri {C f fA fH : Addr} {fd fdA fdH : FuncData} (F : Fun K "__init__" "Ring.__init__" sRingInit f fd) (T : Bi mg) (N : Nm mg) (R : RingC K mg C) (A' : DefAt P w K mg base CX0 3 "are_lengths" ["value"] (spAreL K) fA fdA) (L : DefAt P w K mg base CX0 2 "has_level" ["lengths"] (spHasL K) fH fdH) : FnOk P w K mg base CX0 4 f fd ["self", "lengths"] (spRI K C) := by
  refine F.ok scRI (fun vs H Q E h => ?_) (fun cdv A outer s H vs Q E hr h => ?_)
  · obtain ⟨r, l, dx, ls, rfl, _⟩ := h
    rfl
  · obtain ⟨t3, h3⟩ := N.leastB
    obtain ⟨t8, h8⟩ := N.mostB
    refine ⟨_, pss_cons (ps_if (pt_not (pt_val (pe_call A'.ok hr rfl A'.g A'.kp A'.b .nil pass0 (pa_cons (pv 1) pa_nil)))) (pss_one ps_never) pss_nil)
      (pss_cons (ps_if (pt_cmpR op_lt (pe_callB call_len_seq (by rfl) T.len PySem.boot_len (pa_cons (pv 1) pa_nil)) (pe_glob (v := .int 3) rfl h3 ⟨_, rfl⟩) (nomark _)) (pss_one ps_never) pss_nil)
      (pss_cons (ps_if (pt_cmpR op_gt (pe_callB call_len_seq (by rfl) T.len PySem.boot_len (pa_cons (pv 1) pa_nil)) (pe_glob (v := .int 8) rfl h8 ⟨_, rfl⟩) (nomark _)) (pss_one ps_never) pss_nil)
      (pss_cons (ps_fld (pv 0) (pe_callTy cr_tupF (by rfl) T.tuple (by decide +kernel) (pa_cons (pv 1) pa_nil)) rfl)
      (pss_cons (ps_fld (pv 0) (pe_callB (cr_sumT rfl) (by rfl) T.sum (by decide +kernel) (pa_cons (pe_fld (pv 0) rfl) pa_nil)) rfl)
      (pss_cons (ps_fld (pv 0) (pe_cmpR op_le (pe_op op_mul pe_int (pe_callB (cr_maxT rfl) (by rfl) T.max (by decide +kernel) (pa_cons (pe_fld (pv 0) rfl) pa_nil))) (pe_fld (pv 0) rfl) (nomark _)) rfl)
      (pss_one (ps_fld (pv 0) (pe_not (pe_call L.ok (hr.mono (by decide)) rfl L.g L.kp L.b .nil pass0 (pa_cons (pe_fld (pv 0) rfl) pa_nil))) rfl))))))), ?_⟩
    obtain ⟨r, l, dx, ls, rfl, hr0, hk, hs, l3, l8, hb, q⟩ := h
    refine ⟨_, rfl, l, ls, rfl, hk, hs, by omega, hb, fun H1 s1 => ⟨_, rfl, iteF ?_⟩⟩
    refine ⟨_, rfl, l, _, rfl, .inl (s1.seq hs), _, _, rfl, rfl, _, rfl, iteDF (by rw [List.length_map]; omega) ?_⟩
    refine ⟨_, rfl, l, _, rfl, .inl (s1.seq hs), _, _, rfl, rfl, _, rfl, iteDF (by rw [List.length_map]; omega) ?_⟩
    have hr1 := s1 _ _ hr0
    refine ⟨_, rfl, l, _, rfl, s1.seq hs, fun t o ht hd => ?_⟩
    have nrt : r ≠ t := ne_of_none hr1 ht
    have ht0 := s1.free ht
    have tup0 : ∀ u, upd (upd H1 t (.frz o (.tup (ls.map V.int)))) r u t = some (.frz o (.tup (ls.map V.int))) := fun u => by rw [upd_ne nrt.symm, upd_same]
    refine ⟨_, rfl, r, C, dx, [], rfl, (by rw [upd_ne nrt]; exact hr1), R.cl, R.nL, (by show 0 < 1000; decide), ?_⟩
    -- self.total
    refine ⟨_, rfl, r, C, dx, _, _, rfl, upd_same, R.cl, R.nL, (by rw [lookup_putF, if_pos rfl]), t, ls, rfl, .inl (.inr ⟨o, tup0 _⟩), _, rfl, r, C, dx, _, rfl, upd_same, R.cl, R.nT, (by show 1 < 1000; decide), ?_⟩
    rw [upd_upd]
    -- self.closes
    refine ⟨_, rfl, r, C, dx, _, _, rfl, upd_same, R.cl, R.nL, (by rw [lookup_putF, if_neg n1, lookup_putF, if_pos rfl]), t, ls, rfl, .inl (.inr ⟨o, tup0 _⟩), by omega, fun m hm hx => ?_⟩
    refine ⟨_, _, rfl, rfl, .inl ⟨by decide, by decide⟩, _, rfl, r, C, dx, _, _, rfl, upd_same, R.cl, R.nT, (by rw [lookup_putF, if_pos rfl]), _, _, rfl, rfl, _, rfl, r, C, dx, _, rfl, upd_same, R.cl, R.nC, ?_, ?_⟩
    · have e1 := length_putF "total" (V.int ls.sum) (putF "lengths" (V.ref t) [])
      have e2 := length_putF "lengths" (V.ref t) []
      simp only [List.length_nil] at e2
      omega
    dsimp only
    rw [upd_upd, closes_max hm hx]
    -- self.is_clear
    refine ⟨_, rfl, r, C, dx, _, _, rfl, upd_same, R.cl, R.nL, (by rw [lookup_putF, if_neg n2, lookup_putF, if_neg n1, lookup_putF, if_pos rfl]), t, ls, rfl, .inl (.inr ⟨o, tup0 _⟩), l8, fun H5 s5 => ⟨_, rfl, _, rfl, r, C, dx, _, rfl, s5 _ _ upd_same, R.cl, R.nI, ?_, ?_⟩⟩
    · have e1 := length_putF "total" (V.int ls.sum) (putF "lengths" (V.ref t) [])
      have e2 := length_putF "lengths" (V.ref t) []
      have e3 := length_putF "closes" (V.bl (closesB ls)) (putF "total" (V.int ls.sum) (putF "lengths" (V.ref t) []))
      simp only [List.length_nil] at e2
      omega
    · have tf := s5 _ _ (tup0 _)
      refine q _ ⟨dx, t, upd_same, .inl (.inr ⟨o, by rw [upd_ne nrt.symm]; exact tf⟩), o, by rw [upd_ne nrt.symm]; exact tf, hd⟩ fun b o e hbr => ?_
      rw [upd_ne hbr]
      refine s5 _ _ ?_
      rw [upd_ne hbr, upd_ne (ne_of_none (s1 _ _ e) ht)]
      exact s1 _ _ e
end
end K
namespace K
open PySem L2 Rg
open Evl (pss_cut)
theorem perm_sum {a b : List Int} (h : a.Perm b) : a.sum = b.sum := by
  induction h with
  | nil => rfl
  | cons x _ ih => rw [List.sum_cons, List.sum_cons, ih]
  | swap x y l => simp only [List.sum_cons]; omega
  | trans _ _ ih1 ih2 => exact ih1.trans ih2
theorem lsum_perm {ls a b : List Int} (h : a.Perm b) : lsum ls a = lsum ls b := perm_sum (h.map _)
section
variable {P : Program} {w : World} {K : PySem.W.Frag} {mg : Str → Option Value} {base : Heap}
/-- a value passed for a lot of a ring of many bars: what becomes of it, k of what it is if it is one -/
def LotV (K : PySem.W.Frag) (H : Hp) (E : XK) (c : Cs) (many : Int) (part : Str) (v : V) (k : List Int → Prop) : Prop :=
  (∃ kd, Knd K H v kd ∧ kd ≠ "list" ∧ kd ≠ "tuple" ∧ Errs E c.l "part" (.str part) H) ∨
  (∃ (a : Addr) (xs : List V) (kf : V → String), v = .ref a ∧ Knd K H (.ref a) "list" ∧ SqL K H a xs ∧ xs.length ≤ 1000 ∧ (∀ x ∈ xs, Knd K H x (kf x)) ∧
    (((xs.all fun x => decide (kf x = "int")) = false ∧ Errs E c.l "part" (.str part) H) ∨ ∃ ns, xs = ns.map V.int ∧ (xs.all fun x => decide (kf x = "int")) = true ∧ LotFin E c part H (res many ns) k)) ∨
  (∃ (a : Addr) (ns : List Int), v = .ref a ∧ Knd K H (.ref a) "tuple" ∧ SqT K H a (ns.map V.int) ∧ ns.length ≤ 1000 ∧ LotFin E c part H (res many ns) k)
theorem LotFin.imp {E : XK} {c : Cs} {part : Str} {H : Hp} {r : Lr} {k k' : List Int → Prop} (h : LotFin E c part H r k) (i : ∀ ns, k ns → k' ns) : LotFin E c part H r k' := by
  cases r with
  | bad => exact h
  | bar b => exact h
  | twice b => exact h
  | ok ns => exact i ns h
theorem LotV.imp {H : Hp} {E : XK} {c : Cs} {many : Int} {part : Str} {v : V} {k k' : List Int → Prop} (h : LotV K H E c many part v k) (i : ∀ ns, k ns → k' ns) : LotV K H E c many part v k' := by
  rcases h with h | ⟨a, xs, kf, e, h1, h2, h3, h4, h⟩ | ⟨a, ns, e, h1, h2, h3, h4⟩
  · exact .inl h
  · refine .inr (.inl ⟨a, xs, kf, e, h1, h2, h3, h4, ?_⟩)
    rcases h with h | ⟨ns, q1, q2, q3⟩
    · exact .inl h
    · exact .inr ⟨ns, q1, q2, q3.imp i⟩
  · exact .inr (.inr ⟨a, ns, e, h1, h2, h3, h4.imp i⟩)
def spWL (K : PySem.W.Frag) (c : Cs) : Sp := fun vs H Q E => ∃ (v : V) (many : Int) (part : Str), vs = [v, .int many, .str part] ∧ LotV K H E c many part v fun ns => ∀ (p : Addr) (ms : List Int) (H' : Hp), ms.Perm ns → Same H H' → H' p = some (.tup (ms.map V.int)) → Q (.ref p) H'
theorem ok_wl {CX : CXT} {k : Nat} {f : Addr} {fd : FuncData} {ps : List Str} {c : Cs} (F1 : FnOk P w K mg base CX k f fd ps (spWLO K c)) (F2 : FnOk P w K mg base CX k f fd ps (spWLL K c)) (F3 : FnOk P w K mg base CX k f fd ps (spWLT K c)) : FnOk P w K mg base CX k f fd ps (spWL K c) := by
  refine (fn_or F1 (fn_or F2 F3)).imp fun vs H Q E h => ?_
  obtain ⟨v, many, part, rfl, h⟩ := h
  rcases h with ⟨kd, h1, h2, h3, h4⟩ | ⟨a, xs, kf, rfl, h1, h2, h3, h4, h⟩ | ⟨a, ns, rfl, h1, h2, h3, h4⟩
  · exact .inl ⟨v, kd, many, part, rfl, h1, h2, h3, h4⟩
  · exact .inr (.inl ⟨a, xs, kf, many, part, rfl, h1, h2, h3, h4, h⟩)
  · exact .inr (.inr ⟨a, ns, many, part, rfl, h1, h2, h3, h4⟩)
/-- a ring, of whose tuple of lengths nothing is known but its items -/
def RingW (K : PySem.W.Frag) (C : Addr) (H : Hp) (r : Addr) (ls : List Int) : Prop := ∃ dx t, H r = some (.ins C dx (rf t ls)) ∧ SqT K H t (ls.map V.int)
theorem RingAt.weak {C : Addr} {H : Hp} {r : Addr} {ls : List Int} (h : RingAt K C H r ls) : RingW K C H r ls := let ⟨dx, t, h1, h2, _⟩ := h; ⟨dx, t, h1, h2⟩
/-! ### len(ring) -/
def spRLen (K : PySem.W.Frag) (C : Addr) : Sp := fun vs H Q _ => ∃ (r : Addr) (ls : List Int), vs = [.ref r] ∧ RingW K C H r ls ∧ Q (.int ls.length) H
theorem scRLen : FnScope ["self"] ["self"] (defScope sRingLen) := ⟨rfl, rfl, rfl, by decide +kernel, rfl, by decide +kernel, by decide +kernel⟩
theorem ok_rlen {C f : Addr} {fd : FuncData} (F : Fun K "__len__" "Ring.__len__" sRingLen f fd) (T : Bi mg) (R : RingC K mg C) : FnOk P w K mg base CX0 1 f fd ["self"] (spRLen K C) := by
  refine F.ok scRLen (fun vs H Q E h => ?_) (fun cdv A outer s H vs Q E hr h => ?_)
  · obtain ⟨r, ls, rfl, _⟩ := h
    rfl
  · refine ⟨_, pss_one (ps_ret (pe_callB call_len_seq (by rfl) T.len PySem.boot_len (pa_cons (pe_fld (pv 0) rfl) pa_nil))), ?_⟩
    obtain ⟨r, ls, rfl, ⟨dx, t, hr0, ht⟩, q⟩ := h
    refine ⟨_, rfl, r, C, dx, _, _, rfl, hr0, R.cl, R.nL, rf_lengths _ _, t, _, rfl, .inr ht, ?_⟩
    rw [List.length_map]
    exact q
theorem get_len {ls : List Int} {b : Int} (h0 : 0 ≤ b) (h1 : b < (ls.length : Int)) : atI (ls.map V.int) b = some (V.int (ls.getD b.toNat 0)) := by
  have hb : b.toNat < ls.length := by omega
  refine at_of (j := b.toNat) (by omega) ?_
  rw [int_get hb, List.getD_eq_getElem?_getD, List.getElem?_eq_getElem hb]
  rfl
theorem res_ok {many : Int} {ns ms : List Int} (h : res many ns = .ok ms) : ms = ns ∧ (∀ x ∈ ns, isBar many x = true) ∧ ft [] ns = none := by
  unfold res at h
  cases e : ns.find? (fun b => !isBar many b) with
  | some b => rw [e] at h; cases h
  | none =>
    rw [e] at h
    cases e2 : ft [] ns with
    | some b => rw [e2] at h; cases h
    | none =>
      rw [e2] at h
      cases h
      refine ⟨rfl, fun x hx => ?_, rfl⟩
      have := List.find?_eq_none.mp e x hx
      simpa using this
/-- a lot that is one, with what is known of it -/
theorem LotFin.fine {E : XK} {c : Cs} {part : Str} {H : Hp} {many : Int} {ns : List Int} {k k' : List Int → Prop} (h : LotFin E c part H (res many ns) k) (hl : ns.length ≤ 1000) (i : ∀ ms, ms.length ≤ 1000 → (∀ x ∈ ms, isBar many x = true) → k ms → k' ms) : LotFin E c part H (res many ns) k' := by
  cases e : res many ns with
  | bad => rw [e] at h; exact h
  | bar b => rw [e] at h; exact h
  | twice b => rw [e] at h; exact h
  | ok ms =>
    rw [e] at h
    obtain ⟨rfl, a, _⟩ := res_ok e
    exact i ms hl a h
theorem LotV.fine {H : Hp} {E : XK} {c : Cs} {many : Int} {part : Str} {v : V} {k k' : List Int → Prop} (h : LotV K H E c many part v k) (i : ∀ ms, ms.length ≤ 1000 → (∀ x ∈ ms, isBar many x = true) → k ms → k' ms) : LotV K H E c many part v k' := by
  rcases h with h | ⟨a, xs, kf, e, h1, h2, h3, h4, h⟩ | ⟨a, ns, e, h1, h2, h3, h4⟩
  · exact .inl h
  · refine .inr (.inl ⟨a, xs, kf, e, h1, h2, h3, h4, ?_⟩)
    rcases h with h | ⟨ns, q1, q2, q3⟩
    · exact .inl h
    · exact .inr ⟨ns, q1, q2, q3.fine (by rw [q1, List.length_map] at h3; exact h3) i⟩
  · exact .inr (.inr ⟨a, ns, e, h1, h2, h3, h4.fine h3 i⟩)
end
end K
namespace K
open PySem L2 Rg
open Evl (pss_cut)
section
variable {P : Program} {w : World} {K : PySem.W.Frag} {mg : Str → Option Value} {base : Heap}
theorem kit_self {K : PySem.W.Frag} {C : Addr} : PySem.W.kitOne K (.ref C) (.ref C) = some true := by
  unfold PySem.W.kitOne
  simp
/-- what is no ring: a value of a kind that is no Ring -/
def NoR (K : PySem.W.Frag) (C : Addr) (H : Hp) (v : V) : Prop := ∃ k : String, TyX K H v (.type k) ∧ PySem.W.kitOne K (.type k) (.ref C) = some false
theorem NoR.same {C : Addr} {H H' : Hp} {v : V} (h : NoR K C H v) (s : Same H H') : NoR K C H' v := let ⟨k, a, b⟩ := h; ⟨k, tyx_same a s, b⟩
def spWantR (K : PySem.W.Frag) (C cR : Addr) : Sp := fun vs H Q E => ∃ (v : V) (part : Str), vs = [v, .str part] ∧ ((∃ r ls, v = .ref r ∧ RingW K C H r ls ∧ Q .non H) ∨ (NoR K C H v ∧ Errs E cR "part" (.str part) H))
theorem scWantR : FnScope ["value", "part"] ["value", "part"] (defScope sWantRing) := ⟨rfl, rfl, rfl, by decide +kernel, rfl, by decide +kernel, by decide +kernel⟩
theorem ok_wantR {C cR f fI : Addr} {fd fdI : FuncData} (F : Fun K "want_ring" "want_ring" sWantRing f fd) (T : Bi mg) (R : RingC K mg C) (B : ErrAt P w K mg base "BadRing" "part" cR fI fdI) : FnOk P w K mg base (L2.CX P w) 3 f fd ["value", "part"] (spWantR K C cR) := by
  refine F.okX scWantR (fun vs H Q E h => ?_) (fun cdv A outer s H vs Q E hr h => ?_)
  · obtain ⟨v, part, rfl, _⟩ := h
    rfl
  · refine ⟨_, pss_one (ps_if (pt_not (pt_val (pe_callB call_isi (by rfl) T.isinstance (by decide +kernel) (pa_cons (pv 0) (pa_cons (pe_glob (v := .ref C) rfl R.g rfl) pa_nil)))))
      (pss_one (ps_raise rfl (takes_of rfl rfl rfl rfl) (pmk_oex B.oex B.ic B.ti B.ok hr B.b .nil pass0 rfl B.g (pa_cons (pv 1) pa_nil)))) pss_nil), ?_⟩
    obtain ⟨v, part, rfl, h⟩ := h
    rcases h with ⟨r, ls, rfl, ⟨dx, t, hr0, ht⟩, q⟩ | ⟨⟨k, ty, kit⟩, er⟩
    · refine ⟨_, rfl, .ref r, .ref C, _, _, _, rfl, .own C, .base (.ins hr0 R.cl R.ha R.hn R.ht R.hm), kit_self, ?_⟩
      exact ⟨_, rfl, iteF q⟩
    · refine ⟨_, rfl, v, .ref C, _, _, _, rfl, .own C, ty, kit, ?_⟩
      exact ⟨_, rfl, iteT ⟨_, rfl, err_made B.oex B.nf er⟩⟩
end
end K
namespace K
open PySem L2 Rg
open Evl (pss_cut)
theorem ne_bb {a b : Bool} (h : a = b) : (!decide (V.bl a = V.bl b)) = false := by rw [h, decide_eq_true rfl]; rfl
theorem ne_vv (v : V) : (!decide (v = v)) = false := by rw [decide_eq_true rfl]; rfl
theorem at_back {α : Type} {xs : List α} {v : α} (hl : 0 < xs.length) (h : xs[xs.length - 1]? = some v) : atI xs (-1) = some v := by
  unfold atI ixN
  rw [if_neg (by decide), if_pos (by omega), show ((-1 : Int) + (xs.length : Int)).toNat = xs.length - 1 by omega]
  exact h
theorem shaped_nil : SeqAt.shaped (.list []) = true := shaped_ints []
theorem Bd.app {m : Int} {a b : List Int} (h : Bd m a) (k : Bd m b) : Bd m (a ++ b) := fun x hx => (List.mem_append.mp hx).elim (h x) (k x)
theorem Bd.take {m : Int} {a : List Int} (i : Nat) (h : Bd m a) : Bd m (a.take i) := fun x hx => h x (List.mem_of_mem_take hx)
theorem Bd.drop {m : Int} {a : List Int} (i : Nat) (h : Bd m a) : Bd m (a.drop i) := fun x hx => h x (List.mem_of_mem_drop hx)
theorem Bd.one {m x : Int} (h1 : 1 ≤ x) (h2 : x ≤ m) : Bd m [x] := fun y hy => by rw [List.mem_singleton.mp hy]; exact ⟨h1, h2⟩
theorem getD_mem {ls : List Int} {i : Nat} (h : i < ls.length) : ls.getD i 0 ∈ ls := by
  rw [List.getD_eq_getElem?_getD, List.getElem?_eq_getElem h]
  exact List.getElem_mem h
theorem Bd.get {m : Int} {ls : List Int} (h : Bd m ls) {i : Nat} (hi : i < ls.length) : 1 ≤ ls.getD i 0 ∧ ls.getD i 0 ≤ m := h _ (getD_mem hi)
theorem cut_from (xs : List V) {z : Int} {k : Nat} (hz : z = (k : Int)) : cutV xs (some z) none = xs.drop k := by
  subst hz
  unfold cutV
  rw [HT.sIx_nat, HT.sIx_none]
  by_cases h : k ≤ xs.length
  · rw [Nat.min_eq_left h, List.take_of_length_le (by rw [List.length_drop]; omega)]
  · rw [Nat.min_eq_right (by omega), List.drop_eq_nil_of_le (Nat.le_refl _), List.drop_eq_nil_of_le (show xs.length ≤ k by omega), List.take_nil]
theorem getL {ls : List Int} {z : Int} {i : Nat} (hz : z = (i : Int)) (h1 : i < ls.length) : atI (ls.map V.int) z = some (V.int (ls.getD i 0)) := by
  subst hz
  have h : (ls.map V.int)[i]? = some (V.int (ls.getD i 0)) := by rw [int_get h1, List.getD_eq_getElem?_getD, List.getElem?_eq_getElem h1]; rfl
  exact atI_nat h
theorem get_z {ls : List Int} {z : Int} (h0 : 0 ≤ z) (h1 : z < ls.length) : atI (ls.map V.int) z = some (V.int (ls.getD z.toNat 0)) := getL (i := z.toNat) (by omega) (by omega)
theorem eqvA_pd (a b : List Int) : PyData.eqv (.list (a.map PyData.int)) (.list (b.map PyData.int)) = decide (a = b) := by
  simp [PyData.eqv, Rg.eqvA_ints8]
section
variable {P : Program} {w : World} {K : PySem.W.Frag} {mg : Str → Option Value} {base : Heap}
theorem RingW.same {C : Addr} {H H' : Hp} {r : Addr} {ls : List Int} (h : RingW K C H r ls) (s : Same H H') : RingW K C H' r ls := by
  obtain ⟨dx, t, h1, h2⟩ := h
  exact ⟨dx, t, s _ _ h1, s.tup h2⟩
/-- a new ring is told, all that was tracked stands -/
def NewA (K : PySem.W.Frag) (C : Addr) (ls : List Int) (H : Hp) (Q : VK) : Prop := ∀ r H', RingAt K C H' r ls → Same H H' → H r = none → Q (.ref r) H'
theorem NewA.later {C : Addr} {ls : List Int} {H H1 : Hp} {Q : VK} (h : NewA K C ls H Q) (s : Same H H1) : NewA K C ls H1 Q := fun r H' a b c => h r H' a (s.trans b) (s.free c)
/-! ### is_within of anything -/
/-- what is_within tells of a value of the kind k -/
def winB (k : String) (lo hi : Int) (v : V) : Bool := decide (k = "int") && match v with
  | .int i => decide (lo ≤ i) && decide (i ≤ hi)
  | _ => false
def spWithinO (K : PySem.W.Frag) : Sp := fun vs H Q _ => ∃ (v : V) (k : String) (lo hi : Int), vs = [v, .int lo, .int hi] ∧ Knd K H v k ∧ k ≠ "int" ∧ Q (.bl false) H
theorem ok_withinO {f fI : Addr} {fd fdI : FuncData} (F : Fun K "is_within" "is_within" sIsWithin f fd) (G : DefAt P w K mg base CX0 1 "is_integer" ["value"] (spIsInt K) fI fdI) : FnOk P w K mg base CX0 2 f fd ["value", "least", "most"] (spWithinO K) := by
  refine F.ok scWithin (fun vs H Q E h => ?_) (fun cdv A outer s H vs Q E hr h => ?_)
  · obtain ⟨v, k, lo, hi, rfl, _⟩ := h
    rfl
  · refine ⟨_, pss_cons (ps_if (pt_not (pt_val (pe_call G.ok hr rfl G.g G.kp G.b .nil pass0 (pa_cons (pv 0) pa_nil)))) (pss_one (ps_ret pe_bl)) pss_nil) (pss_one ps_never), ?_⟩
    obtain ⟨v, k, lo, hi, rfl, hk, nk, q⟩ := h
    refine ⟨_, rfl, v, k, rfl, hk, _, rfl, ?_⟩
    rw [decide_eq_false nk]
    exact iteT q
/-- a value, of a kind, that is an int just if the kind says so -/
def KndI (K : PySem.W.Frag) (H : Hp) (v : V) (k : String) : Prop := Knd K H v k ∧ (k = "int" → ∃ i, v = .int i)
def spWithinG (K : PySem.W.Frag) : Sp := fun vs H Q _ => ∃ (v : V) (k : String) (lo hi : Int), vs = [v, .int lo, .int hi] ∧ KndI K H v k ∧ Q (.bl (winB k lo hi v)) H
theorem ok_withinG {f fI : Addr} {fd fdI : FuncData} (F : Fun K "is_within" "is_within" sIsWithin f fd) (G : DefAt P w K mg base CX0 1 "is_integer" ["value"] (spIsInt K) fI fdI) : FnOk P w K mg base CX0 2 f fd ["value", "least", "most"] (spWithinG K) := by
  refine (fn_or (ok_within F G) (ok_withinO F G)).imp fun vs H Q E h => ?_
  obtain ⟨v, k, lo, hi, rfl, ⟨hk, hi'⟩, q⟩ := h
  by_cases c : k = "int"
  · obtain ⟨i, rfl⟩ := hi' c
    refine .inl ⟨i, lo, hi, rfl, ?_⟩
    unfold winB at q
    rw [decide_eq_true c, Bool.true_and] at q
    exact q
  · refine .inr ⟨v, k, lo, hi, rfl, hk, c, ?_⟩
    unfold winB at q
    rw [decide_eq_false c, Bool.false_and] at q
    exact q
/-! ### want_number of anything -/
theorem madeL2 {C l : Addr} {E : XK} {H : Hp} {ls : List Int} {R : Addr → VK} (hs : H l = some (.lst (ls.map V.int))) (l3 : 3 ≤ ls.length) (l8 : ls.length ≤ 8) (bd : Bd 1000000 ls) (h : ∀ r H', RingAt K C H' r ls → Same H H' → H r = none → R r .non H') :
    ∀ x dx, H x = none → H dx = none → dx ≠ x → spRI K C (.ref x :: ([.ref l] ++ [])) (upd (upd H dx (.own x)) x (.ins C dx [])) (R x) E := by
  intro x dx hx hdx _
  have s0 : Same H (upd (upd H dx (.own x)) x (.ins C dx [])) := fun b o q => by
    rw [upd_ne (ne_of_none q hx), upd_ne (ne_of_none q hdx)]
    exact q
  exact ⟨x, l, dx, ls, rfl, upd_same, ⟨.base (.lst (s0 _ _ hs)), by decide⟩, SqL.of (s0 _ _ hs), l3, l8, bd, fun H' ring kp => h x H' ring (fun b o e => kp b o (s0 b o e) (ne_of_none e hx)) hx⟩
/-- the making of a Ring of a right list -/
structure RingP (P : Program) (w : World) (K : PySem.W.Frag) (mg : Str → Option Value) (base : Heap) (C fI : Addr) (fdI : FuncData) : Prop where
  made : Mk K C fI
  ok : FnOk P w K mg base CX0 4 fI fdI ["self", "lengths"] (spRI K C)
  b : Binds K fdI ["self", "lengths"] []
theorem sl_to {a : Addr} {ls : List Int} {i : Nat} {H : Hp} {Q : VK} (hs : SqT K H a (ls.map V.int)) (hi : i < ls.length) (k : ∀ t, H t = none → Q (.ref t) (upd H t (.tup ((ls.take i).map V.int)))) : rSlA K (.ref a) none (some (i : Int)) H Q := by
  refine ⟨a, _, rfl, hs, fun ⟨_, e2⟩ => ?_, fun _ p hp => ?_⟩
  · rw [HT.sIx_nat, List.length_map] at e2
    omega
  · rw [cutV_to, ← List.map_take]
    exact k p hp
theorem sl_from {a : Addr} {ls : List Int} {z : Int} {i : Nat} {H : Hp} {Q : VK} (hs : SqT K H a (ls.map V.int)) (hz : z = ((i + 1 : Nat) : Int)) (h0 : 0 < ls.length) (k : ∀ t, H t = none → Q (.ref t) (upd H t (.tup ((ls.drop (i + 1)).map V.int)))) : rSlA K (.ref a) (some z) none H Q := by
  refine ⟨a, _, rfl, hs, fun ⟨e1, _⟩ => ?_, fun _ p hp => ?_⟩
  · subst hz
    rw [HT.sIx_nat, List.length_map] at e1
    omega
  · rw [cut_from _ hz, ← List.map_drop]
    exact k p hp
theorem catI {a b : Addr} {xs ys : List Int} {H : Hp} {Q : VK} (ha : H a = some (.tup (xs.map V.int))) (hb : H b = some (.tup (ys.map V.int))) (hl : xs.length + ys.length ≤ 1000) (k : ∀ t H', H' t = some (.tup ((xs ++ ys).map V.int)) → Same H H' → Q (.ref t) H') : rCatA K (.ref a) (.ref b) H Q := by
  refine ⟨a, b, _, _, rfl, rfl, .inl (.inl ha), .inl (.inl hb), by rw [List.length_map, List.length_map]; exact Nat.le_of_lt (sm (by omega)), fun e => k b H ?_ (Same.refl H), fun _ e => k a H ?_ (Same.refl H), fun _ _ p hp => k p _ ?_ ((Same.refl H).new hp)⟩
  · rw [List.map_eq_nil_iff.mp e]; exact hb
  · rw [List.map_eq_nil_iff.mp e, List.append_nil]; exact ha
  · rw [upd_same, List.map_append]
end
end K
namespace K
open PySem L2 Rg
open Evl (pss_cut)
/-! ### strands of bars, each with a sign -/
abbrev Strd := List (Int × Int)
def net (ls : List Int) (st : Strd) : Int := (st.map fun q => ls.getD q.1.toNat 0 * q.2).sum
theorem walk_any {J : It} {n : Nat} {G : Hp → Prop} {Y : Nat → Hp → V → Hp → Prop} (w : Walk J n G Y) {T : V → Hp → (Hp → Prop) → Prop} {H0 : Hp} {Qd : Hp → Prop} (Pv : Nat → Hp → Prop) (h0 : Pv 0 H0) (hG : ∀ i H, i ≤ n → Pv i H → G H)
    (hs : ∀ i x H H', i < n → Pv i H → Y i H x H' → T x H' (Pv (i + 1))) (hd : ∀ H, Pv n H → Qd H) :
    ∃ W : Nat → Nat → Hp → Prop, (∃ m, W 0 m H0) ∧ ∀ i m H, W i m H →
      (J.stop i H ∧ Qd H) ∨ (J.go i H ∧ ∃ Nx : Hp → Prop, (∀ H', Nx H' → ∃ m', m' < m ∧ W (i + 1) m' H') ∧ ∀ x H', J.yld i H x H' → T x H' Nx) := by
  refine ⟨fun i m H => m = n - i ∧ i ≤ n ∧ Pv i H, ⟨n, by simp, Nat.zero_le _, h0⟩, ?_⟩
  rintro i m H ⟨rfl, hi, p⟩
  have q := hG i H hi p
  by_cases hlt : i < n
  · exact .inr ⟨w.goes i H hlt q, Pv (i + 1), fun H' p' => ⟨n - (i + 1), by omega, rfl, hlt, p'⟩, fun x H' y => hs i x H H' hlt p (w.yields i H x H' hlt q y)⟩
  · have e : i = n := by omega
    subst e
    exact .inl ⟨w.stops H q, hd H p⟩
theorem par_imp {α β : Type} {R S : α → β → Prop} (i : ∀ a b, R a b → S a b) : ∀ {xs : List α} {ys : List β}, Paired R xs ys → Paired S xs ys
  | _, _, .nil => .nil
  | _, _, .cons h t => .cons (i _ _ h) (par_imp i t)
theorem par_app {α β : Type} {R : α → β → Prop} : ∀ {xs : List α} {ys : List β} {zs : List α} {ws : List β}, Paired R xs ys → Paired R zs ws → Paired R (xs ++ zs) (ys ++ ws)
  | _, _, _, _, .nil, q => q
  | _, _, _, _, .cons h t, q => .cons h (par_app t q)
theorem par_len {α β : Type} {R : α → β → Prop} : ∀ {xs : List α} {ys : List β}, Paired R xs ys → xs.length = ys.length
  | _, _, .nil => rfl
  | _, _, .cons _ t => congrArg (· + 1) (par_len t)
theorem par_get {α β : Type} {R : α → β → Prop} : ∀ {xs : List α} {ys : List β}, Paired R xs ys → ∀ {i : Nat} {x : α}, xs[i]? = some x → ∃ y, ys[i]? = some y ∧ R x y
  | _, _, .cons h t, 0, x, e => ⟨_, rfl, by cases e; exact h⟩
  | _, _, .cons h t, i + 1, x, e => par_get t (by simpa using e)
theorem par_take {α β : Type} {R : α → β → Prop} : ∀ (n : Nat) {xs : List α} {ys : List β}, Paired R xs ys → Paired R (xs.take n) (ys.take n)
  | 0, _, _, _ => by rw [List.take_zero, List.take_zero]; exact .nil
  | n + 1, _, _, .nil => .nil
  | n + 1, _, _, .cons h t => .cons h (par_take n t)
theorem par_drop {α β : Type} {R : α → β → Prop} : ∀ (n : Nat) {xs : List α} {ys : List β}, Paired R xs ys → Paired R (xs.drop n) (ys.drop n)
  | 0, _, _, h => h
  | n + 1, _, _, .nil => .nil
  | n + 1, _, _, .cons h t => par_drop n t
def rLenS (K : PySem.W.Frag) : List V → Hp → VK → Prop := fun xs H Q => ∃ p ys, xs = [.ref p] ∧ (SqL K H p ys ∨ SqT K H p ys) ∧ Q (.int ys.length) H
/-! ### pairs, strands, ways in the heap -/
def SPat (H : Hp) (v : V) (q : Int × Int) : Prop := ∃ a, v = .ref a ∧ H a = some (.tup [.int q.1, .int q.2])
def SSat (H : Hp) (v : V) (s : Strd) : Prop := ∃ a xs, v = .ref a ∧ H a = some (.tup xs) ∧ Paired (SPat H) xs s
def SWat (H : Hp) (v : V) (w : List Strd) : Prop := ∃ a xs, v = .ref a ∧ H a = some (.tup xs) ∧ Paired (SSat H) xs w
theorem SPat.same {H H' : Hp} {v : V} {q : Int × Int} (h : SPat H v q) (s : Same H H') : SPat H' v q := let ⟨a, e, z⟩ := h; ⟨a, e, s _ _ z⟩
theorem SSat.same {H H' : Hp} {v : V} {q : Strd} (h : SSat H v q) (s : Same H H') : SSat H' v q := let ⟨a, xs, e, z, p⟩ := h; ⟨a, xs, e, s _ _ z, par_imp (fun _ _ k => k.same s) p⟩
theorem SWat.same {H H' : Hp} {v : V} {q : List Strd} (h : SWat H v q) (s : Same H H') : SWat H' v q := let ⟨a, xs, e, z, p⟩ := h; ⟨a, xs, e, s _ _ z, par_imp (fun _ _ k => k.same s) p⟩
/-- a list grows: what was tracked but the list stands -/
theorem SPat.mut {H : Hp} {D : Addr} {us ws : List V} {v : V} {q : Int × Int} (h : SPat H v q) (hD : H D = some (.lst us)) : SPat (upd H D (.lst ws)) v q := by
  obtain ⟨a, e, z⟩ := h
  exact ⟨a, e, by rw [upd_ne fun k => by rw [k, hD] at z; cases z]; exact z⟩
theorem SSat.mut {H : Hp} {D : Addr} {us ws : List V} {v : V} {q : Strd} (h : SSat H v q) (hD : H D = some (.lst us)) : SSat (upd H D (.lst ws)) v q := by
  obtain ⟨a, xs, e, z, p⟩ := h
  exact ⟨a, xs, e, by rw [upd_ne fun k => by rw [k, hD] at z; cases z]; exact z, par_imp (fun _ _ k => k.mut hD) p⟩
theorem SWat.mut {H : Hp} {D : Addr} {us ws : List V} {v : V} {q : List Strd} (h : SWat H v q) (hD : H D = some (.lst us)) : SWat (upd H D (.lst ws)) v q := by
  obtain ⟨a, xs, e, z, p⟩ := h
  exact ⟨a, xs, e, by rw [upd_ne fun k => by rw [k, hD] at z; cases z]; exact z, par_imp (fun _ _ k => k.mut hD) p⟩
section
variable {P : Program} {w : World} {K : PySem.W.Frag} {mg : Str → Option Value} {base : Heap}
theorem catV {a b : Addr} {xs ys : List V} {H : Hp} {Q : VK} (ha : H a = some (.tup xs)) (hb : H b = some (.tup ys)) (hl : xs.length + ys.length ≤ 1000) (k : ∀ t H', H' t = some (.tup (xs ++ ys)) → Same H H' → Q (.ref t) H') : rCatA K (.ref a) (.ref b) H Q := by
  refine ⟨a, b, _, _, rfl, rfl, .inl (.inl ha), .inl (.inl hb), Nat.le_of_lt (sm (by omega)), fun e => k b H ?_ (Same.refl H), fun _ e => k a H ?_ (Same.refl H), fun _ _ p hp => k p _ upd_same ((Same.refl H).new hp)⟩
  · rw [e]; exact hb
  · rw [e, List.append_nil]; exact ha
theorem sIx_le (n : Nat) (z : Int) (h : n ≤ z.toNat) (h0 : 0 ≤ z) (d : Nat) : HT.sIx n d (some z) = n := by
  obtain ⟨k, rfl⟩ := Int.eq_ofNat_of_zero_le h0
  rw [HT.sIx_nat]
  simp at h
  omega
theorem slTo {a : Addr} {xs : List V} {i : Nat} {H : Hp} {Q : VK} (ha : H a = some (.tup xs)) (k : ∀ t H', H' t = some (.tup (xs.take i)) → Same H H' → Q (.ref t) H') : rSlA K (.ref a) none (some (i : Int)) H Q := by
  refine ⟨a, xs, rfl, .inl (.inl ha), fun ⟨_, e⟩ => k a H ?_ (Same.refl H), fun _ p hp => k p _ ?_ ((Same.refl H).new hp)⟩
  · rw [HT.sIx_nat] at e
    rw [List.take_of_length_le (by omega)]
    exact ha
  · rw [upd_same, cutV_to]
theorem slFrom {a : Addr} {xs : List V} {i : Nat} {H : Hp} {Q : VK} (ha : H a = some (.tup xs)) (k : ∀ t H', H' t = some (.tup (xs.drop i)) → Same H H' → Q (.ref t) H') : rSlA K (.ref a) (some (i : Int)) none H Q := by
  refine ⟨a, xs, rfl, .inl (.inl ha), fun ⟨e, _⟩ => k a H ?_ (Same.refl H), fun _ p hp => k p _ ?_ ((Same.refl H).new hp)⟩
  · rw [HT.sIx_nat] at e
    rcases Nat.eq_zero_or_pos i with z | z
    · rw [z]; exact ha
    · have : xs.length = 0 := by omega
      rw [List.eq_nil_of_length_eq_zero this, List.drop_nil]
      rw [List.eq_nil_of_length_eq_zero this] at ha
      exact ha
  · rw [upd_same, cut_from xs rfl]
end
/-- what a pair holds -/
def pk (H : Hp) (x : V) : Int × Int := match x with
  | .ref a => (match H a with
    | some (.tup [.int i, .int j]) => (i, j)
    | _ => (0, 0))
  | _ => (0, 0)
theorem pk_at {H : Hp} {v : V} {q : Int × Int} (h : SPat H v q) : pk H v = q := by
  obtain ⟨a, rfl, h⟩ := h
  show (match H a with
    | some (.tup [.int i, .int j]) => (i, j)
    | _ => ((0 : Int), (0 : Int))) = q
  rw [h]
theorem pk_map {H : Hp} : ∀ {xs : List V} {st : Strd}, Paired (SPat H) xs st → xs.map (pk H) = st
  | _, _, .nil => rfl
  | _, _, .cons h t => by rw [List.map_cons, pk_at h, pk_map t]
theorem par_mem {α β : Type} {R : α → β → Prop} : ∀ {xs : List α} {ys : List β}, Paired R xs ys → ∀ {x : α}, x ∈ xs → ∃ y ∈ ys, R x y
  | _, _, .cons h t, x, e => by
    rcases List.mem_cons.mp e with rfl | e
    · exact ⟨_, List.mem_cons_self .., h⟩
    · obtain ⟨y, hy, r⟩ := par_mem t e
      exact ⟨y, List.mem_cons_of_mem _ hy, r⟩
theorem sorted_eqI {a b : List Int} (p : a.Perm b) (ha : a.Pairwise (· ≤ ·)) (hb : b.Pairwise (· ≤ ·)) : a = b := List.Perm.eq_of_pairwise (fun x y _ _ h1 h2 => Int.le_antisymm h1 h2) ha hb p
def rngI (n : Nat) : List Int := (List.range n).map fun j : Nat => (j : Int)
theorem rngI_sorted (n : Nat) : (rngI n).Pairwise (· ≤ ·) := by
  refine List.pairwise_map.mpr (List.Pairwise.imp (fun {a b} h => ?_) List.pairwise_lt_range)
  omega
theorem rngI_len (n : Nat) : (rngI n).length = n := by unfold rngI; rw [List.length_map, List.length_range]
theorem rgV_rngI (n : Nat) : rgV 0 (n : Int) = (rngI n).map V.int := by
  unfold rgV rngI
  rw [List.map_map, Int.sub_zero, Int.toNat_natCast]
  refine List.map_congr_left fun j _ => ?_
  show V.int (0 + (j : Int)) = V.int (j : Int)
  rw [Int.zero_add]
def flatB (way : List Strd) : List Int := way.flatMap fun st => st.map (·.1)
def goodS (st : Strd) : Prop := st ≠ [] ∧ st.length ≤ 8 ∧ ∀ q ∈ st, q.2 = 1 ∨ q.2 = -1
structure goodV (n : Nat) (way : List Strd) : Prop where
  st : ∀ s ∈ way, goodS s
  ln : way.length ≤ 8
  pm : (flatB way).Perm (rngI n)
/-- strands told as lists of pairs, in a list -/
def LSt (H : Hp) (v : V) (s : Strd) : Prop := ∃ a xs, v = V.ref a ∧ H a = some (.lst xs) ∧ Paired (SPat H) xs s
def LWy (H : Hp) (v : V) (w : List Strd) : Prop := ∃ a xs, v = V.ref a ∧ H a = some (.lst xs) ∧ Paired (LSt H) xs w
theorem LSt.same {H H' : Hp} {v : V} {q : Strd} (h : LSt H v q) (s : Same H H') : LSt H' v q := let ⟨a, xs, e, z, p⟩ := h; ⟨a, xs, e, s _ _ z, par_imp (fun _ _ k => k.same s) p⟩
theorem LWy.same {H H' : Hp} {v : V} {q : List Strd} (h : LWy H v q) (s : Same H H') : LWy H' v q := let ⟨a, xs, e, z, p⟩ := h; ⟨a, xs, e, s _ _ z, par_imp (fun _ _ k => k.same s) p⟩
section
variable {P : Program} {w : World} {K : PySem.W.Frag} {mg : Str → Option Value} {base : Heap}
def spIS (K : PySem.W.Frag) : Sp := fun vs H Q _ => ∃ (v : V) (st : Strd), vs = [v] ∧ LSt H v st ∧ goodS st ∧ ∀ H', Same H H' → Q (.bl true) H'
abbrev nIS : List Str := ["value", "pair"]
theorem scIS : FnScope nIS ["value"] (defScope sIsStrand) := ⟨rfl, rfl, rfl, by decide +kernel, rfl, by decide +kernel, by decide +kernel⟩
theorem ok_is {f fL fN : Addr} {fd fdL fdN : FuncData} (F : Fun K "is_strand" "is_strand" sIsStrand f fd) (T : Bi mg) (L : DefAt P w K mg base CX0 1 "is_list" ["value"] (spIsList K) fL fdL) (NT : DefAt P w K mg base CX0 2 "is_numbers" ["value"] (spNumsT K) fN fdN) : FnOk P w K mg base CX0 3 f fd ["value"] (spIS K) := by
  refine F.ok scIS (fun vs H Q E h => ?_) (fun cdv A outer s H vs Q E hr h => ?_)
  · obtain ⟨v, q, rfl, _⟩ := h
    rfl
  · have nd := scIS.nd
    refine ⟨_, pss_cons (ps_if (PW.pt (pw_or (pt_not (pt_val (pe_call L.ok (hr.mono (by decide)) rfl L.g L.kp L.b .nil pass0 (pa_cons (pv 0) pa_nil)))) (pw_or1 (pt_cmpR op_eq (pe_callB call_len_seq (by rfl) T.len PySem.boot_len (pa_cons (pv 0) pa_nil)) pe_int (nomark _))))) (pss_one ps_never) pss_nil)
      (pss_one (ps_ret (pe_callB (cr_all rfl) (by rfl) T.all (by decide +kernel) (pa_cons (pe_lc (own := [("pair", 1)]) (g := gName 1) (tt := tYes) (te := tAndV (tCall (spNumsT K) [] E0 (tCons (tVar 1) tNil)) (tAndV (tOp rEq (tCB (rLenS K) (tCons (tVar 1) tNil)) (tC (.int 2))) (tOp (rIn K false) (tOp (rIxT K) (tVar 1) (tC (.int 1))) (tTup (tCons (tC (.int 1)) (tCons (tUn (rU fun i => .int (-i)) (tC (.int 1))) tNil)))))) rfl nd (pi_list (pv 0))
        (blkOk_by (N := nIS) (sc := defScope sIsStrand) (by decide +kernel)) (fun _ _ _ _ _ => pg_name (i := 1) nd rfl (Or.inl rfl)) (fun _ _ _ _ _ => pts_nil)
        (fun _ _ _ _ _ => pe_and (pe_call NT.ok hr rfl NT.g NT.kp NT.b .nil pass0 (pa_cons (pv 1) pa_nil)) (pe_and (pe_cmpR op_eq (pe_callB (r := rLenS K) call_len_seq (by rfl) T.len PySem.boot_len (pa_cons (pv 1) pa_nil)) pe_int (nomark _)) (pe_one (pe_cmpR op_in_seq (pe_ix (r := rIxT K) ix_tup (pv 1) pe_int (fun _ _ => rfl)) (pe_tup (pa_cons pe_int (pa_cons (pe_un un_neg pe_int) pa_nil))) (by rfl)))))) pa_nil)))), ?_⟩
    obtain ⟨v, st, rfl, ⟨a, xs, rfl, ha, px⟩, ⟨ne, l8, sg⟩, k⟩ := h
    refine ⟨_, rfl, _, "list", rfl, ⟨.base (.lst ha), by decide⟩, fun H1 s1 => ⟨_, rfl, iteF ?_⟩⟩
    have ha1 := s1 _ _ ha
    have xl : xs.length = st.length := par_len px
    have x0 : xs.length ≠ 0 := fun z => ne (List.eq_nil_of_length_eq_zero (by omega))
    refine ⟨_, rfl, a, _, rfl, .inl (SqL.of ha1), rfl, _, rfl, ?_⟩
    rw [dec_int, decide_eq_false (show ¬ ((xs.length : Int) = 0) by omega)]
    refine iteF ?_
    refine ⟨_, rfl, a, rfl, ⟨_, SqL.of ha1⟩, fun D hD => ?_⟩
    refine lc_list (K := K) (a := a) (xs := xs) (fun j H' => Same H1 H' ∧ ∃ bs : List Bool, (∀ b ∈ bs, b = true) ∧ bs.length ≤ j ∧ H' D = some (.lst (bs.map V.bl))) ⟨(Same.refl H1).new hD, [], (fun b hb => nomatch hb), Nat.le_refl _, upd_same⟩ (fun j H' _ r => SqL.of (r.1 _ _ ha1)) ?_ ?_
    · rintro j y H' hj ⟨s2, bs, b1, b2, h2⟩
      have hjl : j < xs.length := (List.getElem?_eq_some_iff.mp hj).1
      obtain ⟨q, hq, b, rfl, hb⟩ := par_get px hj
      have hb2 := s2 _ _ (s1 _ _ hb)
      refine ⟨rfl, _, rfl, b, [.int q.1, .int q.2], fun _ => "int", rfl, ⟨.base (.tup hb2), by decide⟩, .inl (.inl hb2), (by show 2 ≤ 1000; decide), fun x hx => ?_, fun H3 s3 => ⟨_, rfl, ?_⟩⟩
      · rcases List.mem_cons.mp hx with rfl | hx
        · exact Knd.int
        · rw [List.mem_singleton.mp hx]
          exact Knd.int
      have hb3 := s3 _ _ hb2
      have h3 := s3 _ _ h2
      refine iteBT (by simp) ⟨_, rfl, b, _, rfl, .inr (.inl (.inl hb3)), rfl, _, rfl, ?_⟩
      refine iteBT (by simp) ⟨_, rfl, b, _, _, _, rfl, rfl, .inl (.inl hb3), (rfl : atI [V.int q.1, V.int q.2] 1 = some (.int q.2)), 1, rfl, (by show 2 ≤ sizeLine; decide), fun c nc => ?_⟩
      have s4 : Same H3 (upd H3 c (.tup [.int 1, .int (-1)])) := (Same.refl H3).new nc
      refine ⟨c, ([1, -1] : List Int).map V.int, rfl, .inr (.inl (.inl upd_same)), rfl, flat_ints [1, -1], _, s4 _ _ h3, ?_, ((s2.trans s3).trans s4).mut hD, bs ++ [true], fun z hz => ?_, by rw [List.length_append]; exact Nat.succ_le_succ b2, ?_⟩
      · rw [List.length_map]
        exact sm (by omega)
      · rcases List.mem_append.mp hz with m | m
        · exact b1 z m
        · exact List.mem_singleton.mp m
      · have iv : inV (.int q.2) (([1, -1] : List Int).map V.int) = true := by
          rcases sg q (List.mem_of_getElem? hq) with e | e <;> rw [e] <;> decide
        rw [upd_same, List.map_append]
        show some (HO.lst (bs.map V.bl ++ [V.bl (inV (.int q.2) (([1, -1] : List Int).map V.int))])) = _
        rw [iv]
        rfl
    rintro H2 ⟨s2, bs, b1, b2, h2⟩
    refine ⟨D, bs, rfl, SqL.of h2, ?_⟩
    rw [all_true b1]
    exact k H2 (s1.trans s2)
def spAre (K : PySem.W.Frag) : Sp := fun vs H Q _ => ∃ (v : V) (way : List Strd) (n : Nat), vs = [v] ∧ LWy H v way ∧ goodV n way ∧ 3 ≤ n ∧ n ≤ 8 ∧ ∀ H', Same H H' → Q (.bl true) H'
abbrev nAre : List Str := ["value", "bars", "strand", "pair"]
theorem scAre : FnScope nAre ["value"] (defScope sAreStrands) := ⟨rfl, rfl, rfl, by decide +kernel, rfl, by decide +kernel, by decide +kernel⟩
theorem ok_are {f fL fS : Addr} {fd fdL fdS : FuncData} (F : Fun K "are_strands" "are_strands" sAreStrands f fd) (T : Bi mg) (N : Nm mg) (L : DefAt P w K mg base CX0 1 "is_list" ["value"] (spIsList K) fL fdL) (IS : DefAt P w K mg base CX0 3 "is_strand" ["value"] (spIS K) fS fdS) : FnOk P w K mg base CX0 4 f fd ["value"] (spAre K) := by
  refine F.ok scAre (fun vs H Q E h => ?_) (fun cdv A outer s H vs Q E hr h => ?_)
  · obtain ⟨v, way, n, rfl, _⟩ := h
    rfl
  · have nd := scAre.nd
    obtain ⟨t3, h3⟩ := N.leastB
    obtain ⟨t8, h8⟩ := N.mostB
    refine ⟨_, pss_cons (ps_if (PW.pt (pw_or (pt_not (pt_val (pe_call L.ok (hr.mono (by decide)) rfl L.g L.kp L.b .nil pass0 (pa_cons (pv 0) pa_nil)))) (pw_or1 (pt_not (pt_val (pe_callB (cr_all rfl) (by rfl) T.all (by decide +kernel) (pa_cons (pe_lc (own := [("strand", 2)]) (g := gName 2) (tt := tYes) rfl nd (pi_list (pv 0))
          (blkOk_by (N := nAre) (sc := defScope sAreStrands) (by decide +kernel)) (fun _ _ _ _ _ => pg_name (i := 2) nd rfl (Or.inl rfl)) (fun _ _ _ _ _ => pts_nil) (fun _ _ _ _ _ => pe_call IS.ok hr rfl IS.g IS.kp IS.b .nil pass0 (pa_cons (pv 2) pa_nil))) pa_nil))))))) (pss_one ps_never) pss_nil)
      (pss_cons (ps_set (i := 1) nd rfl (Or.inl rfl) (pe_callB cr_sortedI (by rfl) T.sorted (by decide +kernel) (pa_cons (pe_lc2 (own := [("strand", 2), ("pair", 3)]) (vs1 := [3]) (g := gName 2) (g1 := gName 3) (tt := tYes) (tt1 := tYes) (wi1 := iList K (tVar 2)) (te := tOp (rIxT K) (tVar 3) (tC (.int 0))) rfl nd (pi_list (pv 0)) (blkOk_by (N := nAre) (sc := defScope sAreStrands) (by decide +kernel)) (by decide)
          (fun _ _ _ _ _ => pg_name (i := 2) nd rfl (Or.inl rfl)) (fun _ _ _ _ _ => pts_nil) (fun _ _ _ _ _ => pi_list (pv 2)) (fun _ _ _ _ _ => pg_name (i := 3) nd rfl (Or.inl rfl)) (fun _ _ _ _ _ => pts_nil) (fun _ _ _ _ _ => pe_ix (r := rIxT K) ix_tup (pv 3) pe_int (fun _ _ => rfl))) pa_nil)))
      (pss_one (ps_ret (pe_and (pe_chain op_le op_le (pe_glob (v := .int 3) rfl h3 ⟨_, rfl⟩) (pe_callB call_len_seq (by rfl) T.len PySem.boot_len (pa_cons (pv 1) pa_nil)) (pe_glob (v := .int 8) rfl h8 ⟨_, rfl⟩)) (pe_one (pe_cmpR (op_eqD hr.units) (pv 1) (pe_listRg rfl (by rfl) T.list (prg_1 (by rfl) T.range (pe_callB call_len_seq (by rfl) T.len PySem.boot_len (pa_cons (pv 1) pa_nil)))) (nomark _))))))), ?_⟩
    obtain ⟨v, way, n, rfl, ⟨a, xs, rfl, ha, px⟩, gw, n3, n8, k⟩ := h
    refine ⟨_, rfl, _, "list", rfl, ⟨.base (.lst ha), by decide⟩, fun H1 s1 => ⟨_, rfl, iteF ?_⟩⟩
    have ha1 := s1 _ _ ha
    have xl : xs.length = way.length := par_len px
    have x8 := gw.ln
    refine ⟨_, rfl, a, rfl, ⟨_, SqL.of ha1⟩, fun D hD => ?_⟩
    refine lc_list (K := K) (a := a) (xs := xs) (fun j H' => Same H1 H' ∧ ∃ bs : List Bool, (∀ b ∈ bs, b = true) ∧ bs.length ≤ j ∧ H' D = some (.lst (bs.map V.bl))) ⟨(Same.refl H1).new hD, [], (fun b hb => nomatch hb), Nat.le_refl _, upd_same⟩ (fun j H' _ r => SqL.of (r.1 _ _ ha1)) ?_ ?_
    · rintro j y H' hj ⟨s2, bs, b1, b2, h2⟩
      have hjl : j < xs.length := (List.getElem?_eq_some_iff.mp hj).1
      obtain ⟨st, hst, rs⟩ := par_get px hj
      refine ⟨rfl, _, rfl, y, st, rfl, rs.same (s1.trans s2), gw.st st (List.mem_of_getElem? hst), fun H3 s3 => ⟨_, s3 _ _ h2, ?_, (s2.trans s3).mut hD, bs ++ [true], fun z hz => ?_, by rw [List.length_append]; exact Nat.succ_le_succ b2, ?_⟩⟩
      · rw [List.length_map]
        exact sm (by omega)
      · rcases List.mem_append.mp hz with m | m
        · exact b1 z m
        · exact List.mem_singleton.mp m
      · rw [upd_same, List.map_append]
        rfl
    rintro H2 ⟨s2, bs, b1, b2, h2⟩
    refine ⟨D, bs, rfl, SqL.of h2, ?_⟩
    rw [all_true b1]
    refine ⟨_, rfl, iteF ?_⟩
    have s02 := s1.trans s2
    have ha2 := s02 _ _ ha
    -- the bars
    have fl : ∀ j, (flatB (way.take j)).length ≤ 64 := fun j => by
      have e : flatB way = flatB (way.take j) ++ flatB (way.drop j) := by
        unfold flatB
        rw [← List.flatMap_append, List.take_append_drop]
      have l := gw.pm.length_eq
      rw [e, List.length_append, rngI_len] at l
      omega
    refine ⟨_, rfl, a, rfl, ⟨_, SqL.of ha2⟩, fun D3 hD3 => ?_⟩
    refine walk_any walk_list (fun j H' => Same H2 H' ∧ H' D3 = some (.lst ((flatB (way.take j)).map V.int))) ⟨(Same.refl H2).new hD3, upd_same⟩ (fun j H' _ q => SqL.of (q.1 _ _ ha2)) ?_ ?_
    · rintro j x H' H'' hj ⟨s3, h3'⟩ ⟨rfl, hx⟩
      obtain ⟨st, hst, sa, ys, rfl, hsa, py⟩ := par_get px hx
      have hsa3 := s3 _ _ (s02 _ _ hsa)
      have st8 := (gw.st st (List.mem_of_getElem? hst)).2.1
      have fj := fl j
      refine ⟨rfl, _, rfl, sa, rfl, ⟨_, SqL.of hsa3⟩, ?_⟩
      refine walk_any walk_list (fun i H4 => Same H2 H4 ∧ H4 D3 = some (.lst ((flatB (way.take j) ++ (st.take i).map (·.1)).map V.int))) ⟨s3, by rw [List.take_zero, List.map_nil, List.append_nil]; exact h3'⟩ (fun i H4 _ q => SqL.of (q.1 _ _ (s02 _ _ hsa))) ?_ ?_
      · rintro i y H4 H5 hi ⟨s4, h4⟩ ⟨rfl, hy⟩
        obtain ⟨q, hq, b, rfl, hb⟩ := par_get py hy
        have hil : i < st.length := (List.getElem?_eq_some_iff.mp hq).1
        refine ⟨rfl, _, rfl, b, _, _, _, rfl, rfl, .inl (.inl (s4 _ _ (s02 _ _ hb))), (rfl : atI [V.int q.1, V.int q.2] 0 = some (.int q.1)), _, h4, ?_, s4.mut hD3, ?_⟩
        · rw [List.length_map, List.length_append, List.length_map, List.length_take]
          exact sm (by omega)
        · rw [upd_same, ← take_snoc hq, List.map_append, List.map_append, List.map_append, List.map_append]
          simp
      · rintro H4 ⟨s4, h4⟩
        refine ⟨s4, ?_⟩
        rw [par_len py, List.take_length] at h4
        rw [h4, ← take_snoc hst]
        unfold flatB
        rw [List.flatMap_append]
        simp
    rintro H3 ⟨s3, h3'⟩
    rw [xl, List.take_length] at h3'
    refine ⟨D3, _, rfl, SqL.of h3', fun ns p pmN odN np => ?_⟩
    have e : ns = rngI n := sorted_eqI (pmN.trans gw.pm) odN (rngI_sorted n)
    subst e
    have s4 : Same H3 (upd H3 p (.lst ((rngI n).map V.int))) := (Same.refl H3).new np
    have hp : upd H3 p (.lst ((rngI n).map V.int)) p = some (.lst ((rngI n).map V.int)) := upd_same
    generalize upd H3 p (.lst ((rngI n).map V.int)) = H4 at s4 hp ⊢
    refine ⟨_, rfl, p, _, rfl, .inl (SqL.of hp), _, _, rfl, rfl, _, rfl, ?_⟩
    rw [List.length_map, rngI_len]
    refine iteDT (by omega) ⟨_, _, rfl, rfl, _, rfl, ?_⟩
    refine iteDT (by omega) ?_
    refine ⟨_, rfl, _, rfl, p, _, rfl, .inl (SqL.of hp), ?_⟩
    rw [List.length_map, rngI_len]
    refine ⟨_, rfl, RgOk.of_le (by omega) (by omega) (by omega) (by omega), fun r nr => ?_⟩
    rw [rgV_rngI]
    have s5 : Same H4 (upd H4 r (.lst ((rngI n).map V.int))) := (Same.refl H4).new nr
    refine ⟨_, _, .lst (SqL.of (s5 _ _ hp)) (dp_ints _), .lst (SqL.of upd_same) (dp_ints _), shaped_ints _, shaped_ints _, ?_⟩
    rw [eqvA_pd, decide_eq_true rfl]
    exact k _ (((s02.trans s3).trans s4).trans s5)
end
end K
/-! x.__class__.__name__, x an instance of an own class -/
namespace Rg
open PySem PySem.Spec PyProof.Rows L2 Builtin Builtin.ObjectAttr Builtin.Getset_descriptor
/-- the class at C is called nm, and its name was read before the call -/
structure NamC (K : PySem.W.Frag) (C : Addr) (nm : Str) : Prop where
  rd : PySem.W.readsIn K C (.type "type") = true
  at_ : PySem.W.findCls K (.ref C) (.type "type") "__name__" = some (.get (.builtin "getset_descriptor.__get__") (.builtin "type.__name__") (.ref C) (.type "type"))
  ty : PySem.W.typeIn K (.ref C) = some (.type "type")
  sl : ∃ o t, K.lookup C = some o ∧ o.slots[2]? = some (some (.str nm t))
section
open PySem.W
variable {prog : Program} {w : World} {A : Around} {E : Value → Shared → Prop} {s : Shared} {K : Frag} {R : Result → Shared → Prop} {C : Addr} {o : Obj} {v : Value}
theorem name_get {tp : Value} (X : K.In s.heap) (ht : typeIn K (.ref C) = some (.type "type")) (lk : K.lookup C = some o) (hv : o.slots[2]? = some (some v)) (h : R (.ok (.ret v)) s) :
    codeAny (model prog w) A (.call (.builtin "getset_descriptor.__get__") ⟨[.builtin "type.__name__", .ref C, tp], []⟩) R s := by
  obtain ⟨hh, g, dr, t, os⟩ := s
  have L0 : Looks (model prog w) hh (typeOf (.ref C)) (.type "type") := looks_typeIn X ht
  have L1 : Looks (model prog w) hh (isSubtype (.type "type") (.type "type")) true := Looks.of_pure (by rw [isSubtype_type]; kernel_rfl)
  refine codeAny_call_builtin KF.slot_gs.plain KF.entry_gs (KF.slot_gs.check _ _ _ _ _ _ _ _ ktyn_type (KF.args_gs _ _ _) ?_)
  unfold Builtin.«getset_descriptor.__get__» descrGet
  rw [dga_obj]
  refine wpAny_bind (wpAny_pure ?_)
  unfold descrGetter descrCheckInstance descrNameAndClass isInstance
  simp only [ktyn_owner]
  repeat lk
  refine ⟨Code.quiet_builtin _ (by decide +kernel), codeAny_builtin ktyn_entry ?_⟩
  unfold Builtin.«type.__name__» keptObject PySem.slotAt
  dsimp only
  refine wpAny_bind (wpAny_bind (wpAny_loadPart (X _ _ lk) (wpAny_pure ?_)))
  rw [hv]
  exact wpAny_pure h
end
section
variable {X : Cx} {e : Expr} {ta : TE} {p1 p2 : Pos}
theorem name_ok {pins : List (Addr × Obj)} {σ : L2.St} {H : Hp} {s : Shared} {b : Bool} {A : Around} {E : Value → Shared → Prop} {Q : Value → Shared → Prop} {C : Addr} {nm : Str} (I : Inv X pins σ H s) (c : NamC X.K C nm)
    (h : ∀ u s', Inv X pins σ H s' → RelV (.str nm) u → Q u s') : wpAny (model X.prog X.w) A (getAttr (.ref C) "__name__" b) Q E s := by
  obtain ⟨o, t, lk, hs⟩ := c.sl
  refine PySem.W.cls_bind I.kIn c.rd c.at_ ?_
  refine wpAny_call (name_get (s := { s with toks := s.toks + 1 }) I.kIn c.ty lk hs (PySem.W.handed_on rfl ?_))
  exact h _ _ (I.tok _) ⟨_, rfl⟩
/-- e.__class__.__name__, e an instance of a class of the program -/
def tCName (K : PySem.W.Frag) (ta : TE) : TE := fun σ H Q => ta σ H fun x H1 => ∃ a C dx fs nm, x = .ref a ∧ H1 a = some (.ins C dx fs) ∧ C8.InsC K C ∧ NamC K C nm ∧ Q (.str nm) H1
theorem pe_cname (he : PE X e ta) (hb : attributeBase e "__class__" X.env (eval e X.env) = eval e X.env := by rfl)
    (hb2 : attributeBase (.Attribute e "__class__" p1) "__name__" X.env (eval (.Attribute e "__class__" p1) X.env) = eval (.Attribute e "__class__" p1) X.env := by rfl) :
    PE X (.Attribute (.Attribute e "__class__" p1) "__name__" p2) (tCName X.K ta) := by
  refine ⟨fun pins s σ H Q I h => ?_⟩
  refine attr_of hb2 (attr_of hb (thn (he.run pins s σ H _ I h) fun u s1 ⟨x, H1, I1, rx, a, C, dx, fs, nm, ex, ea, ic, nc, q⟩ => ?_))
  subst ex
  obtain rfl : u = Value.ref a := rx
  obtain ⟨mA, O, _⟩ := ins_get I1.hok ea
  obtain ⟨od, J, _⟩ := O.look
  obtain ⟨m, hF⟩ := I1.fr
  refine PySem.W.get_class hF I1.ok.mod.kin J (ic.cl.get _) ic.cl.hd ic.ha ic.hn ic.htk ic.hm ?_
  exact name_ok (I1.tok _) nc fun u' s2 I2 ru => ⟨.str nm, H1, I2, ru, q⟩
end
end Rg
/-! def __init__(self, ..): super().__init__(e, ..); .. , a def that closes over __class__ alone -/
namespace Rg
open PySem PySem.Spec PyProof.Rows L2 NdefX ClX
/-- what of the text such a def must have: f its object, D the class that it stands in, cc the cell of __class__ -/
structure SupAt (P : Program) (K : PySem.W.Frag) (mg : Str → Option Value) (F : NF) (f D cc : Addr) : Prop where
  cl : F.cl = [(("__class__" : Str), cc)]
  self : ∃ ar, (F.params.posonlyargs ++ F.params.args).head? = some ar ∧ ar.arg = "self"
  cod : ∃ ccl cdd vs ccs file tf, K.lookup F.c = some ⟨ccl, cdd, .fields vs, ccs⟩ ∧ vs[2]? = some (.str file tf) ∧ ((P.main.file : Str) == file) = true
  cell : ∃ kcl kcd kcs, K.lookup cc = some ⟨kcl, kcd, .cell (some (.ref D)), kcs⟩
  clD : ∃ cd, PySem.W.clsIn K D = some cd
  sup : mg "super" = none
  top : (P.main.scope.names.lookup ("super" : Str)).isSome = false
  ks : F.scope.names.lookup ("super" : Str) = some .globalImplicit
/-- the instance's class C, D above it or C itself, and the __init__ that stands behind D in its row -/
structure SupTo (K : PySem.W.Frag) (C D f2 : Addr) : Prop where
  sub : PySem.W.mroIn K C (.ref D) = some true
  th : PySem.W.nsIn K cStatics "thirdparty.any" = some none
  to : PySem.W.ks_superIn K C D "__init__" = some (some (.ref f2))
  ty : PySem.W.typeIn K (.ref f2) = some (.type "function")
  fn : PySem.W.fnIn K f2 = true
section
variable {X : Cx} {pins : List (Addr × Obj)} {σ : L2.St} {H : Hp} {s : Shared} {a D C g : Addr} {A : Around} {E : Value → Shared → Prop}
theorem run_im {CX : CXT} {k : Nat} {q : Addr} {sp : Sp} {Ee : XK} {Q : VK} {us : List Value} {vs : List V} (F : FnR X.prog X.w X.K X.mg X.base CX k g sp) (hr : Room k X.A) (hx : Passes CX X Ee) (I : Inv X ((q, PySem.W.methodObj (.ref g) (.ref a)) :: pins) σ H s)
    (r : Vals vs us) (h : sp (.ref a :: vs) H Q Ee) : wpAny (model X.prog X.w) X.A (call (.ref q) us) (EP X pins σ Q) X.xe s := by
  have z : wpAny (model X.prog X.w) X.A (call (.ref q) us) (EP X ((q, PySem.W.methodObj (.ref g) (.ref a)) :: pins) σ Q) X.xe s :=
    wpAny_call (PySem.W.method_call (pin_at I) (run_fnR (us := .ref a :: us) (vs := .ref a :: vs) F hr hx I (.cons rfl r) h))
  exact thn z fun _ _ y => unpinE y
theorem callwith_im {pos : Pos} {e : Expr} {es : List Expr} {q : Addr} {Q : Value → Shared → Prop} {E : Value → Shared → Prop} {A : Around} (I : Inv X ((q, PySem.W.methodObj (.ref g) (.ref a)) :: pins) σ H s) (hb : X.base.get? q = none) (hf : PySem.W.fnIn X.K g = true)
    (h : wpAny (model X.prog X.w) A (spliced (backTo pos (starEach (e :: es) X.env))) (fun vs s₁ => PySem.W.MethP X.K q g (.ref a) s₁.heap ∧ wpAny (model X.prog X.w) A (call (.ref q) vs) Q E s₁) E s)
    (he : starEach (e :: es) X.env = (false, eval e X.env) :: starEach es X.env) (hpl : (backTo pos (starEach es X.env)).any (·.1) = false) :
    wpAny (model X.prog X.w) A (callWith pos (.ref q) [] (backTo pos (starEach (e :: es) X.env)) []) Q E s := by
  have hq := pin_at I
  have hL : q ≠ X.env.locals := (I.pin (q, PySem.W.methodObj (.ref g) (.ref a)) (List.mem_append_right _ List.mem_cons_self)).2.2.1
  exact PySem.W.callWith_M (K := X.K) (h₀ := X.base) (first := []) I.ok.mod.kin (news_at hL hb hq) List.mem_cons_self hf h he hpl
/-- getMethod of super's object -/
theorem getmethsup_ok {pl : Sem Bool} {Q : Value × List Value → Shared → Prop} {so : Addr} {C dx : Addr} {fs : List (Str × V)} (I : Inv X ((so, PySem.W.ks_superObj D a C) :: pins) σ H s) (ea : H a = some (.ins C dx fs)) (cl : Cls X.K C) (t : SupTo X.K C D g)
    (h : ∀ s', Inv X ((s.heap.objs.size, PySem.W.methodObj (.ref g) (.ref a)) :: pins) σ H s' → Q (.ref s.heap.objs.size, []) s') : wpAny (model X.prog X.w) A (getMethod (.ref so) "__init__" pl) Q E s := by
  have hso := pin_at I
  have KX := I.kIn
  obtain ⟨mA, O, _⟩ := ins_get I.hok ea
  obtain ⟨od, J, _⟩ := O.look
  have I0 := unpin I
  obtain ⟨cd, hc⟩ : ∃ cd, PySem.W.clsIn X.K C = some cd := by
    obtain ⟨cd, hc, _⟩ := PySem.W.any_some cl.hd
    exact ⟨cd, hc⟩
  have hm := t.to
  unfold PySem.W.ks_superIn at hm
  rw [hc] at hm
  obtain ⟨of, hof, hofc⟩ : ∃ of, s.heap.get? g = some of ∧ of.cls = .type "function" := by
    have ht' : (X.K.lookup g).map (·.cls) = some (.type "function") := t.ty
    cases z : X.K.lookup g with
    | none => rw [z] at ht'; cases ht'
    | some of => rw [z] at ht'; exact ⟨of, KX _ _ z, Option.some.inj ht'⟩
  have met : Inv X ((s.heap.objs.size, PySem.W.methodObj (.ref g) (.ref a)) :: pins) σ H { s with heap := s.heap.push (PySem.W.methodObj (.ref g) (.ref a)), toks := s.toks + 1 } :=
    pin_new I0 (fun _ _ z => Heap.get?_push_of_some _ z) (Nat.le_refl _) (Heap.get?_push_size s.heap rfl) (fun v z => nomatch z)
  obtain ⟨hh, gs, d, tt, os⟩ := s
  refine ks_wpAny_getMethod_super hso (PySem.W.looks_opaque KX t.th) (l₀ := cd.mro) ?_ rfl KX hm hof hofc (PySem.W.ks_ne KX J hc) (by decide) ?_
  · exact fun A Q E s k q => wpAny_bind ((PySem.W.looks_clsIn KX hc) A _ E s k (wpAny_pure q))
  · exact h _ met
end
section
variable {CX CX2 : CXT} {P : Program} {w : World} {K : PySem.W.Frag} {mg : Str → Option Value} {base : Heap} {N ps : List Str} {F : NF} {f D cc f2 : Addr} {k : Nat} {sp sp2 : Sp} {fd : FuncData}
  {dV kV doc pm ct oc : Value} {an od : Option Addr} {osl : Array (Option Value)} {p0 p1 p2 apos pos : Pos} {e : Expr} {es : List Expr} {rest : List Stmt}
theorem fn_super (lk : K.lookup f = some ⟨oc, od, .func (PySem.W.fnX F.name F.qual F.params F.body F.scope F.cl dV kV doc pm an (.ref F.c) ct), osl⟩) (hcd : PySem.W.codeIn K (.ref F.c) F.qual = true)
    (S : NScope N (("self" : Str) :: ps) ["__class__"] F.scope) (T : SupAt P K mg F f D cc)
    (hbody : F.body = .Expr (.Call (.Attribute (.Call (.Name "super" p0) [] [] p1) "__init__" apos) (e :: es) [] pos) p2 :: rest)
    (len : ∀ vs H Q E, sp vs H Q E → vs.length = (("self" : Str) :: ps).length)
    (hst : ∀ env, starEach (e :: es) env = (false, eval e env) :: starEach es env) (hpl : ∀ env, (backTo pos (starEach es env)).any (·.1) = false)
    (hev : ∀ (env : Env), ∃ pl, eval (.Call (.Attribute (.Call (.Name "super" p0) [] [] p1) "__init__" apos) (e :: es) [] pos) env = (do
      let ov ← attributeBase (.Call (.Name "super" p0) [] [] p1) "__init__" env (eval (.Call (.Name "super" p0) [] [] p1) env)
      standAt apos.atName
      let (f, first) ← holding [ov] (getMethod ov "__init__" pl)
      callWith pos f first (backTo pos (starEach (e :: es) env)) []))
    (hsw : ∀ f s, swapsWith (.Call (.Attribute (.Call (.Name "super" p0) [] [] p1) "__init__" apos) (e :: es) [] pos) none p2.line (envF F f s) = pure false) (hni : ∀ f s, interactive (envF F f s) = false)
    (hb : ∀ (A : Around) (outer : List Env) (s : Shared) (H : Hp) (vs : List V) (Q : VK) (Ee : XK), Room k (A.deeper (envF F f s.heap.objs.size)) → sp vs H Q Ee →
      ∃ (a C dx : Addr) (fs : List (Str × V)) (vs' : List V) (ta : TA) (t : TS) (E2 : XK), vs = .ref a :: vs' ∧ H a = some (.ins C dx fs) ∧ Cls K C ∧ SupTo K C D f2 ∧ FnR P w K mg base CX2 k f2 sp2 ∧ Passes CX2 (ncx CX P w K mg base N F f A outer s H Ee) E2 ∧
        PA (ncx CX P w K mg base N F f A outer s H Ee) (e :: es) ta ∧ PSs (ncx CX P w K mg base N F f A outer s H Ee) rest t ∧
        ta (startF N vs [some (.ref D)]) H fun us H1 => sp2 (.ref a :: us) H1 (fun _ H2 => t { nx := fun _ H' => Q .non H', rt := Q } (startF N vs [some (.ref D)]) H2) E2) :
    FnOk P w K mg base CX (k + 1) f (PySem.W.fnX F.name F.qual F.params F.body F.scope F.cl dV kV doc pm an (.ref F.c) ct) (("self" : Str) :: ps) sp := by
  refine ⟨len, fun A outer s H args us vs Q Ee hr e0 hbind r hsp => ?_⟩
  have hl := len _ _ _ _ hsp
  have KX : K.In s.heap := e0.mod.kin.keeps fun b o z => (e0.bs b o z).1
  have lim : s.heap.NoLimit := e0.mod.nolimit.keeps fun b o z => (e0.bs b o z).1
  refine codeAny_call_function hr.depth (KX _ _ lk) rfl S.co S.gen rfl (PySem.W.codeRec_of KX hcd) (hbind _ _ _ _ ?_)
  refine wpAny_newFunctionEnv S.nocell (fun ⟨n, _⟩ hy => S.par n (List.of_mem_zip hy).1) (fun h₁ hns hsb => ⟨lim.fresh _ hsb, ?_⟩) S.kind
  show codeAny _ _ (.func F.body (envF F f s.heap.objs.size)) _ _
  have kp : ∀ b o, s.heap.get? b = some o → h₁.get? b = some o := fun b o z => hsb.extBut b o (Nat.ne_of_lt (Heap.lt_size z)) (Heap.get?_push_of_some _ z)
  obtain ⟨a, C, dx, fs, vs', ta, t, E2, ev, ea, cls, to, F2, px, ha, ht, hq⟩ := hb A outer s H vs Q Ee (hr.deeper _) hsp
  obtain ⟨kcl, kcd, kcs, hcell⟩ := T.cell
  have hcellH : H cc = none := (e0.bs cc _ (e0.mod.kin _ _ hcell)).2
  have CA : CellsAt F.cl ["__class__"] [some (.ref D)] s.heap H := by
    rw [T.cl]
    refine ⟨rfl, fun y c z => ?_, fun x y c z1 z2 => ?_, fun i y z => ?_⟩
    · have : c = cc := by
        simp only [List.lookup] at z
        split at z <;> cases z
        rfl
      subst this
      exact ⟨hcellH, _, _, KX _ _ hcell, rfl⟩
    · simp only [List.lookup] at z1 z2
      split at z1
      · rename_i q1
        split at z2
        · rename_i q2
          rw [beq_iff_eq.mp q1, beq_iff_eq.mp q2]
        · cases z2
      · cases z1
    · match i, z with
      | 0, z =>
        have : y = "__class__" := (Option.some.inj z).symm
        subst this
        exact ⟨cc, by simp [List.lookup], fun v hv => ⟨.ref D, by cases hv; rfl, _, KX _ _ hcell, rfl⟩⟩
      | i + 1, z => simp at z
  have I : Inv (ncx CX P w K mg base N F f A outer s H Ee) [] (startF N vs [some (.ref D)]) H { s with heap := h₁, toks := s.toks + ((("self" : Str) :: ps).zip us).length } := inv_startN S hr.hd e0 hl r CA hns kp
  have fin : ∀ {σ' : L2.St} {H' : Hp} {v : V} {u : Value} {s' : Shared}, Inv (ncx CX P w K mg base N F f A outer s H Ee) [] σ' H' s' → L2.RelV v u → Q v H' → CE outer P w H s Q u s' :=
    fun {σ' H' v u s'} J rv q => ⟨v, H', J.os, J.bare, J.base, J.hok, rv, q⟩
  refine ks_codeAny_funcAt ?_
  rw [hbody]
  refine ks_wpAt_execs_cons (ks_wpAt_Expr_any ?_ (hni _ _) (hsw _ _))
  obtain ⟨pl, he⟩ := hev (envF F f s.heap.objs.size)
  refine ks_wpAt_MethodCall (pl := pl) ?_ he
  obtain ⟨ar, har, hself⟩ := T.self
  obtain ⟨ccl, cdd, cvs, ccs, file, tf, hcod, hcvs, hfile⟩ := T.cod
  obtain ⟨cdD, hcD⟩ := T.clD
  obtain ⟨oD, hD1, hD2⟩ : ∃ oD, h₁.get? D = some oD ∧ oD.data = .cls cdD := by
    unfold PySem.W.clsIn at hcD
    split at hcD
    · rename_i c d cd' sl ho
      cases hcD
      exact ⟨_, kp _ _ (KX _ _ ho), rfl⟩
    · cases hcD
  have hkc : F.scope.names.lookup ("__class__" : Str) = some .free := S.frk _ List.mem_cons_self
  have hcl : F.cl.lookup ("__class__" : Str) = some cc := by rw [T.cl]; simp [List.lookup]
  have hka : F.scope.names.lookup ar.arg = some .local := by rw [hself]; exact S.par _ List.mem_cons_self
  obtain ⟨mA, O, _⟩ := ins_get I.hok ea
  obtain ⟨od', J, _⟩ := O.look
  refine ks_wpAt_super_base (env := envF F f s.heap.objs.size) T.ks hkc (by decide) rfl (kp _ _ (KX _ _ lk)) rfl har rfl (kp _ _ (KX _ _ hcod)) rfl hcvs hfile T.top ?_
  obtain ⟨mb, hmb1, hmb2⟩ := e0.mod.blt
  have bk : ∀ b o, base.get? b = some o → h₁.get? b = some o := fun b o z => kp _ _ (e0.bs b o z).1
  refine PySem.W.ks_loadName_global S.kind T.ks (Calls.loadGlobal_builtin (env := envF F f s.heap.objs.size) (e0.mod.glob.keeps bk) T.sup (hmb1.keeps bk) ((hmb2 _ (by decide)).trans rfl) ⟨rfl, ?_⟩)
  refine wpAny_loadName_free S.kind hkc hcl ⟨_, kp _ _ (KX _ _ hcell), rfl⟩ ?_
  obtain ⟨u1, us', eu, ru⟩ : ∃ u1 us', us = u1 :: us' ∧ u1 = Value.ref a := by
    subst ev
    cases r with
    | cons h1 _ => exact ⟨_, _, rfl, h1⟩
  subst ru
  have hv : ((("self" : Str) :: ps).zip us).reverse.lookup ar.arg = some (Value.ref a) := by
    have ndP : ((("self" : Str) :: ps)).Nodup := by
      have q := S.nd.sublist (List.take_sublist ((("self" : Str) :: ps).length + [("__class__" : Str)].length) N)
      rw [S.pre] at q
      exact (List.nodup_append.mp q).1
    rw [hself, eu]
    exact zip_look (i := 0) ndP rfl rfl
  refine wpAny_loadName_local S.kind hka hns hv ?_
  refine ks_wpAny_isType_cls hD1 hD2 ⟨rfl, ?_⟩
  refine ks_wpAny_call_super hD1 hD2 J.at_ J.cls (fun c z => ?_) (PySem.W.looks_mroIn I.kIn to.sub) (fun h' z k => ?_)
  · have := J.no
    unfold PySem.W.notCls at this
    rw [z] at this
    exact Bool.noConfusion this
  have I1 := pin_new (t' := s.toks + (((("self" : Str) :: ps).zip us).length)) I k (Nat.le_refl _) z (fun v q => nomatch q)
  refine getmethsup_ok I1 ea cls to fun s2 I2 => ?_
  refine callwith_im I2 (base_none I1 (Nat.le_refl _)) to.fn (thn (ha.run pos _ s2 _ H _ I2 hq) fun us2 s3 ⟨vs2, H2, I3, rv, q2⟩ => ⟨⟨pin_at I3, I3.kIn⟩, ?_⟩) (hst _) (hpl _)
  refine thn (run_im F2 (hr.deeper _) px I3 rv q2) fun u4 s4 ⟨v4, H4, I4, r4, q4⟩ => ?_
  refine wpAt_of_wpAny (wpAny_mono (ht.run [] s4 _ _ _ I4 q4) (fun fl s' hs => ?_) fun e s' hs => hs)
  cases fl with
  | ret u =>
    obtain ⟨v, σ', H', J, rv, q⟩ := hs
    exact fin J rv q
  | next =>
    obtain ⟨σ', H', J, q⟩ := hs
    exact fin (v := V.non) (u := Value.none) J rfl q
  | brk =>
    obtain ⟨_, _, _, q⟩ := hs
    exact False.elim q
  | cont =>
    obtain ⟨_, _, _, q⟩ := hs
    exact False.elim q
end
end Rg
/-! the truth of an own instance with __bool__ -/
namespace Rg
open PySem PySem.Spec PyProof.Rows L2
section
variable {X : Cx} {k : Nat} {f : Addr} {fd : FuncData} {sp : Sp} {e : Expr} {ta : TE}
def rTruO (K : PySem.W.Frag) (f : Addr) (sp : Sp) : V → Hp → (Bool → Hp → Prop) → Prop := fun x H Q => ∃ a C dx fs, x = .ref a ∧ H a = some (.ins C dx fs) ∧ PySem.W.findIn K (.ref C) "__bool__" = some (some (.ref f)) ∧ PySem.W.isFn K (.ref f) = true ∧
  sp [.ref a] H (fun v H' => ∃ b, v = .bl b ∧ Q b H') E0
theorem tru_insO {pns : List (Addr × Obj)} {σs : L2.St} {Hh : Hp} {s : Shared} {x : V} {u : Value} {Q : Bool → Hp → Prop} (F : FnOk X.prog X.w X.K X.mg X.base CX0 k f fd ["self"] sp) (hr : Room k X.A) (hb : Binds X.K fd ["self"] [])
    (Iv : Inv X pns σs Hh s) (rx : RelV x u) (h : rTruO X.K f sp x Hh Q) : wpAny (model X.prog X.w) X.A (truthy u) (TP X pns σs Q) X.xe s := by
  obtain ⟨a, C, dx, fs, rfl, ha, hs, hf, qq⟩ := h
  obtain rfl : u = Value.ref a := rx
  obtain ⟨mA, O, _⟩ := ins_get Iv.hok ha
  obtain ⟨od, J, _⟩ := O.look
  obtain ⟨m, hF⟩ := Iv.fr
  refine PySem.W.truthy_K hF Iv.ok.mod.kin J hs hf ?_
  have hlst : ([Value.ref a] ++ []).length = (["self"] : List Str).length := rfl
  refine wpAny_call (codeAny_mono (F.run X.A X.stack s Hh ⟨[.ref a], []⟩ [.ref a] [.ref a] _ E0 hr Iv.env0 (hb s [.ref a] Iv.kIn hlst) (.cons rfl .nil) qq) fun r s' hsq => ?_)
  cases r with
  | error e => exact hsq.elim
  | ok fl =>
    cases fl with
    | ret w =>
      obtain ⟨v, H', I3, rlv, b, ev, q3⟩ := Iv.after hsq
      subst ev
      cases rlv
      exact ⟨H', I3, q3⟩
    | next => exact False.elim hsq
    | brk => exact False.elim hsq
    | cont => exact False.elim hsq
theorem pt_bool (F : FnOk X.prog X.w X.K X.mg X.base CX0 k f fd ["self"] sp) (hr : Room k X.A) (hb : Binds X.K fd ["self"] []) (ha : PE X e ta)
    (he : ∀ whole, isTrue e X.env whole = (do let v ← whole; standAt e.pos; holding [v] (truthy v)) := by intro _; rfl) : PT X e (fun σ H Q => ta σ H fun x H' => rTruO X.K f sp x H' Q) := by
  refine ⟨fun pins s σ H Q I h => ?_⟩
  exact isTrue_plain (thn (ha.run pins s σ H _ I h) fun v s1 ⟨x, H1, I1, r1, q1⟩ => tru_insO F hr hb I1 r1 q1) (he _)
end
end Rg
namespace K
open PySem L2 Rg LamX
open Evl (pss_cut)
theorem pi_or {X : Cx} {tg e : Expr} {w1 w2 : TI} (h1 : PI X tg e w1) (h2 : PI X tg e w2) : PI X tg e (fun σ H R => w1 σ H R ∨ w2 σ H R) := ⟨fun pins s σ H R I h => h.elim (h1.run pins s σ H R I) (h2.run pins s σ H R I)⟩
/-! ### nested tuples (and lists) of numbers, texts and None -/
def Atm (v : V) (d : PyData) : Prop := (∃ i : Int, v = .int i ∧ d = .int i) ∨ (v = .non ∧ d = .none) ∨ ∃ z : {z : Str // PyData.strOk z = true}, v = .str z.1 ∧ d = .str z.1
def FV (H : Hp) (b : Bool) : Nat → V → PyData → Prop
  | 0, v, d => Atm v d
  | n + 1, v, d => Atm v d ∨ ∃ (a : Addr) (xs : List V) (ds : List PyData), v = .ref a ∧ (H a = some (.tup xs) ∨ (b = true ∧ H a = some (.lst xs))) ∧ d = .tuple ds ∧ xs.length ≤ 1000 ∧ Paired (FV H b n) xs ds
theorem FV.atm {H : Hp} {b : Bool} {v : V} {d : PyData} (h : Atm v d) : ∀ n, FV H b n v d
  | 0 => h
  | _ + 1 => .inl h
theorem FV.int {H : Hp} {b : Bool} {n : Nat} (i : Int) : FV H b n (.int i) (.int i) := FV.atm (.inl ⟨i, rfl, rfl⟩) n
theorem FV.non {H : Hp} {b : Bool} {n : Nat} : FV H b n .non .none := FV.atm (.inr (.inl ⟨rfl, rfl⟩)) n
theorem FV.tup {H : Hp} {b : Bool} {n : Nat} {a : Addr} {xs : List V} {ds : List PyData} (h : H a = some (.tup xs)) (l : xs.length ≤ 1000) (p : Paired (FV H b n) xs ds) : FV H b (n + 1) (.ref a) (.tuple ds) := .inr ⟨a, xs, ds, rfl, .inl h, rfl, l, p⟩
theorem FV.up {H : Hp} {b : Bool} : ∀ {n : Nat} {v : V} {d : PyData}, FV H b n v d → FV H b (n + 1) v d
  | 0, v, d, h => .inl h
  | n + 1, v, d, h => by
    rcases h with h | ⟨a, xs, ds, e, ha, ed, l, p⟩
    · exact .inl h
    · exact .inr ⟨a, xs, ds, e, ha, ed, l, par_imp (fun _ _ k => k.up) p⟩
theorem FV.ext {H H' : Hp} {b : Bool} (s : ExtN H H') : ∀ {n : Nat} {v : V} {d : PyData}, FV H b n v d → FV H' b n v d
  | 0, v, d, h => h
  | n + 1, v, d, h => by
    rcases h with h | ⟨a, xs, ds, e, ha, ed, l, p⟩
    · exact .inl h
    · exact .inr ⟨a, xs, ds, e, ha.imp (fun z => s _ _ z (fun _ q => nomatch q)) (fun z => ⟨z.1, s _ _ z.2 (fun _ q => nomatch q)⟩), ed, l, par_imp (fun _ _ k => k.ext s) p⟩
theorem FV.same {H H' : Hp} {b : Bool} {n : Nat} {v : V} {d : PyData} (h : FV H b n v d) (s : Same H H') : FV H' b n v d := h.ext (ExtN.of s)
theorem FV.mut {H : Hp} {D : Addr} {us ws : List V} (hD : H D = some (.lst us)) : ∀ {n : Nat} {v : V} {d : PyData}, FV H false n v d → FV (upd H D (.lst ws)) false n v d
  | 0, v, d, h => h
  | n + 1, v, d, h => by
    rcases h with h | ⟨a, xs, ds, e, ha, ed, l, p⟩
    · exact .inl h
    · refine .inr ⟨a, xs, ds, e, ?_, ed, l, par_imp (fun _ _ k => k.mut hD) p⟩
      rcases ha with ha | ⟨z, _⟩
      · exact .inl (by rw [upd_ne fun k => by rw [k, hD] at ha; cases ha]; exact ha)
      · cases z
theorem FV.any {H : Hp} : ∀ {n : Nat} {v : V} {d : PyData}, FV H false n v d → FV H true n v d
  | 0, v, d, h => h
  | n + 1, v, d, h => by
    rcases h with h | ⟨a, xs, ds, e, ha, ed, l, p⟩
    · exact .inl h
    · refine .inr ⟨a, xs, ds, e, ?_, ed, l, par_imp (fun _ _ k => k.any) p⟩
      rcases ha with ha | ⟨z, _⟩
      · exact .inl ha
      · cases z
theorem fv_ints {H : Hp} {b : Bool} {n : Nat} : ∀ l : List Int, Paired (FV H b n) (l.map V.int) (l.map PyData.int)
  | [] => .nil
  | i :: l => .cons (FV.int i) (fv_ints l)
section
variable {P : Program} {w : World} {K : PySem.W.Frag} {mg : Str → Option Value} {base : Heap}
def spFz (n : Nat) : Sp := fun vs H Q _ => ∃ (v : V) (d : PyData), vs = [v] ∧ FV H true n v d ∧ ∀ v' H', Same H H' → FV H' false n v' d → Q v' H'
abbrev nFz : List Str := ["value", "one"]
theorem scFz : FnScope nFz ["value"] (defScope sFixed) := ⟨rfl, rfl, rfl, by decide +kernel, rfl, by decide +kernel, by decide +kernel⟩
theorem atm_ty {H : Hp} {v : V} {d : PyData} (h : Atm v d) : ∃ k : String, TyX K H v (.type k) ∧ kitB k "list" = some false ∧ kitB k "tuple" = some false := by
  rcases h with ⟨i, rfl, _⟩ | ⟨rfl, _⟩ | ⟨z, rfl, _⟩
  · exact ⟨"int", .base (.int i), by decide +kernel, by decide +kernel⟩
  · exact ⟨"NoneType", .base .non, by decide +kernel, by decide +kernel⟩
  · exact ⟨"str", .base (.str z.1), by decide +kernel, by decide +kernel⟩
theorem ok_fz0 {f : Addr} {fd : FuncData} (F : Fun K "fixed" "fixed" sFixed f fd) (T : Bi mg) : FnOk P w K mg base CX0 1 f fd ["value"] (spFz 0) := by
  refine F.ok scFz (fun vs H Q E h => ?_) (fun cdv A outer s H vs Q E hr h => ?_)
  · obtain ⟨v, d, rfl, _⟩ := h
    rfl
  · refine ⟨_, pss_cons (ps_if (pt_val (pe_callB call_isiT (by rfl) T.isinstance (by decide +kernel) (pa_cons (pv 0) (pa_cons (pe_tup (pa_cons (pe_bltn (v := .ty "list") (u := .type "list") (by rfl) T.list (by decide +kernel) rfl) (pa_cons (pe_bltn (v := .ty "tuple") (u := .type "tuple") (by rfl) T.tuple (by decide +kernel) rfl) pa_nil))) pa_nil)))) (pss_one ps_never) pss_nil)
      (pss_one (ps_ret (pv 0))), ?_⟩
    obtain ⟨v, d, rfl, h, q⟩ := h
    refine ⟨_, rfl, (by show 2 ≤ sizeLine; decide), fun p hp => ?_⟩
    have s1 : Same H (upd H p (.tup [.ty "list", .ty "tuple"])) := (Same.refl H).new hp
    obtain ⟨k, ty, k1, k2⟩ := atm_ty (K := K) (H := upd H p (.tup [.ty "list", .ty "tuple"])) h
    refine ⟨v, p, [.ty "list", .ty "tuple"], .type k, _, false, rfl, upd_same, .cons (.ty _) (.cons (.ty _) .nil), ty, kitAny_cons (kit_ty k1) (fun e => kitAny_cons (b := false) (r := false) (kit_ty k2) (fun _ => kitAny_nil) fun e' => nomatch e') (fun e => nomatch e), _, rfl, iteF ?_⟩
    exact ⟨_, rfl, q _ _ s1 h⟩
theorem ok_fz1 {n : Nat} {f : Addr} {fd : FuncData} (F : Fun K "fixed" "fixed" sFixed f fd) (T : Bi mg) (FX : DefAt P w K mg base CX0 (n + 1) "fixed" ["value"] (spFz n) f fd) : FnOk P w K mg base CX0 (n + 2) f fd ["value"] (spFz (n + 1)) := by
  refine F.ok scFz (fun vs H Q E h => ?_) (fun cdv A outer s H vs Q E hr h => ?_)
  · obtain ⟨v, d, rfl, _⟩ := h
    rfl
  · have nd := scFz.nd
    refine ⟨_, pss_cons (ps_if (pt_val (pe_callB call_isiT (by rfl) T.isinstance (by decide +kernel) (pa_cons (pv 0) (pa_cons (pe_tup (pa_cons (pe_bltn (v := .ty "list") (u := .type "list") (by rfl) T.list (by decide +kernel) rfl) (pa_cons (pe_bltn (v := .ty "tuple") (u := .type "tuple") (by rfl) T.tuple (by decide +kernel) rfl) pa_nil))) pa_nil))))
        (pss_one (ps_ret (pe_callTy call_tuple_of (by rfl) T.tuple (by decide +kernel) (pa_cons (pe_lc (own := [("one", 1)]) (g := gName 1) (tt := tYes) rfl nd (pi_or (pi_list (pv 0)) (pi_tup (pv 0))) (blkOk_by (N := nFz) (sc := defScope sFixed) (by decide +kernel)) (fun _ _ _ _ _ => pg_name (i := 1) nd rfl (Or.inl rfl)) (fun _ _ _ _ _ => pts_nil) (fun _ _ _ _ _ => pe_call FX.ok hr rfl FX.g FX.kp FX.b .nil pass0 (pa_cons (pv 1) pa_nil))) pa_nil)))) pss_nil)
      (pss_one (ps_ret (pv 0))), ?_⟩
    obtain ⟨v, d, rfl, h, q⟩ := h
    refine ⟨_, rfl, (by show 2 ≤ sizeLine; decide), fun p hp => ?_⟩
    have s1 : Same H (upd H p (.tup [.ty "list", .ty "tuple"])) := (Same.refl H).new hp
    have hpp : upd H p (.tup [.ty "list", .ty "tuple"]) p = some (.tup [.ty "list", .ty "tuple"]) := upd_same
    generalize upd H p (.tup [.ty "list", .ty "tuple"]) = H1 at s1 hpp ⊢
    rcases h with h | ⟨a, xs, ds, rfl, ha, rfl, l, px⟩
    · obtain ⟨k, ty, k1, k2⟩ := atm_ty (K := K) (H := H1) h
      refine ⟨v, p, [.ty "list", .ty "tuple"], .type k, _, false, rfl, hpp, .cons (.ty _) (.cons (.ty _) .nil), ty, kitAny_cons (kit_ty k1) (fun e => kitAny_cons (b := false) (r := false) (kit_ty k2) (fun _ => kitAny_nil) fun e' => nomatch e') (fun e => nomatch e), _, rfl, iteF ?_⟩
      exact ⟨_, rfl, q _ _ s1 (.inl h)⟩
    have px1 := par_imp (fun _ _ k => FV.same k s1) px
    have body : ∀ (wi : It) (Gd : Hp → Prop), Walk wi xs.length Gd (YAt xs) → (∀ H', Same H1 H' → Gd H') → ∀ D, H1 D = none → ∀ (tt : TT) (R : VK), (∀ D' us H', Same H1 H' → H' D' = some (.lst us) → us.length = xs.length → Paired (FV H' false n) us ds → R (.ref D') H') → True := fun _ _ _ _ _ _ _ _ _ => trivial
    have fin : ∀ (D : Addr) (us : List V) (H' : Hp), Same H1 H' → H' D = some (.lst us) → us.length = xs.length → Paired (FV H' false n) us ds → ∀ t, H' t = none → Q (.ref t) (upd H' t (.tup us)) := fun D us H' s2 h2 ul pu t nt => by
      have s3 : Same H' (upd H' t (.tup us)) := (Same.refl H').new nt
      exact q _ _ ((s1.trans s2).trans s3) (.inr ⟨t, us, ds, rfl, .inl upd_same, rfl, by omega, par_imp (fun _ _ k => k.same s3) pu⟩)
    have step : ∀ (D : Addr) (j : Nat) (y : V) (H' : Hp) (us : List V), xs[j]? = some y → Same H1 H' → H1 D = none → H' D = some (.lst us) → us.length = j → Paired (FV H' false n) us (ds.take j) →
        spFz n [y] H' (fun v H2 => ∃ acc, H2 D = some (.lst acc) ∧ acc.length < sizeLine ∧ (Same H1 (upd H2 D (.lst (acc ++ [v]))) ∧ ∃ us, upd H2 D (.lst (acc ++ [v])) D = some (.lst us) ∧ us.length = j + 1 ∧ Paired (FV (upd H2 D (.lst (acc ++ [v]))) false n) us (ds.take (j + 1)))) E0 := fun D j y H' us hj s2 nD h2 ul pu => by
      obtain ⟨e, he, fv⟩ := par_get px1 hj
      have jl : j < xs.length := (List.getElem?_eq_some_iff.mp hj).1
      refine ⟨y, e, rfl, fv.same s2, fun v' H3 s3 fv' => ?_⟩
      have h3 := s3 _ _ h2
      refine ⟨us, h3, by rw [ul]; exact sm (by omega), (s2.trans s3).mut nD, us ++ [v'], upd_same, by rw [List.length_append, ul]; rfl, ?_⟩
      rw [← take_snoc he]
      exact par_app (par_imp (fun _ _ k => (k.same s3).mut h3) pu) (.cons (fv'.mut h3) .nil)
    rcases ha with ha | ⟨_, ha⟩
    · have ha1 := s1 _ _ ha
      refine ⟨.ref a, p, [.ty "list", .ty "tuple"], .type "tuple", _, true, rfl, hpp, .cons (.ty _) (.cons (.ty _) .nil), .base (.tup ha1), kitAny_cons (b := false) (kit_ty (by decide +kernel)) (fun _ => kitAny_cons (b := true) (r := true) (kit_ty (by decide +kernel)) (fun e => nomatch e) fun _ => rfl) (fun e => nomatch e), _, rfl, iteT ?_⟩
      refine .inr ⟨_, rfl, a, rfl, ⟨_, .inl (.inl ha1)⟩, fun D hD => ?_⟩
      refine lc_it (walk_tup (K := K) (a := a) (xs := xs)) (fun j H' => Same H1 H' ∧ ∃ us, H' D = some (.lst us) ∧ us.length = j ∧ Paired (FV H' false n) us (ds.take j)) ⟨(Same.refl H1).new hD, [], upd_same, rfl, .nil⟩ (fun j H' _ r => .inl (.inl (r.1 _ _ ha1))) ?_ ?_
      · rintro j y H2 H3 hj ⟨s2, us, h2, ul, pu⟩ ⟨rfl, hy⟩
        exact ⟨rfl, _, rfl, step D j y _ us hy s2 hD h2 ul pu⟩
      · rintro H2 ⟨s2, us, h2, ul, pu⟩
        rw [par_len px, List.take_length] at pu
        exact ⟨D, _, rfl, .inl ⟨SqL.of h2, fin D us H2 s2 h2 ul pu⟩⟩
    · have ha1 := s1 _ _ ha
      refine ⟨.ref a, p, [.ty "list", .ty "tuple"], .type "list", _, true, rfl, hpp, .cons (.ty _) (.cons (.ty _) .nil), .base (.lst ha1), kitAny_cons (b := true) (r := true) (kit_ty (kit_list "list" (by decide))) (fun e => nomatch e) (fun _ => rfl), _, rfl, iteT ?_⟩
      refine .inl ⟨_, rfl, a, rfl, ⟨_, SqL.of ha1⟩, fun D hD => ?_⟩
      refine lc_it (walk_list (K := K) (a := a) (xs := xs)) (fun j H' => Same H1 H' ∧ ∃ us, H' D = some (.lst us) ∧ us.length = j ∧ Paired (FV H' false n) us (ds.take j)) ⟨(Same.refl H1).new hD, [], upd_same, rfl, .nil⟩ (fun j H' _ r => SqL.of (r.1 _ _ ha1)) ?_ ?_
      · rintro j y H2 H3 hj ⟨s2, us, h2, ul, pu⟩ ⟨rfl, hy⟩
        exact ⟨rfl, _, rfl, step D j y _ us hy s2 hD h2 ul pu⟩
      · rintro H2 ⟨s2, us, h2, ul, pu⟩
        rw [par_len px, List.take_length] at pu
        exact ⟨D, _, rfl, .inl ⟨SqL.of h2, fin D us H2 s2 h2 ul pu⟩⟩
/-- fixed, to any depth -/
theorem at_fz {f : Addr} {fd : FuncData} (F : Fun K "fixed" "fixed" sFixed f fd) (T : Bi mg) (g : mg "fixed" = some (.ref f)) (kp : PySem.W.keepIn K (.ref f) = true) (b : Binds K fd ["value"] []) : ∀ n, DefAt P w K mg base CX0 (n + 1) "fixed" ["value"] (spFz n) f fd
  | 0 => ⟨ok_fz0 F T, g, kp, b⟩
  | n + 1 => ⟨ok_fz1 F T (at_fz F T g kp b n), g, kp, b⟩
end
end K
namespace K
open PySem L2 Rg LamX NdefX
open Evl (pss_cut)
/-! ### papers -/
/-- a class of papers: no own word, no own parts -/
structure PapC (K : PySem.W.Frag) (C : Addr) : Prop where
  cl : Cls K C
  nw : NoAttr K C "word"
  np : NoAttr K C "parts"
/-- a def that closes over __class__ -/
structure FunS (K : PySem.W.Frag) (x qual : Str) (st : Stmt) (f c cc : Addr) (fd : FuncData) : Prop where
  ex : ∃ (oc : Value) (od : Option Addr) (kV doc pm : Value) (an : Option Addr) (ct : Value) (osl : Array (Option Value)),
    fd = PySem.W.fnX x qual (defArgs st) (defBody st) (defScope st) [(("__class__" : Str), cc)] .none kV doc pm an (.ref c) ct ∧ K.lookup f = some ⟨oc, od, .func fd, osl⟩ ∧ PySem.W.codeIn K (.ref c) qual = true
  kp : PySem.W.keepIn K (.ref f) = true
theorem FunS.binds {K : PySem.W.Frag} {x qual : Str} {st : Stmt} {f c cc : Addr} {fd : FuncData} {ps : List Str} (F : FunS K x qual st f c cc fd)
    (h : ∀ (kV doc pm : Value) (an : Option Addr) (ct : Value) (us : List Value), us.length = ps.length → bindArgs (PySem.W.fnX x qual (defArgs st) (defBody st) (defScope st) [(("__class__" : Str), cc)] .none kV doc pm an (.ref c) ct) ⟨us, []⟩ = pure (ps.zip us)) : Binds K fd ps [] := by
  obtain ⟨oc, od, kV, doc, pm, an, ct, osl, rfl, lk, hcd⟩ := F.ex
  refine fun s us KX hl => ?_
  rw [List.append_nil] at hl ⊢
  intro A R E Q q
  rw [h kV doc pm an ct us hl]
  exact wpAny_pure q
section
variable {P : Program} {w : World} {K : PySem.W.Frag} {mg : Str → Option Value} {base : Heap}
def spPI (n : Nat) : Sp := fun vs H Q _ => ∃ (r C dx p : Addr) (word : Str) (xs : List V) (ds : List PyData), vs = [.ref r, .str word, .ref p] ∧ H r = some (.ins C dx []) ∧ PapC K C ∧ H p = some (.tup xs) ∧ Paired (FV H true n) xs ds ∧ xs.length ≤ 1000 ∧
  ∀ t H', But r H H' → FV H' false (n + 1) (.ref t) (.tuple ds) → H' r = some (.ins C dx [("word", .str word), ("parts", .ref t)]) → Q .non H'
def spPIR (K : PySem.W.Frag) (n : Nat) : Sp := fun vs H Q _ => ∃ (r C dx : Addr) (word : Str) (xs : List V) (ds : List PyData), vs = .ref r :: .str word :: xs ∧ H r = some (.ins C dx []) ∧ PapC K C ∧ Paired (FV H true n) xs ds ∧ xs.length ≤ 1000 ∧
  ∀ t H', But r H H' → FV H' false (n + 1) (.ref t) (.tuple ds) → H' r = some (.ins C dx [("word", .str word), ("parts", .ref t)]) → Q .non H'
abbrev nPI : List Str := ["self", "word", "parts"]
theorem scPI : FnScope nPI ((["self", "word"] : List Str) ++ (["parts"] : List Str)) (defScope sPaperInit) := ⟨rfl, rfl, rfl, by decide +kernel, rfl, by decide +kernel, by decide +kernel⟩
theorem FV.but {H H' : Hp} {r C dx : Addr} {fs : List (Str × V)} {b : Bool} (hr : H r = some (.ins C dx fs)) (s : But r H H') : ∀ {n : Nat} {v : V} {d : PyData}, FV H b n v d → FV H' b n v d
  | 0, v, d, h => h
  | n + 1, v, d, h => by
    rcases h with h | ⟨a, xs, ds, e, ha, ed, l, p⟩
    · exact .inl h
    · refine .inr ⟨a, xs, ds, e, ?_, ed, l, par_imp (fun _ _ k => k.but hr s) p⟩
      exact ha.imp (fun z => s _ _ (fun q => by rw [q, hr] at z; cases z) z) (fun z => ⟨z.1, s _ _ (fun q => by rw [q, hr] at z; cases z.2) z.2⟩)
/-- a def with a star parameter, by its body -/
theorem fn_starF {x qual : Str} {st : Stmt} {f : Addr} {fd : FuncData} {N ps : List Str} {pv : Str} {k : Nat} {sp : Sp} (F : Fun K x qual st f fd) (S : FnScope N (ps ++ [pv]) (defScope st))
    (hb : ∀ (kV doc pm : Value) (an : Option Addr) (cdv ct : Value) (us rest : List Value), us.length = ps.length → bindArgs (PySem.W.fnOf x qual (defArgs st) (defBody st) (defScope st) .none kV doc pm an cdv ct) ⟨us ++ rest, []⟩ = (newTuple rest >>= fun t => pure (ps.zip us ++ [(pv, t)])))
    (hbody : ∀ (cdv : Value) (A : Around) (outer : List Env) (s : Shared) (H : Hp) (vs : List V) (Q : VK) (E : XK), Room k (A.deeper (PyProof.Rows.envOfC qual (defScope st) s.heap.objs.size f cdv)) → sp vs H Q E →
      ∃ t, PSs (cxOf CX0 P w K mg base N qual (defScope st) f cdv A outer s H E).nox (defBody st) t ∧ t { nx := fun _ H' => Q .non H', rt := Q } (start N vs) H) :
    FnR P w K mg base CX0 (k + 1) f (fun vs H Q E => ∃ ws rest, vs = ws ++ rest ∧ ws.length = ps.length ∧ rest.length ≤ sizeLine ∧ ∀ p, H p = none → sp (ws ++ [V.ref p]) (upd H p (.tup rest)) Q E) := by
  obtain ⟨oc, od, kV, doc, pm, an, cdv, ct, osl, rfl, lk, hcd⟩ := F.ex
  refine StX.fn_star lk hcd S StX.cxUp_none (hb kV doc pm an cdv ct) fun A outer s H vs Q E hr hsp => ?_
  obtain ⟨t, h, q⟩ := hbody cdv A outer s H vs Q E hr hsp
  exact ⟨t, h.nox, q⟩
theorem ok_pi {n : Nat} {f fX : Addr} {fd fdX : FuncData} (F : Fun K "__init__" "Paper.__init__" sPaperInit f fd) (FX : DefAt P w K mg base CX0 (n + 2) "fixed" ["value"] (spFz (n + 1)) fX fdX) : FnR P w K mg base CX0 (n + 3) f (spPIR K n) := by
  have z := fn_starF (P := P) (w := w) (mg := mg) (base := base) (ps := ["self", "word"]) (pv := "parts") (N := nPI) (k := n + 2) (sp := spPI (K := K) n) F scPI (fun kV doc pm an cdv ct => StX.bind_star2 (B := fun l => bindArgs (PySem.W.fnOf "__init__" "Paper.__init__" (defArgs sPaperInit) (defBody sPaperInit) (defScope sPaperInit) .none kV doc pm an cdv ct) ⟨l, []⟩) (fun _ _ => rfl) (fun _ _ _ _ => rfl)) fun cdv A outer s H vs Q E hr h => by
    refine ⟨_, (pss_cons (ps_fld (pv 0) (pv 1) rfl) (pss_one (ps_fld (pv 0) (pe_call FX.ok hr rfl FX.g FX.kp FX.b .nil pass0 (pa_cons (pv 2) pa_nil)) rfl))), ?_⟩
    obtain ⟨r, C, dx, p, word, xs, ds, rfl, hr0, pc, hp, px, l, q⟩ := h
    refine ⟨_, rfl, _, rfl, r, C, dx, [], rfl, hr0, pc.cl, pc.nw, (by show 0 < 1000; decide), ?_⟩
    have hr1 : upd H r (.ins C dx (putF "word" (.str word) [])) r = some (.ins C dx [("word", .str word)]) := upd_same
    have s1 : But r H (upd H r (.ins C dx (putF "word" (.str word) []))) := fun b o ne e => by rw [upd_ne ne]; exact e
    generalize upd H r (.ins C dx (putF "word" (.str word) [])) = H1 at hr1 s1 ⊢
    have pr : p ≠ r := fun z => by rw [z, hr0] at hp; cases hp
    refine ⟨_, rfl, .ref p, .tuple ds, rfl, FV.tup (s1 _ _ pr hp) l (par_imp (fun _ _ k => k.but hr0 s1) px), fun v' H2 s2 fv => ?_⟩
    rcases fv with (⟨_, _, z⟩ | ⟨_, z⟩ | ⟨_, _, z⟩) | ⟨t, ys, es, rfl, ht, e2, l2, p2⟩
    · cases z
    · cases z
    · cases z
    have hr2 := s2 _ _ hr1
    refine ⟨_, rfl, r, C, dx, _, rfl, hr2, pc.cl, pc.np, (by show 1 < 1000; decide), ?_⟩
    have s3 : But r H2 (upd H2 r (.ins C dx (putF "parts" (.ref t) [("word", .str word)]))) := fun b o ne e => by rw [upd_ne ne]; exact e
    have fv2 : FV H2 false (n + 1) (.ref t) (.tuple ds) := .inr ⟨t, ys, es, rfl, ht, e2, l2, p2⟩
    exact q t _ ((s1.trans fun b o _ e => s2 _ _ e).trans s3) (fv2.but hr2 s3) upd_same
  exact z.imp fun vs H Q E ⟨r, C, dx, word, xs, ds, e, hr0, pc, px, l, q⟩ => ⟨[.ref r, .str word], xs, e, rfl, Nat.le_trans l (by decide), fun p np => by
    have s0 : Same H (upd H p (.tup xs)) := (Same.refl H).new np
    exact ⟨r, C, dx, p, word, xs, ds, rfl, s0 _ _ hr0, pc, upd_same, par_imp (fun _ _ k => k.same s0) px, l, fun t H' b fv hr' => q t H' (fun a o ne e => b a o ne (s0 _ _ e)) fv hr'⟩⟩
end
end K
namespace K
open PySem L2 Rg LamX NdefX
open Evl (pss_cut)
def nfS (st : Stmt) (x qual : Str) (cc c : Addr) : NF := ⟨x, qual, defArgs st, defBody st, defScope st, [(("__class__" : Str), cc)], c⟩
/-- what a tuple holds -/
theorem fv_list {H : Hp} {n : Nat} {t : Addr} {ds : List PyData} (h : FV H false (n + 1) (.ref t) (.tuple ds)) : ∃ xs, H t = some (.tup xs) ∧ Paired (FV H false n) xs ds := by
  rcases h with (⟨_, z, _⟩ | ⟨z, _⟩ | ⟨_, z, _⟩) | ⟨t', xs, es, e1, ht, e2, l2, p2⟩
  · cases z
  · cases z
  · cases z
  · cases e1
    cases e2
    rcases ht with ht | ⟨z, _⟩
    · exact ⟨xs, ht, p2⟩
    · cases z
/-! ### papers -/
/-- a paper of the class C: its fields, what its parts hold -/
def PapG (C : Addr) (word : Str) (fs : List (Str × V)) (H : Hp) (r : Addr) : Prop := ∃ dx t, H r = some (.ins C dx (("word", .str word) :: ("parts", .ref t) :: fs)) ∧ H t = some (.tup (fs.map (·.2)))
theorem PapG.ext {C : Addr} {word : Str} {fs : List (Str × V)} {H H' : Hp} {r : Addr} (h : PapG C word fs H r) (s : ExtN H H') : PapG C word fs H' r := by
  obtain ⟨dx, t, h1, h2⟩ := h
  exact ⟨dx, t, s _ _ h1 (fun _ q => nomatch q), s _ _ h2 (fun _ q => nomatch q)⟩
section
variable {P : Program} {w : World} {K : PySem.W.Frag} {mg : Str → Option Value} {base : Heap}
abbrev fsNI (v1 : V) : List (Str × V) := [("nets", v1)]
structure NetsC (K : PySem.W.Frag) (mg : Str → Option Value) (C : Addr) : Prop where
  pc : PapC K C
  n1 : NoAttr K C "nets"
  g : mg "Nets" = some (.ref C)
def spNI (K : PySem.W.Frag) (C : Addr) (n : Nat) : Sp := fun vs H Q _ => ∃ (r dx : Addr) (v1 : V) (d1 : PyData), vs = [.ref r, v1] ∧ H r = some (.ins C dx []) ∧ FV H true n v1 d1 ∧
  ∀ w1 H', But r H H' → FV H' false n w1 d1 → PapG C "nets" (fsNI w1) H' r → Q .non H'
abbrev nNI : List Str := ["self", "nets", "__class__"]
theorem scNI : NScope nNI ((("self" : Str)) :: (["nets"] : List Str)) ["__class__"] (defScope sNetsInit) := nscope_by (by decide +kernel)
theorem ok_ni {n : Nat} {f c cc C f2 : Addr} {fd : FuncData} (F : FunS K "__init__" "Nets.__init__" sNetsInit f c cc fd) (T : SupAt P K mg (nfS sNetsInit "__init__" "Nets.__init__" cc c) f C cc) (R : NetsC K mg C) (TO : SupTo K C C f2) (PI : FnR P w K mg base CX0 (n + 3) f2 (spPIR K n)) :
    FnOk P w K mg base CX0 (n + 4) f fd ["self", "nets"] (spNI K C n) := by
  obtain ⟨oc, od, kV, doc, pm, an, ct, osl, rfl, lk, hcd⟩ := F.ex
  refine fn_super (CX2 := CX0) (f2 := f2) (sp2 := spPIR K n) (F := nfS sNetsInit "__init__" "Nets.__init__" cc c) (N := nNI) (ps := ["nets"]) (sp := spNI K C n) (k := n + 3) lk hcd scNI T rfl (fun vs H Q E h => ?_) (fun _ => rfl) (fun _ => rfl) (fun _ => ⟨_, rfl⟩) (fun _ _ => rfl) (fun _ _ => rfl) fun A outer s H vs Q E hr h => ?_
  · obtain ⟨r, dx, v1, d1, rfl, _⟩ := h
    rfl
  · obtain ⟨r, dx, v1, d1, rfl, hr0, f1, q⟩ := h
    refine ⟨r, C, dx, [], _, _, _, _, rfl, hr0, R.pc.cl, TO, PI, pass0, (pa_cons pe_str (pa_cons (pv 1) pa_nil)),
      (pss_one (ps_fld (pv 0) (pe_ix (r := rIxT K) ix_tup (pe_fld (pv 0) rfl) pe_int (fun _ _ => rfl)) rfl)), ?_⟩
    refine ⟨_, rfl,  r, C, dx, "nets", [v1], [d1], rfl, hr0, R.pc, (.cons f1 .nil), (by show 1 ≤ 1000; decide), fun t H1 s1 fv hr1 => ?_⟩
    obtain ⟨xs, ht, px⟩ := fv_list fv
    obtain ⟨w1, rfl, g1⟩ : ∃ w1, xs = [w1] ∧ FV H1 false n w1 d1 := by
      cases px with
      | cons a p => cases p; exact ⟨_, rfl, a⟩
    have tr : t ≠ r := fun z => by rw [z, hr1] at ht; cases ht
    refine ⟨_, rfl, r, C, dx, _, _, rfl, hr1, R.pc.cl, R.pc.np, rfl, t, _, 0, w1, rfl, rfl, .inl (.inl ht), rfl, _, rfl, r, C, dx, _, rfl, hr1, R.pc.cl, R.n1, (by show 2 < 1000; decide), ?_⟩
    have s2 : But r H1 (upd H1 r (.ins C dx (putF "nets" w1 [("word", .str "nets"), ("parts", .ref t)]))) := fun b o ne e => by rw [upd_ne ne]; exact e
    have al : ∀ {v : V} {d : PyData}, FV H1 false n v d → FV (upd H1 r (.ins C dx (putF "nets" w1 [("word", .str "nets"), ("parts", .ref t)]))) false n v d := fun g => (g.but hr1 s2)
    exact q w1 _ (s1.trans s2) (al g1) ⟨dx, t, upd_same, s2 _ _ tr ht⟩
abbrev fsGI (v1 v2 v3 : V) : List (Str × V) := [("lot", v1), ("net", v2), ("others", v3)]
structure TooGreatC (K : PySem.W.Frag) (mg : Str → Option Value) (C : Addr) : Prop where
  pc : PapC K C
  n1 : NoAttr K C "lot"
  n2 : NoAttr K C "net"
  n3 : NoAttr K C "others"
  g : mg "TooGreat" = some (.ref C)
def spGI (K : PySem.W.Frag) (C : Addr) (n : Nat) : Sp := fun vs H Q _ => ∃ (r dx : Addr) (v1 v2 v3 : V) (d1 d2 d3 : PyData), vs = [.ref r, v1, v2, v3] ∧ H r = some (.ins C dx []) ∧ FV H true n v1 d1 ∧ FV H true n v2 d2 ∧ FV H true n v3 d3 ∧
  ∀ w1 w2 w3 H', But r H H' → FV H' false n w1 d1 → FV H' false n w2 d2 → FV H' false n w3 d3 → PapG C "toogreat" (fsGI w1 w2 w3) H' r → Q .non H'
abbrev nGI : List Str := ["self", "lot", "net", "others", "__class__"]
theorem scGI : NScope nGI ((("self" : Str)) :: (["lot", "net", "others"] : List Str)) ["__class__"] (defScope sTooGreatInit) := nscope_by (by decide +kernel)
theorem ok_gi {n : Nat} {f c cc C f2 : Addr} {fd : FuncData} (F : FunS K "__init__" "TooGreat.__init__" sTooGreatInit f c cc fd) (T : SupAt P K mg (nfS sTooGreatInit "__init__" "TooGreat.__init__" cc c) f C cc) (R : TooGreatC K mg C) (TO : SupTo K C C f2) (PI : FnR P w K mg base CX0 (n + 3) f2 (spPIR K n)) :
    FnOk P w K mg base CX0 (n + 4) f fd ["self", "lot", "net", "others"] (spGI K C n) := by
  obtain ⟨oc, od, kV, doc, pm, an, ct, osl, rfl, lk, hcd⟩ := F.ex
  refine fn_super (CX2 := CX0) (f2 := f2) (sp2 := spPIR K n) (F := nfS sTooGreatInit "__init__" "TooGreat.__init__" cc c) (N := nGI) (ps := ["lot", "net", "others"]) (sp := spGI K C n) (k := n + 3) lk hcd scGI T rfl (fun vs H Q E h => ?_) (fun _ => rfl) (fun _ => rfl) (fun _ => ⟨_, rfl⟩) (fun _ _ => rfl) (fun _ _ => rfl) fun A outer s H vs Q E hr h => ?_
  · obtain ⟨r, dx, v1, v2, v3, d1, d2, d3, rfl, _⟩ := h
    rfl
  · obtain ⟨r, dx, v1, v2, v3, d1, d2, d3, rfl, hr0, f1, f2, f3, q⟩ := h
    refine ⟨r, C, dx, [], _, _, _, _, rfl, hr0, R.pc.cl, TO, PI, pass0, (pa_cons pe_str (pa_cons (pv 1) (pa_cons (pv 2) (pa_cons (pv 3) pa_nil)))),
      (pss_cons (ps_fld (pv 0) (pe_ix (r := rIxT K) ix_tup (pe_fld (pv 0) rfl) pe_int (fun _ _ => rfl)) rfl)
      (pss_cons (ps_fld (pv 0) (pe_ix (r := rIxT K) ix_tup (pe_fld (pv 0) rfl) pe_int (fun _ _ => rfl)) rfl)
      (pss_one (ps_fld (pv 0) (pe_ix (r := rIxT K) ix_tup (pe_fld (pv 0) rfl) pe_int (fun _ _ => rfl)) rfl)))), ?_⟩
    refine ⟨_, rfl, _, rfl, _, rfl,  r, C, dx, "toogreat", [v1, v2, v3], [d1, d2, d3], rfl, hr0, R.pc, (.cons f1 (.cons f2 (.cons f3 .nil))), (by show 3 ≤ 1000; decide), fun t H1 s1 fv hr1 => ?_⟩
    obtain ⟨xs, ht, px⟩ := fv_list fv
    obtain ⟨w1, w2, w3, rfl, g1, g2, g3⟩ : ∃ w1 w2 w3, xs = [w1, w2, w3] ∧ FV H1 false n w1 d1 ∧ FV H1 false n w2 d2 ∧ FV H1 false n w3 d3 := by
      cases px with
      | cons a p => cases p with
        | cons b p => cases p with
          | cons c p => cases p; exact ⟨_, _, _, rfl, a, b, c⟩
    have tr : t ≠ r := fun z => by rw [z, hr1] at ht; cases ht
    refine ⟨_, rfl, r, C, dx, _, _, rfl, hr1, R.pc.cl, R.pc.np, rfl, t, _, 0, w1, rfl, rfl, .inl (.inl ht), rfl, _, rfl, r, C, dx, _, rfl, hr1, R.pc.cl, R.n1, (by show 2 < 1000; decide), ?_⟩
    have s2 : But r H1 (upd H1 r (.ins C dx (putF "lot" w1 [("word", .str "toogreat"), ("parts", .ref t)]))) := fun b o ne e => by rw [upd_ne ne]; exact e
    have hr2 : upd H1 r (.ins C dx (putF "lot" w1 [("word", .str "toogreat"), ("parts", .ref t)])) r = some (.ins C dx [("word", .str "toogreat"), ("parts", .ref t), ("lot", w1)]) := upd_same
    generalize upd H1 r (.ins C dx (putF "lot" w1 [("word", .str "toogreat"), ("parts", .ref t)])) = H2 at hr2 s2 ⊢
    have ht2 := s2 _ _ tr ht
    refine ⟨_, rfl, r, C, dx, _, _, rfl, hr2, R.pc.cl, R.pc.np, rfl, t, _, 1, w2, rfl, rfl, .inl (.inl ht2), rfl, _, rfl, r, C, dx, _, rfl, hr2, R.pc.cl, R.n2, (by show 3 < 1000; decide), ?_⟩
    have s3 : But r H2 (upd H2 r (.ins C dx (putF "net" w2 [("word", .str "toogreat"), ("parts", .ref t), ("lot", w1)]))) := fun b o ne e => by rw [upd_ne ne]; exact e
    have hr3 : upd H2 r (.ins C dx (putF "net" w2 [("word", .str "toogreat"), ("parts", .ref t), ("lot", w1)])) r = some (.ins C dx [("word", .str "toogreat"), ("parts", .ref t), ("lot", w1), ("net", w2)]) := upd_same
    generalize upd H2 r (.ins C dx (putF "net" w2 [("word", .str "toogreat"), ("parts", .ref t), ("lot", w1)])) = H3 at hr3 s3 ⊢
    have ht3 := s3 _ _ tr ht2
    refine ⟨_, rfl, r, C, dx, _, _, rfl, hr3, R.pc.cl, R.pc.np, rfl, t, _, 2, w3, rfl, rfl, .inl (.inl ht3), rfl, _, rfl, r, C, dx, _, rfl, hr3, R.pc.cl, R.n3, (by show 4 < 1000; decide), ?_⟩
    have s4 : But r H3 (upd H3 r (.ins C dx (putF "others" w3 [("word", .str "toogreat"), ("parts", .ref t), ("lot", w1), ("net", w2)]))) := fun b o ne e => by rw [upd_ne ne]; exact e
    have al : ∀ {v : V} {d : PyData}, FV H1 false n v d → FV (upd H3 r (.ins C dx (putF "others" w3 [("word", .str "toogreat"), ("parts", .ref t), ("lot", w1), ("net", w2)]))) false n v d := fun g => (((g.but hr1 s2).but hr2 s3).but hr3 s4)
    exact q w1 w2 w3 _ (((s1.trans s2).trans s3).trans s4) (al g1) (al g2) (al g3) ⟨dx, t, upd_same, s4 _ _ tr ht3⟩
end
end K
namespace K
open PySem L2 Rg
open Evl (pss_cut)
/-! ### pairs in order -/
def lexLe (a b : Int × Int) : Bool := !SrtO.lexB b a
theorem lexLe_iff {a b : Int × Int} : lexLe a b = true ↔ (a.1 < b.1 ∨ (a.1 = b.1 ∧ a.2 ≤ b.2)) := by
  unfold lexLe
  rw [Bool.not_eq_true', SrtO.lexB_no]
  omega
def srtQ (st : Strd) : Strd := st.mergeSort lexLe
theorem srtQ_perm (st : Strd) : (srtQ st).Perm st := List.mergeSort_perm ..
theorem lexLe_trans (a b c : Int × Int) (h1 : lexLe a b = true) (h2 : lexLe b c = true) : lexLe a c = true := by
  rw [lexLe_iff] at h1 h2 ⊢
  omega
theorem lexLe_total (a b : Int × Int) : (lexLe a b || lexLe b a) = true := by
  rw [Bool.or_eq_true, lexLe_iff, lexLe_iff]
  omega
theorem lexLe_anti {a b : Int × Int} (h1 : lexLe a b = true) (h2 : lexLe b a = true) : a = b := by
  rw [lexLe_iff] at h1 h2
  exact Prod.ext (by omega) (by omega)
theorem srtQ_sorted (st : Strd) : (srtQ st).Pairwise fun a b => lexLe a b = true := List.pairwise_mergeSort lexLe_trans lexLe_total st
theorem srtQ_uniq {l st : Strd} (p : l.Perm st) (h : l.Pairwise fun a b => lexLe a b = true) : l = srtQ st :=
  List.Perm.eq_of_pairwise (fun x y _ _ h1 h2 => lexLe_anti h1 h2) h (srtQ_sorted st) (p.trans (srtQ_perm st).symm)
theorem srtQ_of_perm {l st : Strd} (p : l.Perm st) : srtQ l = srtQ st := srtQ_uniq ((srtQ_perm l).trans p) (srtQ_sorted l)
theorem spat_of {H : Hp} : ∀ zs : List V, (∀ z ∈ zs, ∃ q, SPat H z q) → Paired (SPat H) zs (zs.map (pk H)) := by
  intro zs
  induction zs with
  | nil => exact fun _ => .nil
  | cons z zs ih =>
    intro k
    obtain ⟨q, hs⟩ := k z (List.mem_cons_self ..)
    exact .cons (by rw [pk_at hs]; exact hs) (ih fun y hy => k y (List.mem_cons_of_mem _ hy))
theorem srt_pairs {H : Hp} {xs ys : List V} {st : Strd} (px : Paired (SPat H) xs st) (srt : SrtO.Srtd (ltP (pk H)) ys) (pm : ys.Perm xs) : Paired (SPat H) ys (srtQ st) := by
  have h1 : Paired (SPat H) ys (ys.map (pk H)) := spat_of ys fun z hz => let ⟨q, _, h⟩ := par_mem px (pm.mem_iff.mp hz); ⟨q, h⟩
  have e : ys.map (pk H) = srtQ st := by
    refine srtQ_uniq ?_ ?_
    · rw [← pk_map px]
      exact pm.map _
    · rw [List.pairwise_map]
      refine List.Pairwise.imp (fun {a b} h => ?_) srt
      have h' : SrtO.lexB (pk H b) (pk H a) = false := h
      unfold lexLe
      rw [h']
      rfl
  rw [← e]
  exact h1
theorem pairs_of {H : Hp} {xs : List V} {st : Strd} (px : Paired (SPat H) xs st) : ∀ y ∈ xs, ∃ t, y = V.ref t ∧ H t = some (.tup [.int (pk H y).1, .int (pk H y).2]) := fun y hy => by
  obtain ⟨q, _, h⟩ := par_mem px hy
  rw [pk_at h]
  exact h
/-- a strand as it is kept -/
def sg0 (st : Strd) : Int := ((srtQ st).headD (0, 1)).2
def asS (st : Strd) : Strd := (srtQ st).map fun q => (q.1, q.2 * sg0 st)
theorem asS_len (st : Strd) : (asS st).length = st.length := by
  unfold asS
  rw [List.length_map, (srtQ_perm st).length_eq]
theorem asS_bars (st : Strd) : ((asS st).map (·.1)).Perm (st.map (·.1)) := by
  unfold asS
  rw [List.map_map]
  exact (srtQ_perm st).map _
theorem sg0_one {st : Strd} (h : goodS st) : sg0 st = 1 ∨ sg0 st = -1 := by
  unfold sg0
  cases e : srtQ st with
  | nil =>
    have := (srtQ_perm st).length_eq
    rw [e] at this
    exact absurd (List.eq_nil_of_length_eq_zero this.symm) h.1
  | cons q r => exact h.2.2 q ((srtQ_perm st).mem_iff.mp (by rw [e]; exact List.mem_cons_self ..))
theorem asS_good {st : Strd} (h : goodS st) : goodS (asS st) := by
  refine ⟨fun e => ?_, ?_, fun q hq => ?_⟩
  · have := asS_len st
    rw [e] at this
    exact h.1 (List.eq_nil_of_length_eq_zero this.symm)
  · rw [asS_len]
    exact h.2.1
  · obtain ⟨p, hp, rfl⟩ := List.mem_map.mp hq
    have a := h.2.2 p ((srtQ_perm st).mem_iff.mp hp)
    have b := sg0_one h
    show p.2 * sg0 st = 1 ∨ p.2 * sg0 st = -1
    rcases a with a | a <;> rcases b with b | b <;> rw [a, b] <;> decide
theorem sum_perm {a b : List Int} (p : a.Perm b) : a.sum = b.sum := by
  induction p with
  | nil => rfl
  | cons x _ ih => rw [List.sum_cons, List.sum_cons, ih]
  | swap x y l => simp only [List.sum_cons]; omega
  | trans _ _ h1 h2 => rw [h1, h2]
theorem sum_mulR (c : Int) : ∀ l : List Int, (l.map (· * c)).sum = l.sum * c
  | [] => by simp
  | x :: l => by rw [List.map_cons, List.sum_cons, List.sum_cons, sum_mulR c l, Int.add_mul]
theorem net_perm {ls : List Int} {a b : Strd} (p : a.Perm b) : net ls a = net ls b := sum_perm (p.map _)
def absI (z : Int) : Int := if z < 0 then -z else z
theorem absI_nat (z : Int) : absI z = (z.natAbs : Int) := by
  unfold absI
  split <;> omega
theorem net_asS {ls : List Int} {st : Strd} (h : goodS st) : absI (net ls (asS st)) = absI (net ls st) := by
  have e : net ls (asS st) = net ls st * sg0 st := by
    rw [← net_perm (srtQ_perm st)]
    unfold net asS
    rw [List.map_map, ← sum_mulR, List.map_map]
    congr 1
    refine List.map_congr_left fun q _ => ?_
    show ls.getD q.1.toNat 0 * (q.2 * sg0 st) = ls.getD q.1.toNat 0 * q.2 * sg0 st
    rw [Int.mul_assoc]
  rw [e, absI_nat, absI_nat, Int.natAbs_mul]
  rcases sg0_one h with k | k <;> rw [k] <;> simp
/-! ### strands as data -/
def pairD (q : Int × Int) : PyData := .tuple [.int q.1, .int q.2]
def strdD (st : Strd) : PyData := .tuple (st.map pairD)
def wayD (w : List Strd) : PyData := .tuple (w.map strdD)
theorem alike_pairs : ∀ a b : Strd, PySem.W.alikeAll (a.map pairD) (b.map pairD) = true
  | [], _ => by simp [PySem.W.alikeAll]
  | _ :: _, [] => by simp [PySem.W.alikeAll]
  | x :: a, y :: b => by
    show PySem.W.alikeAll (pairD x :: a.map pairD) (pairD y :: b.map pairD) = true
    rw [PySem.W.alikeAll, alike_pairs a b]
    simp [PySem.W.alike, PySem.W.alikeAll, pairD]
theorem deep_pairs : ∀ a : Strd, PyData.depthAll (a.map pairD) ≤ 1
  | [] => by simp [PyData.depthAll]
  | x :: a => by
    have ih := deep_pairs a
    rw [List.map_cons]
    simp [PyData.depthAll, PyData.depth, pairD]
    omega
theorem strd_dp {K : PySem.W.Frag} {H : Hp} : ∀ {xs : List V} {st : Strd}, Paired (SPat H) xs st → DpAll K H xs (st.map pairD)
  | _, _, .nil => .nil
  | _, _, .cons ⟨a, e, h⟩ t => .cons (by rw [e]; exact .tup (.inl (.inl h)) (.cons (.int _) (.cons (.int _) .nil))) (strd_dp t)
def sk (H : Hp) (x : V) : Strd := match x with
  | .ref a => (match H a with
    | some (.tup xs) => xs.map (pk H)
    | _ => [])
  | _ => []
theorem sk_at {H : Hp} {v : V} {st : Strd} (h : SSat H v st) : sk H v = st := by
  obtain ⟨a, xs, rfl, h, p⟩ := h
  show (match H a with
    | some (.tup xs) => xs.map (pk H)
    | _ => []) = st
  rw [h]
  exact pk_map p
theorem sk_map {H : Hp} : ∀ {xs : List V} {way : List Strd}, Paired (SSat H) xs way → xs.map (sk H) = way
  | _, _, .nil => rfl
  | _, _, .cons h t => by rw [List.map_cons, sk_at h, sk_map t]
theorem ss_of {H : Hp} : ∀ zs : List V, (∀ z ∈ zs, ∃ st, SSat H z st) → Paired (SSat H) zs (zs.map (sk H)) := by
  intro zs
  induction zs with
  | nil => exact fun _ => .nil
  | cons z zs ih =>
    intro k
    obtain ⟨st, hs⟩ := k z (List.mem_cons_self ..)
    exact .cons (by rw [sk_at hs]; exact hs) (ih fun y hy => k y (List.mem_cons_of_mem _ hy))
theorem strd_data {K : PySem.W.Frag} {H : Hp} {v : V} {st : Strd} (h : SSat H v st) : Dp K H v (strdD st) := by
  obtain ⟨a, xs, rfl, ha, px⟩ := h
  exact .tup (.inl (.inl ha)) (strd_dp px)
/-! ### sorted(..) of a list of data that are tuples: the very order -/
theorem each_data {X : Cx} {pns : List (Addr × Obj)} {σs : St} {Hh : Hp} {s : Shared} (Iv : L2.Inv X pns σs Hh s) {k : V → PyData} : ∀ {ys : List V} {out : List Value}, Vals ys out → (∀ x ∈ ys, Dp X.K Hh x (k x)) →
    PySem.W.EachIs (fun v b => ∃ as, Reads s.heap v (k b) as) out ys
  | _, _, .nil, _ => .nil
  | y :: ys, u :: out, .cons r t, h => .cons (Dp.reads Iv (k y) y u (h y (List.mem_cons_self ..)) r) (each_data Iv t fun x hx => h x (List.mem_cons_of_mem _ hx))
def srtW (w : List Strd) : List Strd := w.mergeSort (PySem.W.dataLe false strdD)
def rSortW (K : PySem.W.Frag) : List V → Hp → VK → Prop := fun vxs Hh Qq => ∃ (a : Addr) (xs : List V) (way : List Strd), vxs = [.ref a] ∧ SqL K Hh a xs ∧ Paired (SSat Hh) xs way ∧ (∀ st ∈ way, st ≠ []) ∧
  ∀ p ys, ys.Perm xs → Hh p = none → Paired (SSat Hh) ys (srtW way) → Qq (.ref p) (upd Hh p (.lst ys))
/-- an order by data: total, and alike only what is one -/
theorem le_trans' {α : Type} (k : α → PyData) (a b c : α) (h1 : PySem.W.dataLe false k a b = true) (h2 : PySem.W.dataLe false k b c = true) : PySem.W.dataLe false k a c = true := (PySem.W.sortLe_total (PyProof.Rows.listOrd PyProof.Rows.itemOrd) false (fun x => PySem.W.keyToks (k x))).trans a b c h1 h2
theorem le_total' {α : Type} (k : α → PyData) (a b : α) : (PySem.W.dataLe false k a b || PySem.W.dataLe false k b a) = true := Bool.or_eq_true _ _ |>.mpr ((PySem.W.sortLe_total (PyProof.Rows.listOrd PyProof.Rows.itemOrd) false (fun x => PySem.W.keyToks (k x))).total a b)
theorem le_anti {α : Type} {k : α → PyData} (inj : ∀ a b, PySem.W.keyToks (k a) = PySem.W.keyToks (k b) → a = b) {a b : α} (h1 : PySem.W.dataLe false k a b = true) (h2 : PySem.W.dataLe false k b a = true) : a = b := by
  have h1' : (!(PyProof.Rows.listOrd PyProof.Rows.itemOrd).blt (PySem.W.keyToks (k b)) (PySem.W.keyToks (k a))) = true := h1
  have h2' : (!(PyProof.Rows.listOrd PyProof.Rows.itemOrd).blt (PySem.W.keyToks (k a)) (PySem.W.keyToks (k b))) = true := h2
  rw [Bool.not_eq_true'] at h1' h2'
  exact inj _ _ ((PyProof.Rows.listOrd PyProof.Rows.itemOrd).total _ _ h2' h1')
theorem sort_uniq {α : Type} {k : α → PyData} (inj : ∀ a b, PySem.W.keyToks (k a) = PySem.W.keyToks (k b) → a = b) {l m : List α} (p : l.Perm m) (hl : l.Pairwise fun a b => PySem.W.dataLe false k a b = true) : l = m.mergeSort (PySem.W.dataLe false k) :=
  List.Perm.eq_of_pairwise (fun x y _ _ h1 h2 => le_anti inj h1 h2) hl (List.pairwise_mergeSort (le_trans' k) (le_total' k) m) (p.trans (List.mergeSort_perm ..).symm)
theorem strdT_inj : ∀ {l m : Strd} {r t : List (Int ⊕ List Nat)}, PySem.W.keyToksAll (l.map pairD) ++ r = PySem.W.keyToksAll (m.map pairD) ++ t → l = m ∧ r = t
  | [], [], r, t, h => by
    simp only [List.map_nil, PySem.W.keyToksAll, List.singleton_append] at h
    exact ⟨rfl, (List.cons.inj h).2⟩
  | [], y :: m, r, t, h => by
    simp only [List.map_nil, List.map_cons, PySem.W.keyToksAll, List.singleton_append, List.cons_append] at h
    have := Sum.inl.inj (List.cons.inj h).1
    omega
  | x :: l, [], r, t, h => by
    simp only [List.map_nil, List.map_cons, PySem.W.keyToksAll, List.singleton_append, List.cons_append] at h
    have := Sum.inl.inj (List.cons.inj h).1
    omega
  | x :: l, y :: m, r, t, h => by
    simp only [List.map_cons, pairD, PySem.W.keyToksAll, PySem.W.keyToks, List.cons_append, List.append_assoc, List.nil_append] at h
    simp only [List.cons.injEq, Sum.inl.injEq, true_and] at h
    obtain ⟨h1, h2, h3⟩ := h
    obtain ⟨a, b⟩ := strdT_inj (l := l) (m := m) (r := r) (t := t) h3
    exact ⟨by rw [a, Prod.ext h1 h2], b⟩
theorem strd_toks {c e : Strd} (h : PySem.W.keyToks (strdD c) = PySem.W.keyToks (strdD e)) : c = e := by
  unfold strdD at h
  rw [PySem.W.keyToks, PySem.W.keyToks] at h
  have : PySem.W.keyToksAll (c.map pairD) ++ [] = PySem.W.keyToksAll (e.map pairD) ++ [] := by rw [List.append_nil, List.append_nil]; exact h
  exact (strdT_inj this).1
theorem srtW_perm (w : List Strd) : (srtW w).Perm w := List.mergeSort_perm ..
theorem srtW_of_perm {l m : List Strd} (p : l.Perm m) : srtW l = srtW m := sort_uniq (fun _ _ => strd_toks) ((srtW_perm l).trans p) (List.pairwise_mergeSort (le_trans' strdD) (le_total' strdD) l)
theorem map_sortW {k : V → PyData} {f : V → Strd} (h : ∀ x, k x = strdD (f x)) (xs : List V) : (xs.mergeSort (PySem.W.dataLe false k)).map f = srtW (xs.map f) := by
  refine sort_uniq (fun _ _ => strd_toks) ((List.mergeSort_perm ..).map f) ?_
  rw [List.pairwise_map]
  refine (List.pairwise_mergeSort (le_trans' k) (le_total' k) xs).imp fun {a b} z => ?_
  have e : PySem.W.dataLe false k a b = PySem.W.dataLe false strdD (f a) (f b) := by
    show (!(PyProof.Rows.listOrd PyProof.Rows.itemOrd).blt (PySem.W.keyToks (k b)) (PySem.W.keyToks (k a))) = (!(PyProof.Rows.listOrd PyProof.Rows.itemOrd).blt (PySem.W.keyToks (strdD (f b))) (PySem.W.keyToks (strdD (f a))))
    rw [h, h]
  rw [← e]
  exact z
theorem cr_sortW {X : Cx} (hu : X.A.units + 64 < cLine) : CallR X (.builtin "sorted") (rSortW X.K) := by
  rintro pns s σs Hh vxs uvs Qq Iv rr ⟨a, xs, way, rfl, hs, px, hne, qq⟩
  obtain ⟨its, rv, hl, hsz⟩ := Iv.list hs
  rw [Vals.ref1 rr]
  have each : ∀ x ∈ xs, ∃ st, st ≠ [] ∧ SSat Hh x st := fun x hx => by
    obtain ⟨st, m, h⟩ := par_mem px hx
    exact ⟨st, hne st m, h⟩
  refine PySem.W.sorted_data (β := V) (R := fun u x => RelV x u) (enc := fun x => strdD (sk Hh x)) hl.isList (vals_each rv) (each_data Iv rv fun x hx => let ⟨st, _, h⟩ := each x hx; by rw [sk_at h]; exact strd_data h) (PySem.W.AllAlike.of fun b b' => by
    show PySem.W.alike (strdD _) (strdD _) = true
    unfold strdD
    rw [PySem.W.alike]
    exact alike_pairs _ _) (.inl fun d hd => ?_) hsz (fun x _ => ?_) fun out ho heach => ?_
  · obtain ⟨x, hxm, rfl⟩ := List.mem_map.mp hd
    obtain ⟨st, ne, h⟩ := each x hxm
    rw [sk_at h]
    cases st with
    | nil => exact absurd rfl ne
    | cons z zs => exact ⟨pairD z, zs.map pairD, rfl⟩
  · have := deep_pairs (sk Hh x)
    simp only [strdD, PyData.depth]
    omega
  · have hpm : (xs.mergeSort (PySem.W.dataLe false fun x => strdD (sk Hh x))).Perm xs := List.mergeSort_perm ..
    obtain ⟨n, hnn⟩ := PyProof.Rows.sortedAll_at s.heap its out.toArray
    have nf := Iv.hok.fresh (Nat.le_succ s.heap.objs.size)
    refine ⟨.ref _, upd Hh (s.heap.objs.size + 1) (.lst (xs.mergeSort (PySem.W.dataLe false fun x => strdD (sk Hh x)))), Iv.laid (t' := s.toks) (fun _ _ => PyProof.Rows.sortedAll_old) (Nat.le_succ _) ⟨by rw [hpm.length_eq]; exact hsz, out, n, each_vals heach, hnn⟩, rfl, qq _ _ hpm nf ?_⟩
    have h1 := ss_of (xs.mergeSort (PySem.W.dataLe false fun x => strdD (sk Hh x))) fun z hz => let ⟨st, _, h⟩ := each z (hpm.mem_iff.mp hz); ⟨st, h⟩
    rw [map_sortW (f := sk Hh) (fun _ => rfl), sk_map px] at h1
    exact h1
end K
namespace Rg
open PySem PySem.Spec PyProof.Rows L2
/-! ### set(xs) of a list of ints; sorted and len of a set of ints, any number of them -/
/-- an empty set, as the call makes it -/
abbrev mtSet (w : World) : Obj := { cls := .type "set", dict := none, data := .set #[] 0 (.fresh 0 0 (!w.params.followText "set-order")) }
section
variable {P : Program} {w : World} {B : Around} {E : Value → Shared → Prop} {z : Shared}
/-- an empty set is filled from a list of ints -/
theorem fill_set {a l : Addr} {arr : Array Value} (zs : List Int) {R : PySem.Fin → Shared → Prop} (calm : B.handled = none) (ga : z.heap.get? a = some (mtSet w)) (gl : z.heap.IsList l arr) (al : a ≠ l) (iz : IntsAre arr.toList zs) (few : zs.length + 1 < scanBound)
    (fin : ∀ (g : Heap) (tk m : Nat), SetR w g a (fun j => decide (j ∈ zs)) m → m ≤ zs.length → (∀ b u, b ≠ a → z.heap.get? b = some u → g.get? b = some u) → R (.done (.ret .none)) { z with heap := g, toks := tk }) :
    wpAny (model P w) B (Builtin.«set.__init__» ⟨[.ref a, .ref l], []⟩) R E z := by
  have same : arr.size = zs.length := by have q := iz.length; rwa [Array.length_toList] at q
  have la := Heap.lt_size ga
  have kept : ∀ {b : Addr} {u v : Obj}, z.heap.get? b = some u → (z.heap.push v).get? b = some u := fun q => Heap.get?_push_of_some _ q
  obtain ⟨⟨oc, od, ob, os⟩, gob, ec, nl, eb⟩ := id gl
  cases ec
  cases eb
  have ll := Heap.lt_size gob
  have y1 := PySem.F.sub_list_set
  have y2 := PySem.F.sub_list_frozenset
  have y3 : (Value.type "list" == Value.type "dict") = false := by decide
  have y4 := sub_set_self
  have ty : z.TypeIs (.ref a) "set" := ⟨_, ga, rfl⟩
  unfold Builtin.«set.__init__»
  unfold noKeywords
  unfold Builtin.Frozenset.updateFrom
  generalize hold : pyIter = it
  wp_walk
  subst hold
  refine wpAny_pyIter_list gl (wpAny_bind (wpAny_runValue ?_))
  have W := (Walks.list (prog := P) (w := w) (A := B.in1) (by simp [calm]) z.heap.objs.size l (Nat.ne_of_lt ll) arr).toS
  refine set_update_ints W a (by simp only [List.mem_cons, List.not_mem_nil, or_false, not_or]; exact ⟨Nat.ne_of_lt la, al⟩) zs same few (fun i v hv => ?_) (arr.size - 0) 0 _ (by omega) (Nat.zero_le _) ?_ ⟨0, Nat.le_refl 0, ?_⟩ fun t m mv ml R1 => ?_
  · have lt : i < zs.length := same ▸ (Array.getElem?_eq_some_iff.mp hv).1
    obtain ⟨t, q⟩ := PyProof.Rows.IntsAre.int_at iz i v (by rw [Array.getElem?_toList]; exact hv)
    exact ⟨zs[i], t, List.getElem?_eq_getElem lt, by rw [q, List.getD_eq_getElem?_getD, List.getElem?_eq_getElem lt] <;> rfl⟩
  · exact ⟨⟨_, Heap.get?_push_size _ rfl, rfl, rfl⟩, gl.push _⟩
  · exact setR_new_at (Heap.get?_push_of_some _ ga)
  · have g1 : t.gens = z.gens := mv.gens
    have g2 : t.drawn = z.drawn := mv.drawn
    have g3 : t.os = z.os := mv.os
    have same3 : t = { z with heap := t.heap, toks := t.toks } := by
      obtain ⟨t1, t2, t3, t4, t5⟩ := t
      simp only at g1 g2 g3
      subst g1 g2 g3
      rfl
    rw [same3]
    exact wpAny_pure (wpAny_pure (fin _ _ m R1 (same ▸ ml) fun b u ba gb => mv.heap b u (by simp only [List.mem_cons, List.not_mem_nil, or_false, not_or]; exact ⟨ba, Nat.ne_of_lt (Heap.lt_size gb)⟩) (kept gb)))
theorem set_of_list {A : Around} {l : Addr} {arr : Array Value} (zs : List Int) {Q : Value → Shared → Prop} (calm : A.handled = none) (gl : z.heap.IsList l arr) (iz : IntsAre arr.toList zs) (few : zs.length + 1 < scanBound)
    (fin : ∀ (g : Heap) (tk m : Nat), SetR w g z.heap.objs.size (fun j => decide (j ∈ zs)) m → m ≤ zs.length → (∀ b u, z.heap.get? b = some u → g.get? b = some u) → Q (.ref z.heap.objs.size) { z with heap := g, toks := tk }) : wpAny (model P w) A (call (.type "set") [.ref l]) Q E z := by
  have CS := PySem.F.called_set
  obtain ⟨k0, ks, ms⟩ := CS.mro
  have m1 := CS.made
  have m2 := CS.sub
  have m3 := CS.notType
  have m4 := CS.canCreate
  have m5 := PySem.F.typeCall_set_1 (.ref l)
  have m6 := CS.init.lookup
  have m7 := CS.init.bind (.ref z.heap.objs.size)
  have ll : l < z.heap.objs.size := by
    obtain ⟨o, go, _⟩ := gl
    exact Heap.lt_size go
  have new : (z.heap.push (mtSet w)).get? z.heap.objs.size = some (mtSet w) := Heap.get?_push_size _ rfl
  refine wpAny_call (codeAny_of_tree (show wpAny _ _ (callAny (.type "set") _) _ _ _ from wpAny_pure ⟨Code.quiet_builtin _ (by decide +kernel), codeAny_builtin PySem.F.entry_type_call ?_⟩))
  rw [Around.under_plain (weight_type_call_type "set" [.ref l] []) rfl]
  (repeat any_goals first | assumption | wp_step)
  refine codeAny_mono (code_set_led1 (.ref l) (E := E) (Q₁ := fun y t => y = .ref z.heap.objs.size ∧ t = { z with heap := z.heap.push (mtSet w) }) ⟨rfl, rfl⟩) fun r t hr => ?_
  rcases r with e | f
  · exact hr
  rcases f with _ | _ | _ | y
  all_goals first | (exact hr.elim; done) | skip
  obtain ⟨rfl, rfl⟩ := hr
  (repeat any_goals first | assumption | wp_step)
  refine codeAny_mono (codeAny_call_builtin (R := wants (fun y t => y = .none ∧ ∃ g tk m, t = { z with heap := g, toks := tk } ∧ SetR w g z.heap.objs.size (fun j => decide (j ∈ zs)) m ∧ m ≤ zs.length ∧ ∀ b u, z.heap.get? b = some u → g.get? b = some u) E) CS.init.plain PySem.F.entry_set_init (check_set_init_1 ⟨_, new, rfl⟩ ?_)) fun r t hr => ?_
  · exact fill_set (z := { z with heap := z.heap.push (mtSet w) }) zs (by simp [calm]) new (gl.push _) (Nat.ne_of_gt ll) iz few fun g tk m R1 ml k => ⟨rfl, g, tk, m, rfl, R1, ml, fun b u gb => k b u (Nat.ne_of_lt (Heap.lt_size gb)) (Heap.get?_push_of_some _ gb)⟩
  rcases r with e | f
  · exact hr
  rcases f with _ | _ | _ | y
  all_goals first | (exact hr.elim; done) | skip
  obtain ⟨rfl, g, tk, m, rfl, R1, ml, k⟩ := hr
  (repeat any_goals first | assumption | wp_step)
  exact fin g tk m R1 ml k
end

section
variable {P : Program} {w : World} {B : Around} {E : Value → Shared → Prop} {z : Shared}
theorem sort_ofSet {a : Addr} {S : Int → Bool} {n : Nat} {Q : Value → Shared → Prop} (R : SetR w z.heap a S n) (calm : B.handled = none) (few : n ≤ 4000)
    (fin : ∀ t p (out : List Value) (c : Nat) (zs : List Int), (∀ b u, z.heap.get? b = some u → t.heap.get? b = some u) → t.gens = z.gens → t.os = z.os → z.heap.objs.size ≤ p → t.heap.get? p = some (seqObj "list" out.toArray c) →
      IntsAre out zs → zs.Pairwise (· < ·) → (∀ k, k ∈ zs ↔ S k = true) → zs.length = n → Q (.ref p) t) : wpAny (model P w) B (call (.builtin "sorted") [.ref a]) Q E z := by
  rcases R with ⟨ob, es, ep, tb, gob, ex, eb, good, once, mem, small, fits, size, ris, led⟩
  refine Calls.call_function_entry kind_sorted plain_sorted entry_sorted (args_sorted1 (.ref a)) ?_
  unfold Builtin.«sorted»
  refine wpAny_bind (m := checkCount "sorted" 1 1 _) (wpAny_pure (wpAny_bind (collect_set (A := B.in1) calm ⟨ob, gob, ex.1, eb⟩ fits small ris led fun t us keep le tg to perm => ?_)))
  have un : us.length = n := by rw [perm.length_eq, List.length_map, Array.length_toList, size]
  have uz : us.length ≤ sizeLine := un ▸ Nat.le_trans few (by decide)
  have nums : IntsAre us (us.map SrtO.iv) := SrtO.ints_iv fun v hv => by
    obtain ⟨q, hq, rfl⟩ := List.mem_map.mp (perm.mem_iff.mp hv)
    obtain ⟨x, tk, ev, _⟩ := good q hq
    exact ⟨x, tk, ev⟩
  have keys : (us.map SrtO.iv).Perm (es.toList.map keyOf) := by
    refine (perm.map SrtO.iv).trans (List.Perm.of_eq ?_)
    rw [List.map_map]
    exact List.map_congr_left fun q _ => by
      obtain ⟨_, v⟩ := q
      cases v <;> rfl
  have new : (t.heap.push (seqObj "list" us.toArray 0)).get? t.heap.objs.size = some (seqObj "list" us.toArray 0) := Heap.get?_push_size _ rfl
  refine wpAny_bind (wpAny_newList (wpAny_bind (wpAny_holding (wpAny_call_entry slot_list_sort ⟨_, new, rfl⟩ entry_list_sort (SrtO.list_sort_ord SrtO.swo_int new uz (fun two => SrtO.ints_sortable nums two) fun out od st => ⟨_, rfl, ?_⟩) (args_list_sort _)))) uz)
  obtain ⟨i1, i2, i3⟩ := SrtO.ints_out nums od st
  obtain ⟨c, gc⟩ := PyProof.Rows.sortedHeap_at (vs := us) (out := out.toArray) new
  have all := i2.trans keys
  refine wpAny_pure ⟨_, rfl, fin _ t.heap.objs.size out c (out.map SrtO.iv) (fun b u gb => ?_) tg to le gc i1 (lt_of_le_nodup _ i3 (all.nodup_iff.mpr once)) (fun k => by rw [all.mem_iff]; exact (mem k).symm) (by rw [all.length_eq, List.length_map, Array.length_toList, size])⟩
  have old := Heap.lt_size (keep b u gb)
  exact (PyProof.Rows.sortedHeap_old (Nat.ne_of_lt old) (by rw [size_push']; exact Nat.lt_succ_of_lt old)).trans (Heap.get?_push_of_some _ (keep b u gb))
end
/-- set(xs), xs a list of ints -/
def rSetL (w : World) (K : PySem.W.Frag) : List V → Hp → VK → Prop := fun xs Hh Qq => ∃ (a : Addr) (zs : List Int), xs = [V.ref a] ∧ SqL K Hh a (zs.map V.int) ∧ zs.length ≤ 4000 ∧
  ∀ (p : Addr) (ks : List Int), ks.Nodup → (∀ k, k ∈ ks ↔ k ∈ zs) → ks.length ≤ zs.length → Hh p = none → Qq (.ref p) (upd Hh p (SetO w p (fun j => decide (j ∈ zs)) ks.length))
/-- sorted(found) of a set of ints -/
def rSortedSetN (w : World) : List V → Hp → VK → Prop := fun xs Hh Qq => ∃ (a : Addr) (S : Int → Bool) (n : Nat), xs = [V.ref a] ∧ Hh a = some (SetO w a S n) ∧ n ≤ 4000 ∧
  ∀ (zs : List Int) (p : Addr), zs.Pairwise (· < ·) → (∀ k : Int, k ∈ zs ↔ S k = true) → zs.length = n → Hh p = none → Qq (.ref p) (upd Hh p (.lst (zs.map V.int)))
/-- len(found) of a set of ints -/
def rLenSetO (w : World) : List V → Hp → VK → Prop := fun xs Hh Qq => ∃ (a : Addr) (S : Int → Bool) (n : Nat), xs = [V.ref a] ∧ Hh a = some (SetO w a S n) ∧ n ≤ 4000 ∧ Qq (.int n) Hh
section
variable {X : Cx}
theorem cr_setL (calm : X.calm = true) : CallR X (.type "set") (rSetL X.w X.K) := by
  rintro pns t σs Hh xs us Qq Iv rr ⟨a, zs, rfl, seq, few, q⟩
  obtain ⟨its, vals, lst, _⟩ := Iv.list seq
  rw [Vals.ref1 rr]
  refine set_of_list zs (Iv.ok.hd calm) lst.isList (by simpa using vals.ints) (by unfold scanBound; omega) fun g tk m R1 ml keep => ?_
  have free := Iv.hok.fresh (Nat.le_refl t.heap.objs.size)
  obtain ⟨ob, es, ep, tb, gob, ex, eb, good, once, mem, small, fits, size, ris, led⟩ := id R1
  have lk : (es.toList.map keyOf).length = m := by rw [List.length_map, Array.length_toList, size]
  have done := q t.heap.objs.size (es.toList.map keyOf) once (fun j => (mem j).symm.trans decide_eq_true_iff) (by rw [lk]; exact ml) free
  rw [lk] at done
  exact ⟨.ref _, _, Iv.laid (t' := tk) (fun b u gb => keep b u gb) (Nat.le_refl _) (setO_new R1), rfl, done⟩
theorem cr_sortedSetN (calm : X.calm = true) : CallR X (.builtin "sorted") (rSortedSetN X.w) := by
  rintro pns t σs Hh xs us Qq Iv rr ⟨a, S, n, rfl, ha, few, q⟩
  rw [Vals.ref1 rr]
  refine sort_ofSet (setO_get Iv ha) (Iv.ok.hd calm) few fun t2 p out c zs keep tg to le gp nums asc mem size => ?_
  have free : Hh p = none := Iv.hok.fresh le
  have fit : (zs.map V.int).length ≤ sizeLine := by rw [List.length_map, size]; exact Nat.le_trans few (by decide)
  have I2 : L2.Inv X pns σs (upd Hh p (.lst (zs.map V.int))) { t with heap := t2.heap, gens := t2.gens, drawn := t2.drawn, toks := t2.toks } := Iv.call (ch := []) (Un.laid keep le free) (Iv.hok.laid keep le ⟨fit, out, c, vals_of_ints nums, gp⟩) (by rw [tg]; exact Iv.bare) (fun _ x => nomatch x)
  obtain ⟨t21, t22, t23, t24, t25⟩ := t2
  cases to
  exact ⟨.ref p, _, I2, rfl, q zs p asc mem size free⟩
theorem cr_lenSetO : CallR X (.builtin "len") (rLenSetO X.w) := by
  rintro pns t σs Hh xs us Qq Iv rr ⟨a, S, n, rfl, ha, few, q⟩
  rw [Vals.ref1 rr]
  obtain ⟨ob, es, ep, tb, gob, ex, eb, good, once, mem, small, fits, size, ris, led⟩ := setO_get Iv ha
  exact call_len_set gob ex eb fits (by rw [size]; omega) ⟨.int n, Hh, Iv.tok _, ⟨_, by rw [size]⟩, q⟩
end
end Rg
namespace Rg
open PySem PySem.Spec PyProof.Rows L2
/-! ### sorted(t), t a tuple of pairs of ints -/
def rSortedTP (K : PySem.W.Frag) : List V → Hp → VK → Prop := fun xs Hh Qq => ∃ (a : Addr) (ys : List V) (k : V → Int × Int), xs = [V.ref a] ∧ SqT K Hh a ys ∧ (∀ y ∈ ys, ∃ t, y = V.ref t ∧ Hh t = some (.tup [.int (k y).1, .int (k y).2])) ∧
  ∀ (zs : List V) (p : Addr), SrtO.Srtd (ltP k) zs → SrtO.Stb (ltP k) zs ys → Hh p = none → Qq (.ref p) (upd Hh p (.lst zs))
theorem cr_sortedTP {X : Cx} : CallR X (.builtin "sorted") (rSortedTP X.K) := by
  rintro pns s σs Hh xs us Qq Iv rr ⟨a, ys, k, rfl, seq, pairs, q⟩
  obtain ⟨vls, vals, tp, fit⟩ := Iv.tuple seq
  rw [Vals.ref1 rr]
  obtain ⟨back, refs⟩ := refs_back vals fun x m => let ⟨t, e, _⟩ := pairs x m; ⟨t, e⟩
  have two : ∀ {h₁ : Heap}, (∀ b oj, s.heap.get? b = some oj → h₁.get? b = some oj) → ∀ v ∈ vls, Srt.IsPair h₁ v (k (backV v)).1 (k (backV v)).2 := fun keep v m => by
    obtain ⟨t, rfl⟩ := refs v m
    obtain ⟨t', e, at'⟩ := pairs (V.ref t) (by rw [back]; exact List.mem_map.mpr ⟨_, m, rfl⟩)
    cases e
    obtain ⟨_, its, r2, ob, go, cl, n, dat⟩ := Iv.hok _ _ at'
    obtain ⟨u1, u2, rfl, ⟨t1, rfl⟩, t2, rfl⟩ := vals2 r2
    exact ⟨t, ob, t1, t2, n, rfl, keep _ _ go, cl, dat⟩
  refine sorted_tup (SrtO.swo_lex fun u => k (backV u)) (isTuple_of tp) (by rw [← vals.length]; exact fit) (fun h2 h₁ a' new keep => SrtO.pairs_sortableO (by omega) (two fun b oj g => (keep b oj g).2) fun o g c => ?_) fun out ord st => ?_
  · rw [show h₁.get? a' = _ from new] at g
    cases g
    exact absurd (Value.type.inj c) (by decide)
  · have outs : ∀ u ∈ out, ∃ b, u = Value.ref b := fun u m => refs u (st.perm.mem_iff.mp m)
    obtain ⟨ep, gp⟩ := PyProof.Rows.sortedAll_at s.heap vls out.toArray
    have stb : SrtO.Stb (ltP k) (out.map backV) ys := by
      rw [back]
      exact SrtO.Stb.map (ltP_swo k) backV st
    exact ⟨.ref _, upd Hh (s.heap.objs.size + 1) (.lst (out.map backV)), Iv.laid (t' := s.toks) (fun _ _ => PyProof.Rows.sortedAll_old) (Nat.le_succ _) ⟨by rw [stb.len]; exact fit, out, ep, vals_back outs, gp⟩, rfl, q _ _ (SrtO.srtd_map ord) stb (Iv.hok.fresh (Nat.le_succ _))⟩
end Rg
namespace K
open PySem L2 Rg LamX
open Evl (pss_cut)
section
variable {P : Program} {w : World} {K : PySem.W.Frag} {mg : Str → Option Value} {base : Heap}
/-! ### as_strand -/
def spAsS : Sp := fun vs H Q _ => ∃ (v : V) (st : Strd), vs = [v] ∧ SSat H v st ∧ goodS st ∧ ∀ v' H', Same H H' → SSat H' v' (asS st) → Q v' H'
abbrev nAsS : List Str := ["pairs", "rows", "bar", "sign"]
theorem scAsS : FnScope nAsS ["pairs"] (defScope sAsStrand) := ⟨rfl, rfl, rfl, by decide +kernel, rfl, by decide +kernel, by decide +kernel⟩
theorem ok_asS {f : Addr} {fd : FuncData} (F : Fun K "as_strand" "as_strand" sAsStrand f fd) (T : Bi mg) : FnOk P w K mg base CX0 1 f fd ["pairs"] spAsS := by
  refine F.ok scAsS (fun vs H Q E h => ?_) (fun cdv A outer s H vs Q E hr h => ?_)
  · obtain ⟨v, st, rfl, _⟩ := h
    rfl
  · have nd := scAsS.nd
    refine ⟨_, pss_cons (ps_set (i := 1) nd rfl (Or.inr rfl) (pe_callB cr_sortedTP (by rfl) T.sorted (by decide +kernel) (pa_cons (pv 0) pa_nil)))
      (pss_one (ps_ret (pe_callTy call_tuple_of (by rfl) T.tuple (by decide +kernel) (pa_cons (pe_lc (own := [("bar", 2), ("sign", 3)]) (g := gTup K 2 (gCons (gName 2) (gCons (gName 3) gNil))) (tt := tYes) (te := tTup (tCons (tVar 2) (tCons (tOp (rI CMul fun i j => .int (i * j)) (tVar 3) (tOp (rIxT K) (tOp (rIxL K) (tVar 1) (tC (.int 0))) (tC (.int 1)))) tNil))) rfl nd (pi_list (pv 1))
        (blkOk_by (N := nAsS) (sc := defScope sAsStrand) (by decide +kernel)) (fun _ _ _ _ _ => pg_tup rfl (pgs_cons (pg_name (i := 2) nd rfl (Or.inl rfl)) (pgs_cons (pg_name (i := 3) nd rfl (Or.inl rfl)) pgs_nil))) (fun _ _ _ _ _ => pts_nil)
        (fun _ _ _ _ _ => pe_tup (pa_cons (pv 2) (pa_cons (pe_op op_mul (pv 3) (pe_ix (r := rIxT K) ix_tup (pe_ix (r := rIxL K) ix_list (pv 1) pe_int (fun _ _ => rfl)) pe_int (fun _ _ => rfl))) pa_nil)))) pa_nil)))), ?_⟩
    obtain ⟨v, st, rfl, ⟨a, xs, rfl, ha, px⟩, gs, k⟩ := h
    have l8 := gs.2.1
    refine ⟨_, rfl, a, xs, pk H, rfl, .inl (.inl ha), pairs_of px, fun zs p srt stb hp => ?_⟩
    have pz0 := srt_pairs px srt stb.perm
    have s1 : Same H (upd H p (.lst zs)) := (Same.refl H).new hp
    have hp1 : upd H p (.lst zs) p = some (.lst zs) := upd_same
    have pz := par_imp (fun _ _ z => SPat.same z s1) pz0
    generalize upd H p (.lst zs) = H1 at s1 hp1 pz ⊢
    have zl : zs.length = st.length := by rw [par_len pz, (srtQ_perm st).length_eq]
    have ql : (srtQ st).length = st.length := (srtQ_perm st).length_eq
    have z1 : 0 < zs.length := by
      have := List.length_pos_iff.mpr gs.1
      omega
    obtain ⟨y0, hy0⟩ : ∃ y0, zs[0]? = some y0 := ⟨_, List.getElem?_eq_getElem z1⟩
    obtain ⟨q0, hq0, c, rfl, hc⟩ := par_get pz hy0
    have es : sg0 st = q0.2 := by
      unfold sg0
      cases e : srtQ st with
      | nil => rw [e] at hq0; cases hq0
      | cons u r => rw [e] at hq0; cases hq0; rfl
    refine ⟨_, rfl, p, rfl, ⟨_, SqL.of hp1⟩, fun D hD => ?_⟩
    refine lc_list (K := K) (a := p) (xs := zs) (fun j H' => Same H1 H' ∧ ∃ us, H' D = some (.lst us) ∧ Paired (SPat H') us ((asS st).take j)) ⟨(Same.refl H1).new hD, [], upd_same, .nil⟩ (fun j H' _ r => r.1.seq (SqL.of hp1)) ?_ ?_
    · rintro j y H' hj ⟨s2, us, h2, pu⟩
      have hjl : j < zs.length := (List.getElem?_eq_some_iff.mp hj).1
      obtain ⟨q, hq, b, rfl, hb⟩ := par_get pz hj
      have hqs := gs.2.2 q ((srtQ_perm st).mem_iff.mp (List.mem_of_getElem? hq))
      have hq0s := gs.2.2 q0 ((srtQ_perm st).mem_iff.mp (List.mem_of_getElem? hq0))
      have ha' : (asS st)[j]? = some (q.1, q.2 * q0.2) := by
        unfold asS
        rw [List.getElem?_map, hq, es]
        rfl
      refine ⟨b, _, rfl, .inl (.inl (s2 _ _ hb)), rfl, ⟨_, _, rfl, _, _, rfl, rfl, rfl, _, rfl, _, rfl, _, rfl, p, _, _, _, rfl, rfl, SqL.of (s2 _ _ hp1), at_of (j := 0) rfl hy0, c, _, _, _, rfl, rfl, .inl (.inl (s2 _ _ hc)), (rfl : atI [V.int q0.1, V.int q0.2] 1 = some (.int q0.2)), _, _, rfl, rfl, .inr ⟨?_, ?_⟩, (by show 2 ≤ sizeLine; decide), fun t nt => ⟨us, ?_, ?_, (s2.new nt).mut hD, _, upd_same, ?_⟩⟩⟩
      · omega
      · omega
      · rw [upd_ne (ne_of_none h2 nt)]
        exact h2
      · rw [par_len pu, List.length_take]
        exact sm (by omega)
      · have h2t : upd H' t (.tup [.int q.1, .int (q.2 * q0.2)]) D = some (.lst us) := by
          rw [upd_ne (ne_of_none h2 nt)]
          exact h2
        have sp : SPat (upd H' t (.tup [.int q.1, .int (q.2 * q0.2)])) (.ref t) (q.1, q.2 * q0.2) := ⟨t, rfl, upd_same⟩
        rw [← take_snoc ha']
        exact par_app (par_imp (fun _ _ z => (z.same ((Same.refl H').new nt)).mut h2t) pu) (.cons (sp.mut h2t) .nil)
    rintro H2 ⟨s2, us, h2, pu⟩
    rw [show zs.length = (asS st).length by rw [asS_len, zl], List.take_length] at pu
    refine ⟨D, _, rfl, .inl ⟨SqL.of h2, fun t nt => ?_⟩⟩
    exact k _ _ ((s1.trans s2).new nt) ⟨t, us, rfl, upd_same, par_imp (fun _ _ z => z.same ((Same.refl H2).new nt)) pu⟩
end
structure LineC (K : PySem.W.Frag) (mg : Str → Option Value) (C : Addr) : Prop where
  cl : Cls K C
  nS : NoAttr K C "strands"
  nL : NoAttr K C "lots"
  nM : NoAttr K C "many"
  g : mg "LineUp" = some (.ref C)
def rTupOf (K : PySem.W.Frag) : List V → Hp → VK → Prop := fun xs H Q => ∃ p ys, xs = [V.ref p] ∧ ((SqL K H p ys ∧ ∀ l, H l = none → Q (.ref l) (upd H l (.tup ys))) ∨ SqT K H p ys ∧ Q (.ref p) H)
/-- a line-up: its strands, its lots, how many bars -/
def LotT (H : Hp) (v : V) (st : Strd) : Prop := ∃ a, v = .ref a ∧ H a = some (.tup ((st.map (·.1)).map V.int))
def LineF (C : Addr) (H : Hp) (r : Addr) (w : List Strd) : Prop := ∃ (dx t l : Addr) (xs : List V) (n : Int), H r = some (.ins C dx [("strands", .ref t), ("lots", .ref l), ("many", .int n)]) ∧ n = ((w.map fun st => (st.length : Int)).sum) ∧ SWat H (.ref t) w ∧ H l = some (.tup xs) ∧ Paired (LotT H) xs w
theorem LotT.same {H H' : Hp} {v : V} {st : Strd} (h : LotT H v st) (s : Same H H') : LotT H' v st := let ⟨a, e, z⟩ := h; ⟨a, e, s _ _ z⟩
theorem LotT.mut {H : Hp} {D : Addr} {us ws : List V} {v : V} {st : Strd} (h : LotT H v st) (hD : H D = some (.lst us)) : LotT (upd H D (.lst ws)) v st := by
  obtain ⟨a, e, z⟩ := h
  exact ⟨a, e, by rw [upd_ne fun k => by rw [k, hD] at z; cases z]; exact z⟩
theorem LotT.off {H : Hp} {r C dx : Addr} {fs : List (Str × V)} {o : HO} {v : V} {st : Strd} (h : LotT H v st) (hr : H r = some (.ins C dx fs)) : LotT (upd H r o) v st := by
  obtain ⟨a, e, z⟩ := h
  exact ⟨a, e, by rw [upd_ne fun k => by rw [k, hr] at z; cases z]; exact z⟩
theorem LotT.ext {H H' : Hp} {v : V} {st : Strd} (h : LotT H v st) (s : ExtN H H') : LotT H' v st := let ⟨a, e, z⟩ := h; ⟨a, e, s _ _ z (fun _ q => nomatch q)⟩
theorem SPat.ext {H H' : Hp} {v : V} {q : Int × Int} (h : SPat H v q) (s : ExtN H H') : SPat H' v q := let ⟨a, e, z⟩ := h; ⟨a, e, s _ _ z (fun _ q => nomatch q)⟩
theorem SSat.ext {H H' : Hp} {v : V} {q : Strd} (h : SSat H v q) (s : ExtN H H') : SSat H' v q := let ⟨a, xs, e, z, p⟩ := h; ⟨a, xs, e, s _ _ z (fun _ q => nomatch q), par_imp (fun _ _ k => k.ext s) p⟩
theorem SWat.ext {H H' : Hp} {v : V} {q : List Strd} (h : SWat H v q) (s : ExtN H H') : SWat H' v q := let ⟨a, xs, e, z, p⟩ := h; ⟨a, xs, e, s _ _ z (fun _ q => nomatch q), par_imp (fun _ _ k => k.ext s) p⟩
theorem LineF.ext {C : Addr} {H H' : Hp} {r : Addr} {w : List Strd} (h : LineF C H r w) (s : ExtN H H') : LineF C H' r w := by
  obtain ⟨dx, t, l, xs, n, h1, h2, h3, h4, h5⟩ := h
  exact ⟨dx, t, l, xs, n, s _ _ h1 (fun _ q => nomatch q), h2, h3.ext s, s _ _ h4 (fun _ q => nomatch q), par_imp (fun _ _ k => k.ext s) h5⟩
theorem LineF.same {C : Addr} {H H' : Hp} {r : Addr} {w : List Strd} (h : LineF C H r w) (s : Same H H') : LineF C H' r w := h.ext (ExtN.of s)
def dueW (way : List Strd) : List Strd := srtW (way.map asS)
theorem lst_fv {H : Hp} {v : V} {st : Strd} (h : LSt H v st) (l8 : st.length ≤ 8) : FV H true 2 v (strdD st) := by
  obtain ⟨a, xs, rfl, ha, px⟩ := h
  have xl := par_len px
  refine .inr ⟨a, xs, st.map pairD, rfl, .inr ⟨rfl, ha⟩, rfl, by omega, ?_⟩
  clear ha xl l8
  induction px with
  | nil => exact .nil
  | cons h _ ih =>
    obtain ⟨b, rfl, hb⟩ := h
    exact .cons (FV.tup hb (by show 2 ≤ 1000; decide) (.cons (FV.int _) (.cons (FV.int _) .nil))) ih
theorem fv_pairs {H : Hp} : ∀ {xs : List V} {st : Strd}, Paired (FV H false 1) xs (st.map pairD) → Paired (SPat H) xs st
  | _, [], .nil => .nil
  | _, q :: st, .cons h t => by
    refine .cons ?_ (fv_pairs t)
    rcases h with (⟨_, _, z⟩ | ⟨_, z⟩ | ⟨_, _, z⟩) | ⟨a, ys, es, rfl, ha, e, l, p⟩
    · cases z
    · cases z
    · cases z
    · cases e
      rcases ha with ha | ⟨z, _⟩
      · cases p with
        | cons a1 p => cases p with
          | cons a2 p =>
            cases p
            rcases a1 with ⟨i, rfl, e1⟩ | ⟨_, e1⟩ | ⟨_, _, e1⟩
            · cases e1
              rcases a2 with ⟨j, rfl, e2⟩ | ⟨_, e2⟩ | ⟨_, _, e2⟩
              · cases e2
                exact ⟨a, rfl, ha⟩
              · cases e2
              · cases e2
            · cases e1
            · cases e1
      · cases z
theorem fv_ss {H : Hp} {v : V} {st : Strd} (h : FV H false 2 v (strdD st)) : SSat H v st := by
  rcases h with (⟨_, _, z⟩ | ⟨_, z⟩ | ⟨_, _, z⟩) | ⟨a, ys, es, rfl, ha, e, l, p⟩
  · cases z
  · cases z
  · cases z
  · cases e
    rcases ha with ha | ⟨z, _⟩
    · exact ⟨a, ys, rfl, ha, fv_pairs p⟩
    · cases z
theorem SPat.off {H : Hp} {r C dx : Addr} {fs : List (Str × V)} {o : HO} {v : V} {q : Int × Int} (h : SPat H v q) (hr : H r = some (.ins C dx fs)) : SPat (upd H r o) v q := by
  obtain ⟨a, e, z⟩ := h
  exact ⟨a, e, by rw [upd_ne fun k => by rw [k, hr] at z; cases z]; exact z⟩
theorem SSat.off {H : Hp} {r C dx : Addr} {fs : List (Str × V)} {o : HO} {v : V} {q : Strd} (h : SSat H v q) (hr : H r = some (.ins C dx fs)) : SSat (upd H r o) v q := by
  obtain ⟨a, xs, e, z, p⟩ := h
  exact ⟨a, xs, e, by rw [upd_ne fun k => by rw [k, hr] at z; cases z]; exact z, par_imp (fun _ _ k => k.off hr) p⟩
end K
namespace K
open PySem L2 Rg LamX
open Evl (pss_cut)
section
variable {P : Program} {w : World} {K : PySem.W.Frag} {mg : Str → Option Value} {base : Heap}
def spLU (C : Addr) : Sp := fun vs H Q _ => ∃ (r dx : Addr) (v : V) (way : List Strd) (n : Nat), vs = [.ref r, v] ∧ H r = some (.ins C dx []) ∧ LWy H v way ∧ goodV n way ∧ 3 ≤ n ∧ n ≤ 8 ∧
  ∀ H', LineF C H' r (dueW way) → (∀ b o, H b = some o → b ≠ r → H' b = some o) → Q .non H'
abbrev nLU : List Str := ["self", "strands", "strand", "bar", "sign", "lot"]
theorem scLU : FnScope nLU ["self", "strands"] (defScope sLineUpInit) := ⟨rfl, rfl, rfl, by decide +kernel, rfl, by decide +kernel, by decide +kernel⟩
def scLUo : Scope := { kind := .function, names := [(Str.ofString ".0", .local), (Str.ofString "strand", .local), (Str.ofString "tuple", .globalImplicit)], isGenerator := false, isCoroutine := false }
theorem ok_lu {C f fA fS fX : Addr} {fd fdA fdS fdX : FuncData} (F : Fun K "__init__" "LineUp.__init__" sLineUpInit f fd) (T : Bi mg) (R : LineC K mg C) (ARE : DefAt P w K mg base CX0 4 "are_strands" ["value"] (spAre K) fA fdA) (AS : DefAt P w K mg base CX0 1 "as_strand" ["pairs"] spAsS fS fdS) (FX : DefAt P w K mg base CX0 3 "fixed" ["value"] (spFz 2) fX fdX) : FnOk P w K mg base CX0 5 f fd ["self", "strands"] (spLU C) := by
  refine F.ok scLU (fun vs H Q E h => ?_) (fun cdv A outer s H vs Q E hr h => ?_)
  · obtain ⟨r, dx, v, way, n, rfl, _⟩ := h
    rfl
  · have nd := scLU.nd
    refine ⟨_, pss_cons (ps_if (pt_not (pt_val (pe_call ARE.ok hr rfl ARE.g ARE.kp ARE.b .nil pass0 (pa_cons (pv 1) pa_nil)))) (pss_one ps_never) pss_nil)
      (pss_cons (ps_fld (pv 0) (pe_callTy call_tuple_of (by rfl) T.tuple (by decide +kernel) (pa_cons (pe_callB (cr_sortW hr.units) (by rfl) T.sorted (by decide +kernel) (pa_cons (pe_lc (own := [("strand", 2)]) (g := gName 2) (tt := tYes) (te := tCall spAsS [] E0 (tCons (tCall (spFz 2) [] E0 (tCons (tVar 2) tNil)) tNil)) rfl nd (pi_list (pv 1))
          (blkOk_by (N := nLU) (sc := defScope sLineUpInit) (by decide +kernel)) (fun _ _ _ _ _ => pg_name (i := 2) nd rfl (Or.inl rfl)) (fun _ _ _ _ _ => pts_nil) (fun _ _ _ _ _ => pe_call AS.ok (hr.mono (by decide)) rfl AS.g AS.kp AS.b .nil pass0 (pa_cons (pe_call FX.ok (hr.mono (by decide)) rfl FX.g FX.kp FX.b .nil pass0 (pa_cons (pv 2) pa_nil)) pa_nil))) pa_nil)) pa_nil)) rfl)
      (pss_cons (ps_fld (pv 0) (pe_callTy call_tuple_of (by rfl) T.tuple (by decide +kernel) (pa_cons (pe_lc (own := [("strand", 2)]) (g := gName 2) (tt := tYes) (te := tCB (rTupOf K) (tCons (tLc (iTup K (tVar 2)) (gTup K 2 (gCons (gName 3) (gCons (gName 4) gNil))) tYes (tVar 3) [3, 4]) tNil)) rfl nd (pi_tup (pe_fld (pv 0) rfl))
          (blkOk_by (N := nLU) (sc := defScope sLineUpInit) (by decide +kernel)) (fun _ _ _ _ _ => pg_name (i := 2) nd rfl (Or.inl rfl)) (fun _ _ _ _ _ => pts_nil)
          (fun _ _ _ _ _ => pe_callTy (r := rTupOf K) call_tuple_of (by rfl) T.tuple (by decide +kernel) (pa_cons (pe_lc (own := [("bar", 3), ("sign", 4)]) (g := gTup K 2 (gCons (gName 3) (gCons (gName 4) gNil))) (tt := tYes) (te := tVar 3) rfl nd (pi_tup (pv 2))
            (blkOk_by (N := nLU) (sc := relS scLUo (defScope sLineUpInit)) (by decide +kernel)) (fun _ _ _ _ _ => pg_tup rfl (pgs_cons (pg_name (i := 3) nd rfl (Or.inl rfl)) (pgs_cons (pg_name (i := 4) nd rfl (Or.inl rfl)) pgs_nil))) (fun _ _ _ _ _ => pts_nil) (fun _ _ _ _ _ => pv 3)) pa_nil))) pa_nil)) rfl)
      (pss_one (ps_fld (pv 0) (pe_callB (cr_sum rfl) (by rfl) T.sum (by decide +kernel) (pa_cons (pe_lc (own := [("lot", 5)]) (g := gName 5) (tt := tYes) (te := tCB (rLenS K) (tCons (tVar 5) tNil)) rfl nd (pi_tup (pe_fld (pv 0) rfl))
          (blkOk_by (N := nLU) (sc := defScope sLineUpInit) (by decide +kernel)) (fun _ _ _ _ _ => pg_name (i := 5) nd rfl (Or.inl rfl)) (fun _ _ _ _ _ => pts_nil) (fun _ _ _ _ _ => pe_callB (r := rLenS K) call_len_seq (by rfl) T.len PySem.boot_len (pa_cons (pv 5) pa_nil))) pa_nil)) rfl)))), ?_⟩
    obtain ⟨r, dx, v, way, n, rfl, hr0, sw, gw, n3, n8, k⟩ := h
    refine ⟨_, rfl, v, way, n, rfl, sw, gw, n3, n8, fun H1 s1 => ⟨_, rfl, iteF ?_⟩⟩
    obtain ⟨a, xs, rfl, ha, px⟩ := sw
    have ha1 := s1 _ _ ha
    have xl : xs.length = way.length := par_len px
    have w8 := gw.ln
    -- the strands
    refine ⟨_, rfl, a, rfl, ⟨_, SqL.of ha1⟩, fun D hD => ?_⟩
    refine lc_list (K := K) (a := a) (xs := xs) (fun j H' => Same H1 H' ∧ ∃ us, H' D = some (.lst us) ∧ Paired (SSat H') us ((way.map asS).take j)) ⟨(Same.refl H1).new hD, [], upd_same, .nil⟩ (fun j H' _ q => SqL.of (q.1 _ _ ha1)) ?_ ?_
    · rintro j y H' hj ⟨s2, us, h2, pu⟩
      obtain ⟨st, hst, rs⟩ := par_get px hj
      have ks := gw.st st (List.mem_of_getElem? hst)
      have jl : j < xs.length := (List.getElem?_eq_some_iff.mp hj).1
      have hst' : (way.map asS)[j]? = some (asS st) := by rw [List.getElem?_map, hst]; rfl
      refine ⟨rfl, _, rfl, y, _, rfl, lst_fv (rs.same (s1.trans s2)) ks.2.1, fun v1 H3 s3 r3 => ⟨v1, st, rfl, fv_ss r3, ks, fun v2 H4 s4 r4 => ?_⟩⟩
      have s34 := s3.trans s4
      refine ⟨us, s34 _ _ h2, ?_, (s2.trans s34).mut hD, _, upd_same, ?_⟩
      · rw [par_len pu, List.length_take]
        exact sm (by omega)
      · rw [← take_snoc hst']
        exact par_app (par_imp (fun _ _ z => (z.same s34).mut (s34 _ _ h2)) pu) (.cons (r4.mut (s34 _ _ h2)) .nil)
    rintro H2 ⟨s2, us, h2, pu⟩
    rw [show xs.length = (way.map asS).length by rw [List.length_map, xl], List.take_length] at pu
    have gA : ∀ st ∈ way.map asS, goodS st := fun st m => by
      obtain ⟨q, hq, rfl⟩ := List.mem_map.mp m
      exact asS_good (gw.st q hq)
    have gD : ∀ st ∈ dueW way, goodS st := fun st m => gA st ((srtW_perm _).mem_iff.mp m)
    have wl0 : (dueW way).length = way.length := by
      unfold dueW
      rw [(srtW_perm _).length_eq, List.length_map]
    refine ⟨D, us, way.map asS, rfl, SqL.of h2, pu, fun st m => (gA st m).1, fun p ys pm np py => ?_⟩
    have py : Paired (SSat H2) ys (dueW way) := py
    have s3 : Same H2 (upd H2 p (.lst ys)) := (Same.refl H2).new np
    have hp : upd H2 p (.lst ys) p = some (.lst ys) := upd_same
    generalize upd H2 p (.lst ys) = H3 at s3 hp ⊢
    refine ⟨p, _, rfl, .inl ⟨SqL.of hp, fun t nt => ?_⟩⟩
    have s4 : Same H3 (upd H3 t (.tup ys)) := (Same.refl H3).new nt
    have ht : upd H3 t (.tup ys) t = some (.tup ys) := upd_same
    generalize upd H3 t (.tup ys) = H4 at s4 ht ⊢
    have s14 := (s2.trans s3).trans s4
    have hr4 := s14 _ _ (s1 _ _ hr0)
    have py4 : Paired (SSat H4) ys (dueW way) := par_imp (fun _ _ z => z.same (s3.trans s4)) py
    have nrt : t ≠ r := fun z => by rw [z, hr4] at ht; cases ht
    refine ⟨_, rfl, r, C, dx, [], rfl, hr4, R.cl, R.nS, (by show 0 < 1000; decide), ?_⟩
    have fresh_ne : ∀ {H' : Hp} {b : Addr} {o : HO}, H' b = some o → ∀ {l : Addr}, H' l = none → b ≠ l := fun h _ n z => by rw [z, n] at h; cases h
    have off1 : ∀ b o, H b = some o → b ≠ r → upd H4 r (.ins C dx (putF ("strands" : Str) (.ref t) [])) b = some o := fun b o hb nb => by rw [upd_ne nb]; exact s14 _ _ (s1 _ _ hb)
    have hr5 : upd H4 r (.ins C dx (putF ("strands" : Str) (.ref t) [])) r = some (.ins C dx [(("strands" : Str), .ref t)]) := upd_same
    have ht5 : upd H4 r (.ins C dx (putF ("strands" : Str) (.ref t) [])) t = some (.tup ys) := by rw [upd_ne nrt]; exact ht
    have py5 : Paired (SSat (upd H4 r (.ins C dx (putF ("strands" : Str) (.ref t) [])))) ys (dueW way) := par_imp (fun _ _ z => z.off hr4) py4
    generalize upd H4 r (.ins C dx (putF ("strands" : Str) (.ref t) [])) = H5 at off1 hr5 ht5 py5 ⊢
    have yl : ys.length = (dueW way).length := par_len py5
    have wl : (dueW way).length = way.length := wl0
    -- the lots
    refine ⟨_, rfl, r, C, dx, _, _, rfl, hr5, R.cl, R.nS, rfl, t, rfl, ⟨_, .inl (.inl ht5)⟩, fun D2 hD2 => ?_⟩
    refine lc_tup (K := K) (a := t) (xs := ys) (fun j H' => Same H5 H' ∧ ∃ us, H' D2 = some (.lst us) ∧ Paired (LotT H') us ((dueW way).take j)) ⟨(Same.refl H5).new hD2, [], upd_same, .nil⟩ (fun j H' _ q => .inl (.inl (q.1 _ _ ht5))) ?_ ?_
    · rintro j y H' hj ⟨s6, us6, h6, pu6⟩
      obtain ⟨st, hst, rs⟩ := par_get py5 hj
      obtain ⟨b, zs, rfl, hb, pz⟩ := rs.same s6
      have zl : zs.length = st.length := par_len pz
      have st8 : st.length ≤ 8 := (gD st (List.mem_of_getElem? hst)).2.1
      refine ⟨rfl, _, rfl, b, rfl, ⟨_, .inl (.inl hb)⟩, fun D3 hD3 => ?_⟩
      refine lc_tup (K := K) (a := b) (xs := zs) (fun i G => Same H' G ∧ G D3 = some (.lst (((st.take i).map (·.1)).map V.int))) ⟨(Same.refl H').new hD3, upd_same⟩ (fun i G _ q => .inl (.inl (q.1 _ _ hb))) ?_ ?_
      · rintro i z G hi ⟨s7, h7⟩
        have hil : i < zs.length := (List.getElem?_eq_some_iff.mp hi).1
        obtain ⟨q, hq, c, rfl, hc⟩ := par_get pz hi
        refine ⟨c, _, rfl, .inl (.inl (s7 _ _ hc)), rfl, _, _, rfl, _, _, rfl, rfl, rfl, _, rfl, _, h7, ?_, s7.mut hD3, ?_⟩
        · rw [List.length_map, List.length_map, List.length_take]
          exact sm (by omega)
        · rw [upd_same, ← take_snoc hq, List.map_append, List.map_append]
          rfl
      rintro G1 ⟨s7, h7⟩
      rw [zl, List.take_length] at h7
      refine ⟨D3, _, rfl, .inl ⟨SqL.of h7, fun l nl => ?_⟩⟩
      have s8 : Same H' (upd G1 l (.tup ((st.map (·.1)).map V.int))) := s7.new nl
      have hl8 : upd G1 l (.tup ((st.map (·.1)).map V.int)) l = some (.tup ((st.map (·.1)).map V.int)) := upd_same
      generalize upd G1 l (.tup ((st.map (·.1)).map V.int)) = G2 at s8 hl8 ⊢
      refine ⟨us6, s8 _ _ h6, ?_, (s6.trans s8).mut hD2, _, upd_same, ?_⟩
      · rw [par_len pu6, List.length_take]
        exact sm (by omega)
      · have lr : LotT G2 (.ref l) st := ⟨l, rfl, hl8⟩
        rw [← take_snoc hst]
        exact par_app (par_imp (fun _ _ z => (z.same s8).mut (s8 _ _ h6)) pu6) (.cons (lr.mut (s8 _ _ h6)) .nil)
    rintro H6 ⟨s6, us6, h6, pu6⟩
    rw [yl, List.take_length] at pu6
    have u6l : us6.length = (dueW way).length := par_len pu6
    refine ⟨D2, _, rfl, .inl ⟨SqL.of h6, fun t2 nt2 => ?_⟩⟩
    have s7 : Same H5 (upd H6 t2 (.tup us6)) := s6.new nt2
    have ht2 : upd H6 t2 (.tup us6) t2 = some (.tup us6) := upd_same
    have pu7 : Paired (LotT (upd H6 t2 (.tup us6))) us6 (dueW way) := par_imp (fun _ _ z => z.same ((Same.refl H6).new nt2)) pu6
    generalize upd H6 t2 (.tup us6) = H7 at s7 ht2 pu7 ⊢
    have hr7 := s7 _ _ hr5
    have nrt2 : t2 ≠ r := fun z => by rw [z, hr7] at ht2; cases ht2
    refine ⟨_, rfl, r, C, dx, _, rfl, hr7, R.cl, R.nL, (by show 1 < 1000; decide), ?_⟩
    have off2 : ∀ b o, H b = some o → b ≠ r → upd H7 r (.ins C dx (putF ("lots" : Str) (.ref t2) [(("strands" : Str), .ref t)])) b = some o := fun b o hb nb => by rw [upd_ne nb]; exact s7 _ _ (off1 b o hb nb)
    have hr8 : upd H7 r (.ins C dx (putF ("lots" : Str) (.ref t2) [(("strands" : Str), .ref t)])) r = some (.ins C dx [(("strands" : Str), .ref t), (("lots" : Str), .ref t2)]) := upd_same
    have ht8 : upd H7 r (.ins C dx (putF ("lots" : Str) (.ref t2) [(("strands" : Str), .ref t)])) t = some (.tup ys) := by rw [upd_ne nrt]; exact s7 _ _ ht5
    have ht28 : upd H7 r (.ins C dx (putF ("lots" : Str) (.ref t2) [(("strands" : Str), .ref t)])) t2 = some (.tup us6) := by rw [upd_ne nrt2]; exact ht2
    have py8 : Paired (SSat (upd H7 r (.ins C dx (putF ("lots" : Str) (.ref t2) [(("strands" : Str), .ref t)])))) ys (dueW way) := par_imp (fun _ _ z => (z.same s7).off hr7) py5
    have pu8 : Paired (LotT (upd H7 r (.ins C dx (putF ("lots" : Str) (.ref t2) [(("strands" : Str), .ref t)])))) us6 (dueW way) := par_imp (fun _ _ z => z.off hr7) pu7
    generalize upd H7 r (.ins C dx (putF ("lots" : Str) (.ref t2) [(("strands" : Str), .ref t)])) = H8 at off2 hr8 ht8 ht28 py8 pu8 ⊢
    -- how many
    refine ⟨_, rfl, r, C, dx, _, _, rfl, hr8, R.cl, R.nL, rfl, t2, rfl, ⟨_, .inl (.inl ht28)⟩, fun D4 hD4 => ?_⟩
    refine lc_tup (K := K) (a := t2) (xs := us6) (fun j H' => Same H8 H' ∧ H' D4 = some (.lst ((((dueW way).take j).map fun st => (st.length : Int)).map V.int))) ⟨(Same.refl H8).new hD4, upd_same⟩ (fun j H' _ q => .inl (.inl (q.1 _ _ ht28))) ?_ ?_
    · rintro j y H' hj ⟨s9, h9⟩
      obtain ⟨st, hst, b, rfl, hb⟩ := par_get pu8 hj
      refine ⟨rfl, _, rfl, b, _, rfl, .inr (.inl (.inl (s9 _ _ hb))), _, h9, ?_, s9.mut hD4, ?_⟩
      · rw [List.length_map, List.length_map, List.length_take]
        exact sm (by omega)
      · rw [upd_same, ← take_snoc hst, List.map_append, List.map_append, List.length_map, List.length_map]
        rfl
    rintro H9 ⟨s9, h9⟩
    refine ⟨D4, _, rfl, SqL.of h9, ?_⟩
    have hr9 := s9 _ _ hr8
    refine ⟨_, rfl, r, C, dx, _, rfl, hr9, R.cl, R.nM, (by show 2 < 1000; decide), ?_⟩
    rw [u6l, List.take_length]
    refine k _ ⟨dx, t, t2, us6, _, upd_same, rfl, ⟨t, ys, rfl, ?_, par_imp (fun _ _ z => (z.same s9).off hr9) py8⟩, ?_, par_imp (fun _ _ z => (z.same s9).off hr9) pu8⟩ fun b o hb nb => ?_
    · rw [upd_ne nrt]
      exact s9 _ _ ht8
    · rw [upd_ne nrt2]
      exact s9 _ _ ht28
    · rw [upd_ne nb]
      exact s9 _ _ (off2 b o hb nb)
end
end K
namespace K
open PySem L2 Rg LamX
open Evl (pss_cut)
/-- a line-up, of which nothing is known but its strands -/
def LineW (C : Addr) (H : Hp) (r : Addr) (way : List Strd) : Prop := ∃ (dx t : Addr) (fs : List (Str × V)), H r = some (.ins C dx fs) ∧ fs.lookup ("strands" : Str) = some (.ref t) ∧ SWat H (.ref t) way
theorem LineF.w {C : Addr} {H : Hp} {r : Addr} {w : List Strd} (h : LineF C H r w) : LineW C H r w := by
  obtain ⟨dx, t, l, xs, n, h1, _, h3, _, _⟩ := h
  exact ⟨dx, t, _, h1, rfl, h3⟩
theorem first_at {m : Int} : ∀ {ns : List Int}, m ∈ ns → ∃ j, ns[j]? = some m ∧ ∀ (i : Nat) (z : Int), i < j → ns[i]? = some z → z ≠ m
  | [], h => nomatch h
  | a :: r, h => by
    by_cases e : a = m
    · exact ⟨0, by rw [e]; rfl, fun i z hi => absurd hi (Nat.not_lt_zero i)⟩
    · have h' : m ∈ r := by
        rcases List.mem_cons.mp h with x | x
        · exact absurd x.symm e
        · exact x
      obtain ⟨j, hj, q⟩ := first_at h'
      refine ⟨j + 1, hj, fun i z hi hz => ?_⟩
      cases i with
      | zero => cases hz; exact e
      | succ i => exact q i z (by omega) hz
def hadN (ns : List Int) : Bool := ns.all fun m => decide (2 * m ≤ ns.sum)
theorem had_max {ns : List Int} {m : Int} (hm : m ∈ ns) (hx : ∀ y, y ∈ ns → y ≤ m) : hadN ns = decide (2 * m ≤ ns.sum) := by
  unfold hadN
  by_cases h : 2 * m ≤ ns.sum
  · rw [decide_eq_true h]
    refine List.all_eq_true.mpr fun y hy => decide_eq_true ?_
    have := hx y hy
    omega
  · rw [decide_eq_false h]
    refine Bool.eq_false_iff.mpr fun k => h ?_
    exact of_decide_eq_true (List.all_eq_true.mp k m hm)
theorem sum_nn : ∀ {ns : List Int}, (∀ y ∈ ns, 0 ≤ y) → 0 ≤ ns.sum
  | [], _ => by simp
  | x :: ns, nn => by
    have ih := sum_nn (ns := ns) fun y hy => nn y (List.mem_cons_of_mem _ hy)
    have := nn x (List.mem_cons_self ..)
    rw [List.sum_cons]
    omega
theorem sum_ge : ∀ {ns : List Int} (_ : ∀ y ∈ ns, 0 ≤ y) {j : Nat} {b : Int}, ns[j]? = some b → b ≤ ns.sum ∧ 0 ≤ ns.sum
  | x :: ns, nn, 0, b, h => by
    cases h
    rw [List.sum_cons]
    have z : 0 ≤ ns.sum := sum_nn fun y hy => nn y (List.mem_cons_of_mem _ hy)
    have := nn x (List.mem_cons_self ..)
    omega
  | x :: ns, nn, j + 1, b, h => by
    have ih := sum_ge (ns := ns) (fun y hy => nn y (List.mem_cons_of_mem _ hy)) (j := j) (b := b) (by simpa using h)
    have := nn x (List.mem_cons_self ..)
    rw [List.sum_cons]
    omega
theorem sum_two : ∀ {ns : List Int} (_ : ∀ y ∈ ns, 0 ≤ y) {i j : Nat} {a b : Int}, ns[i]? = some a → ns[j]? = some b → i ≠ j → a + b ≤ ns.sum
  | x :: ns, nn, 0, 0, a, b, _, _, ne => absurd rfl ne
  | x :: ns, nn, 0, j + 1, a, b, ha, hb, _ => by
    cases ha
    have := (sum_ge (ns := ns) (fun y hy => nn y (List.mem_cons_of_mem _ hy)) (j := j) (b := b) (by simpa using hb)).1
    rw [List.sum_cons]
    omega
  | x :: ns, nn, i + 1, 0, a, b, ha, hb, _ => by
    cases hb
    have := (sum_ge (ns := ns) (fun y hy => nn y (List.mem_cons_of_mem _ hy)) (j := i) (b := a) (by simpa using ha)).1
    rw [List.sum_cons]
    omega
  | x :: ns, nn, i + 1, j + 1, a, b, ha, hb, ne => by
    have ih := sum_two (ns := ns) (fun y hy => nn y (List.mem_cons_of_mem _ hy)) (i := i) (j := j) (by simpa using ha) (by simpa using hb) (by omega)
    have := nn x (List.mem_cons_self ..)
    rw [List.sum_cons]
    omega
/-- the index of the net that is too great -/
def atN (ns : List Int) : Nat := ns.findIdx fun m => decide (ns.sum < 2 * m)
theorem atN_of {ns : List Int} (nn : ∀ y ∈ ns, 0 ≤ y) {j : Nat} {m : Int} (hj : ns[j]? = some m) (g : ns.sum < 2 * m) : atN ns = j := by
  have hm := List.mem_of_getElem? hj
  have lt : atN ns < ns.length := List.findIdx_lt_length_of_exists ⟨m, hm, decide_eq_true g⟩
  have k : ns.sum < 2 * ns[atN ns] := of_decide_eq_true (List.findIdx_getElem (w := lt))
  by_cases e : atN ns = j
  · exact e
  · have := sum_two nn (List.getElem?_eq_getElem lt) hj e
    omega
theorem get_lenX {ls : List Int} {b : Int} (h0 : 0 ≤ b) (h1 : b < (ls.length : Int)) : atI (ls.map V.int) b = some (V.int (ls.getD b.toNat 0)) := by
  have hb : b.toNat < ls.length := by omega
  refine at_of (j := b.toNat) (by omega) ?_
  rw [int_get hb, List.getD_eq_getElem?_getD, List.getElem?_eq_getElem hb]
  rfl
def fitW (m : Nat) (way : List Strd) : Prop := way.length ≤ 8 ∧ ∀ st ∈ way, st.length ≤ 8 ∧ ∀ q ∈ st, 0 ≤ q.1 ∧ q.1 < (m : Int) ∧ (q.2 = 1 ∨ q.2 = -1)
theorem LineW.same {C : Addr} {H H' : Hp} {r : Addr} {way : List Strd} (h : LineW C H r way) (s : Same H H') : LineW C H' r way := by
  obtain ⟨dx, t, fs, h1, h2, h3⟩ := h
  exact ⟨dx, t, fs, s _ _ h1, h2, h3.same s⟩
section
variable {P : Program} {w : World} {K : PySem.W.Frag} {mg : Str → Option Value} {base : Heap}
def spNets (K : PySem.W.Frag) (CR CL : Addr) : Sp := fun vs H Q _ => ∃ (r l : Addr) (ls : List Int) (way : List Strd), vs = [.ref r, .ref l] ∧ RingAt K CR H r ls ∧ LineW CL H l way ∧ fitW ls.length way ∧
  ∀ p H', Same H H' → H p = none → H' p = some (.lst ((way.map fun st => absI (net ls st)).map V.int)) → Q (.ref p) H'
abbrev nNets : List Str := ["ring", "lineup", "strands", "strand", "bar", "sign"]
theorem scNets : FnScope nNets ["ring", "lineup"] (defScope sNetsOf) := ⟨rfl, rfl, rfl, by decide +kernel, rfl, by decide +kernel, by decide +kernel⟩
def rAb : List V → Hp → VK → Prop := fun xs H Q => ∃ i, xs = [.int i] ∧ Q (.int (if i < 0 then -i else i)) H
def scNo : Scope := { kind := .function, names := [(Str.ofString ".0", .local), (Str.ofString "strand", .local), (Str.ofString "abs", .globalImplicit), (Str.ofString "sum", .globalImplicit), (Str.ofString "ring", .free)], isGenerator := false, isCoroutine := false }
abbrev teN (K : PySem.W.Frag) : TE := tCB rAb (tCons (tCB (rSum K) (tCons (tLc (iTup K (tVar 3)) (gTup K 2 (gCons (gName 4) (gCons (gName 5) gNil))) tYes (tOp (rI CMul fun i j => .int (i * j)) (tOp (rIxT K) (tFld K (tVar 0) "lengths") (tVar 4)) (tVar 5)) [4, 5]) tNil)) tNil)
theorem ok_nets {CR CL f : Addr} {fd : FuncData} (F : Fun K "nets_of" "nets_of" sNetsOf f fd) (T : Bi mg) (RR : RingC K mg CR) (RL : LineC K mg CL) : FnOk P w K mg base CX0 1 f fd ["ring", "lineup"] (spNets K CR CL) := by
  refine F.ok scNets (fun vs H Q E h => ?_) (fun cdv A outer s H vs Q E hr h => ?_)
  · obtain ⟨r, l, ls, way, rfl, _⟩ := h
    rfl
  · have nd := scNets.nd
    refine ⟨_, pss_cons (ps_set (i := 2) nd rfl (Or.inl rfl) (pe_fld (pv 1) rfl))
      (pss_one (ps_ret (pe_lc (own := [("strand", 3)]) (g := gName 3) (tt := tYes) (te := teN K) rfl nd (pi_tup (pv 2))
        (blkOk_by (N := nNets) (sc := defScope sNetsOf) (by decide +kernel)) (fun _ _ _ _ _ => pg_name (i := 3) nd rfl (Or.inl rfl)) (fun _ _ _ _ _ => pts_nil)
        (fun _ _ _ _ _ => pe_callB (r := rAb) call_abs (by rfl) T.abs (by decide +kernel) (pa_cons (pe_callB (cr_sum rfl) (by rfl) T.sum (by decide +kernel) (pa_cons (pe_lc (own := [("bar", 4), ("sign", 5)]) (g := gTup K 2 (gCons (gName 4) (gCons (gName 5) gNil))) (tt := tYes) (te := tOp (rI CMul fun i j => .int (i * j)) (tOp (rIxT K) (tFld K (tVar 0) "lengths") (tVar 4)) (tVar 5)) rfl nd (pi_tup (pv 3))
          (blkOk_by (N := nNets) (sc := relS scNo (defScope sNetsOf)) (by decide +kernel)) (fun _ _ _ _ _ => pg_tup rfl (pgs_cons (pg_name (i := 4) nd rfl (Or.inl rfl)) (pgs_cons (pg_name (i := 5) nd rfl (Or.inl rfl)) pgs_nil))) (fun _ _ _ _ _ => pts_nil)
          (fun _ _ _ _ _ => pe_op op_mul (pe_ix (r := rIxT K) ix_tup (pe_fld (pv 0) rfl) (pv 4) (fun _ _ => rfl)) (pv 5))) pa_nil)) pa_nil))))), ?_⟩
    obtain ⟨r, l, ls, way, rfl, ⟨dx, t, hr0, ht, _⟩, ⟨dl, a, fs, hl0, fl, sw⟩, ⟨w8, fit⟩, k⟩ := h
    obtain ⟨b0, xs, e0, ha, px⟩ := sw
    obtain rfl : a = b0 := V.ref.inj e0
    have xl : xs.length = way.length := par_len px
    refine ⟨_, rfl, l, CL, dl, fs, _, rfl, hl0, RL.cl, RL.nS, fl, ?_⟩
    refine ⟨_, rfl, a, rfl, ⟨_, .inl (.inl ha)⟩, fun D hD => ?_⟩
    refine lc_tup (K := K) (a := a) (xs := xs) (fun j H' => Same H H' ∧ H' D = some (.lst (((way.take j).map fun st => absI (net ls st)).map V.int))) ⟨(Same.refl H).new hD, upd_same⟩ (fun j H' _ q => .inl (.inl (q.1 _ _ ha))) ?_ ?_
    · rintro j y H' hj ⟨s1, h1⟩
      obtain ⟨st, hst, rs⟩ := par_get px hj
      have hm := fit st (List.mem_of_getElem? hst)
      obtain ⟨b, zs, rfl, hb, pz⟩ := rs.same s1
      have zl : zs.length = st.length := par_len pz
      refine ⟨rfl, _, rfl, b, rfl, ⟨_, .inl (.inl hb)⟩, fun D3 hD3 => ?_⟩
      refine lc_tup (K := K) (a := b) (xs := zs) (fun i G => Same H' G ∧ G D3 = some (.lst (((st.take i).map fun q => ls.getD q.1.toNat 0 * q.2).map V.int))) ⟨(Same.refl H').new hD3, upd_same⟩ (fun i G _ q => .inl (.inl (q.1 _ _ hb))) ?_ ?_
      · rintro i z G hi ⟨s7, h7⟩
        have hil : i < zs.length := (List.getElem?_eq_some_iff.mp hi).1
        obtain ⟨q, hq, c, rfl, hc⟩ := par_get pz hi
        have hqb := hm.2 q (List.mem_of_getElem? hq)
        have s17 := s1.trans s7
        refine ⟨c, _, rfl, .inl (.inl (s7 _ _ hc)), rfl, _, _, rfl, _, _, rfl, rfl, rfl, ?_⟩
        refine ⟨_, rfl, r, CR, dx, _, _, rfl, s17 _ _ hr0, RR.cl, RR.nL, rf_lengths _ _, _, rfl, t, _, q.1, _, rfl, rfl, s17.tup ht, get_lenX hqb.1 hqb.2.1, _, rfl, _, _, rfl, rfl, .inr ⟨?_, ?_⟩, _, h7, ?_, s7.mut hD3, ?_⟩
        · have z := hqb.2.2
          omega
        · have z := hqb.2.2
          omega
        · rw [List.length_map, List.length_map, List.length_take]
          exact sm (by omega)
        · rw [upd_same, ← take_snoc hq, List.map_append, List.map_append]
          rfl
      rintro G1 ⟨s7, h7⟩
      rw [zl, List.take_length] at h7
      have s8 := s1.trans s7
      refine ⟨D3, _, rfl, SqL.of h7, _, rfl, ?_⟩
      refine ⟨_, s7 _ _ h1, ?_, s8.mut hD, ?_⟩
      · rw [List.length_map, List.length_map, List.length_take]
        exact sm (by omega)
      · rw [upd_same, ← take_snoc hst, List.map_append, List.map_append]
        rfl
    rintro H6 ⟨s6, h6⟩
    rw [xl, List.take_length] at h6
    exact k D H6 s6 hD h6
def spTG (K : PySem.W.Frag) : Sp := fun vs H Q _ => ∃ (a : Addr) (ns : List Int), vs = [.ref a] ∧ H a = some (.lst (ns.map V.int)) ∧ 0 < ns.length ∧ ns.length ≤ 1000 ∧ (∀ y ∈ ns, 0 ≤ y) ∧ (hadN ns = true → Q .non H) ∧ (hadN ns = false → Q (.int (atN ns)) H)
theorem scTG : FnScope ["nets", "most"] ["nets"] (defScope sTooGreat) := ⟨rfl, rfl, rfl, by decide +kernel, rfl, by decide +kernel, by decide +kernel⟩
theorem ok_tg {f : Addr} {fd : FuncData} (F : Fun K "too_great" "too_great" sTooGreat f fd) (T : Bi mg) : FnOk P w K mg base CX0 1 f fd ["nets"] (spTG K) := by
  refine F.ok scTG (fun vs H Q E h => ?_) (fun cdv A outer s H vs Q E hr h => ?_)
  · obtain ⟨a, ns, rfl, _⟩ := h
    rfl
  · have nd := scTG.nd
    refine ⟨_, pss_cons (ps_set (i := 1) nd rfl (Or.inl rfl) (pe_callB (cr_max rfl) (by rfl) T.max (by decide +kernel) (pa_cons (pv 0) pa_nil)))
      (pss_one (ps_ret (pe_ifExp (pt_cmpR op_gt (pe_op op_mul pe_int (pv 1)) (pe_callB (cr_sum rfl) (by rfl) T.sum (by decide +kernel) (pa_cons (pv 0) pa_nil)) (nomark _)) (pe_bm PySem.F.plainAttrs_list PySem.F.slot_list_index PySem.F.type_list_index mt_index (pv 0) (pa_cons (pv 1) pa_nil)) pe_non))), ?_⟩
    obtain ⟨a, ns, rfl, ha, pos, n1, nn, k1, k2⟩ := h
    refine ⟨_, rfl, a, ns, rfl, SqL.of ha, pos, fun m hm hx => ?_⟩
    have e := had_max hm hx
    refine ⟨_, rfl, _, _, rfl, rfl, .inl ⟨by decide, by decide⟩, _, rfl, a, ns, rfl, SqL.of ha, _, _, rfl, rfl, ?_⟩
    refine ⟨_, rfl, ?_⟩
    by_cases q : ns.sum < 2 * m
    · rw [decide_eq_false (by omega)] at e
      obtain ⟨j, hj, no⟩ := first_at hm
      refine Eq.mpr (if_pos (decide_eq_true q)) ?_
      refine ⟨_, rfl, .inl ⟨rfl, _, SqL.of ha⟩, _, rfl, a, ns.map V.int, V.int m, j, V.int m, rfl, rfl, SqL.of ha, rfl, ?_, ?_, ?_, ?_, by have z := k2 e; rw [atN_of nn hj q] at z; exact z⟩
      · refine List.all_eq_true.mpr fun y hy => ?_
        obtain ⟨z, _, rfl⟩ := List.mem_map.mp hy
        rfl
      · rw [List.getElem?_map, hj]
        rfl
      · exact beq_self_eq_true m
      · intro i z hi hz
        obtain ⟨z', hz', rfl⟩ := int_at hz
        exact beq_eq_false_iff_ne.mpr (no i z' hi hz')
    · rw [decide_eq_true (by omega)] at e
      refine Eq.mpr (if_neg (by rw [decide_eq_false q]; exact Bool.false_ne_true)) ?_
      exact k1 e
end
end K
namespace K
open PySem L2 Rg LamX
open Evl (pss_cut)
theorem fv_int {H : Hp} {f : Bool} {n : Nat} {v : V} {b : Int} (h : FV H f n v (.int b)) : v = .int b := by
  have z : Atm v (.int b) := by
    cases n with
    | zero => exact h
    | succ n =>
      rcases h with h | ⟨_, _, _, _, _, e, _⟩
      · exact h
      · cases e
  rcases z with ⟨i, rfl, e⟩ | ⟨_, e⟩ | ⟨_, _, e⟩
  · cases e; rfl
  · cases e
  · cases e
theorem fv_par {H : Hp} {f : Bool} {n : Nat} : ∀ {xs : List V} {l : List Int}, Paired (FV H f n) xs (l.map PyData.int) → xs = l.map V.int
  | [], [], _ => rfl
  | _ :: _, [], h => nomatch h
  | [], _ :: _, h => nomatch h
  | x :: xs, i :: l, .cons h t => by
    rw [fv_int h, fv_par t]
    rfl
theorem fv_lot {H : Hp} {n : Nat} {v : V} {l : List Int} (h : FV H false (n + 1) v (.tuple (l.map PyData.int))) : ∃ t, v = .ref t ∧ H t = some (.tup (l.map V.int)) := by
  rcases h with (⟨_, _, z⟩ | ⟨_, z⟩ | ⟨_, _, z⟩) | ⟨t, xs, es, rfl, ht, e2, l2, p2⟩
  · cases z
  · cases z
  · cases z
  · cases e2
    rcases ht with ht | ⟨z, _⟩
    · exact ⟨t, rfl, by rw [← fv_par p2]; exact ht⟩
    · cases z
/-- the nets of a line-up, in order -/
def netsW (ls : List Int) (w : List Strd) : List Int := w.map fun st => absI (net ls st)
theorem netsW_nn (ls : List Int) (w : List Strd) : ∀ y ∈ netsW ls w, 0 ≤ y := fun y hy => by
  obtain ⟨st, _, rfl⟩ := List.mem_map.mp hy
  rw [absI_nat]
  omega
def manyW (w : List Strd) : Int := (w.map fun st => (st.length : Int)).sum
def lotI (st : Strd) : List Int := st.map (·.1)
section
variable {P : Program} {w : World} {K : PySem.W.Frag} {mg : Str → Option Value} {base : Heap}
theorem madeU {C : Addr} {E : XK} {H : Hp} {v : V} {way : List Strd} {n : Nat} {R : Addr → VK} (sw : LWy H v way) (gw : goodV n way) (n3 : 3 ≤ n) (n8 : n ≤ 8) (h : ∀ x H', LineF C H' x (dueW way) → Same H H' → R x .non H') :
    ∀ x dx, H x = none → H dx = none → dx ≠ x → spLU C (.ref x :: ([v] ++ [])) (upd (upd H dx (.own x)) x (.ins C dx [])) (R x) E := by
  intro x dx hx hdx _
  have s0 : Same H (upd (upd H dx (.own x)) x (.ins C dx [])) := fun b o q => by
    rw [upd_ne (ne_of_none q hx), upd_ne (ne_of_none q hdx)]
    exact q
  exact ⟨x, dx, v, way, n, rfl, upd_same, sw.same s0, gw, n3, n8, fun H' l kp => h x H' l fun b o e => kp b o (s0 b o e) (ne_of_none e hx)⟩
theorem madeN {C : Addr} {E : XK} {H : Hp} {v : V} {d : PyData} {R : Addr → VK} (fv : FV H true 1 v d) (h : ∀ x w1 H', Same H H' → FV H' false 1 w1 d → PapG C "nets" (fsNI w1) H' x → R x .non H') :
    ∀ x dx, H x = none → H dx = none → dx ≠ x → spNI K C 1 (.ref x :: ([v] ++ [])) (upd (upd H dx (.own x)) x (.ins C dx [])) (R x) E := by
  intro x dx hx hdx _
  have s0 : Same H (upd (upd H dx (.own x)) x (.ins C dx [])) := fun b o q => by
    rw [upd_ne (ne_of_none q hx), upd_ne (ne_of_none q hdx)]
    exact q
  exact ⟨x, dx, v, d, rfl, upd_same, fv.same s0, fun w1 H' kp f1 pg => h x w1 H' (fun b o e => kp b o (ne_of_none e hx) (s0 b o e)) f1 pg⟩
theorem madeG {C : Addr} {E : XK} {H : Hp} {v1 v2 v3 : V} {d1 d2 d3 : PyData} {R : Addr → VK} (fv1 : FV H true 1 v1 d1) (fv2 : FV H true 1 v2 d2) (fv3 : FV H true 1 v3 d3) (h : ∀ x w1 w2 w3 H', Same H H' → FV H' false 1 w1 d1 → FV H' false 1 w2 d2 → FV H' false 1 w3 d3 → PapG C "toogreat" (fsGI w1 w2 w3) H' x → R x .non H') :
    ∀ x dx, H x = none → H dx = none → dx ≠ x → spGI K C 1 (.ref x :: ([v1, v2, v3] ++ [])) (upd (upd H dx (.own x)) x (.ins C dx [])) (R x) E := by
  intro x dx hx hdx _
  have s0 : Same H (upd (upd H dx (.own x)) x (.ins C dx [])) := fun b o q => by
    rw [upd_ne (ne_of_none q hx), upd_ne (ne_of_none q hdx)]
    exact q
  exact ⟨x, dx, v1, v2, v3, d1, d2, d3, rfl, upd_same, fv1.same s0, fv2.same s0, fv3.same s0, fun w1 w2 w3 H' kp f1 f2 f3 pg => h x w1 w2 w3 H' (fun b o e => kp b o (ne_of_none e hx) (s0 b o e)) f1 f2 f3 pg⟩
structure LineP (P : Program) (w : World) (K : PySem.W.Frag) (mg : Str → Option Value) (base : Heap) (C fI : Addr) (fdI : FuncData) : Prop where
  made : Mk K C fI
  ok : FnOk P w K mg base CX0 5 fI fdI ["self", "strands"] (spLU C)
  b : Binds K fdI ["self", "strands"] []
structure NetsP (P : Program) (w : World) (K : PySem.W.Frag) (mg : Str → Option Value) (base : Heap) (C fI : Addr) (fdI : FuncData) : Prop where
  made : Mk K C fI
  ok : FnOk P w K mg base CX0 5 fI fdI ["self", "nets"] (spNI K C 1)
  b : Binds K fdI ["self", "nets"] []
structure TooGreatP (P : Program) (w : World) (K : PySem.W.Frag) (mg : Str → Option Value) (base : Heap) (C fI : Addr) (fdI : FuncData) : Prop where
  made : Mk K C fI
  ok : FnOk P w K mg base CX0 5 fI fdI ["self", "lot", "net", "others"] (spGI K C 1)
  b : Binds K fdI ["self", "lot", "net", "others"] []
/-! ### want_as_many -/
def spAsM (cM : Addr) : Sp := fun vs H Q E => ∃ a b : Int, vs = [.int a, .int b] ∧ ((a = b ∧ Q .non H) ∨ (a ≠ b ∧ Errs E cM "part" (.str "bars") H))
theorem scAsM : FnScope ["one", "other"] ["one", "other"] (defScope sWantAsMany) := ⟨rfl, rfl, rfl, by decide +kernel, rfl, by decide +kernel, by decide +kernel⟩
theorem ok_asM {f cM fI : Addr} {fd fdI : FuncData} (F : Fun K "want_as_many" "want_as_many" sWantAsMany f fd) (B : ErrAt P w K mg base "Misfit" "part" cM fI fdI) : FnOk P w K mg base (L2.CX P w) 3 f fd ["one", "other"] (spAsM cM) := by
  refine F.okX scAsM (fun vs H Q E h => ?_) (fun cdv A outer s H vs Q E hr h => ?_)
  · obtain ⟨a, b, rfl, _⟩ := h
    rfl
  · refine ⟨_, pss_one (ps_if (pt_cmpR op_ne (pv 0) (pv 1) (nomark _))
      (pss_one (ps_raise rfl (takes_of rfl rfl rfl rfl) (pmk_oex B.oex B.ic B.ti B.ok hr B.b .nil pass0 rfl B.g (pa_cons pe_str pa_nil)))) pss_nil), ?_⟩
    obtain ⟨a, b, rfl, h⟩ := h
    refine ⟨_, rfl, _, rfl, rfl, _, rfl, ?_⟩
    rcases h with ⟨e, q⟩ | ⟨e, q⟩
    · rw [e, decide_eq_true rfl]; exact iteF q
    · rw [decide_eq_false fun z => e (V.int.inj z)]
      exact iteT (err_made B.oex B.nf q)
/-! ### want_lineup -/
def spWantU (K : PySem.W.Frag) (C cL : Addr) : Sp := fun vs H Q E => ∃ (v : V) (part : Str), vs = [v, .str part] ∧ ((∃ r W, v = .ref r ∧ LineF C H r W ∧ Q .non H) ∨ (NoR K C H v ∧ Errs E cL "part" (.str part) H))
theorem scWantU : FnScope ["value", "part"] ["value", "part"] (defScope sWantLineup) := ⟨rfl, rfl, rfl, by decide +kernel, rfl, by decide +kernel, by decide +kernel⟩
theorem ok_wantU {C cL f fI : Addr} {fd fdI : FuncData} (F : Fun K "want_lineup" "want_lineup" sWantLineup f fd) (T : Bi mg) (G : mg "LineUp" = some (.ref C)) (EI : C8.InsC K C) (B : ErrAt P w K mg base "BadLineUp" "part" cL fI fdI) : FnOk P w K mg base (L2.CX P w) 3 f fd ["value", "part"] (spWantU K C cL) := by
  refine F.okX scWantU (fun vs H Q E h => ?_) (fun cdv A outer s H vs Q E hr h => ?_)
  · obtain ⟨v, part, rfl, _⟩ := h
    rfl
  · refine ⟨_, pss_one (ps_if (pt_not (pt_val (pe_callB call_isi (by rfl) T.isinstance (by decide +kernel) (pa_cons (pv 0) (pa_cons (pe_glob (v := .ref C) rfl G rfl) pa_nil)))))
      (pss_one (ps_raise rfl (takes_of rfl rfl rfl rfl) (pmk_oex B.oex B.ic B.ti B.ok hr B.b .nil pass0 rfl B.g (pa_cons (pv 1) pa_nil)))) pss_nil), ?_⟩
    obtain ⟨v, part, rfl, h⟩ := h
    rcases h with ⟨r, W, rfl, ⟨dx, t, l, xs, n, hr0, _⟩, q⟩ | ⟨⟨k, ty, kit⟩, er⟩
    · refine ⟨_, rfl, .ref r, .ref C, _, _, _, rfl, .own C, .base (.ins hr0 EI.cl EI.ha EI.hn EI.htk EI.hm), kit_self, ?_⟩
      exact ⟨_, rfl, iteF q⟩
    · refine ⟨_, rfl, v, .ref C, _, _, _, rfl, .own C, ty, kit, ?_⟩
      exact ⟨_, rfl, iteT ⟨_, rfl, err_made B.oex B.nf er⟩⟩
/-! ### want_lined -/
/-- what is asked of a ring and a line-up, and what comes else -/
def AskU (K : PySem.W.Frag) (CR CL cR cL cM : Addr) (H : Hp) (E : XK) (v u : V) (q : Addr → Addr → List Int → List Strd → Prop) : Prop :=
  (NoR K CR H v ∧ Errs E cR "part" (.str "ring") H) ∨ ∃ (r : Addr) (ls : List Int), v = .ref r ∧ RingAt K CR H r ls ∧ 3 ≤ ls.length ∧ ls.length ≤ 8 ∧
    ((NoR K CL H u ∧ Errs E cL "part" (.str "lineup") H) ∨ ∃ (l : Addr) (W : List Strd), u = .ref l ∧ LineF CL H l W ∧
      ((manyW W ≠ ls.length ∧ Errs E cM "part" (.str "bars") H) ∨ (manyW W = ls.length ∧ q r l ls W)))
def spWLd (K : PySem.W.Frag) (CR CL cR cL cM : Addr) : Sp := fun vs H Q E => ∃ v u : V, vs = [v, u] ∧ AskU K CR CL cR cL cM H E v u fun _ _ _ _ => Q .non H
theorem scWLd : FnScope ["ring", "lineup"] ["ring", "lineup"] (defScope sWantLined) := ⟨rfl, rfl, rfl, by decide +kernel, rfl, by decide +kernel, by decide +kernel⟩
theorem ok_wld {CR CL cR cL cM f fR fL fM fN : Addr} {fd fdR fdL fdM fdN : FuncData} (F : Fun K "want_lined" "want_lined" sWantLined f fd) (T : Bi mg) (RL : LineC K mg CL)
    (NM : Meth K CR "__len__" fN) (NL : FnOk P w K mg base CX0 1 fN fdN ["self"] (spRLen K CR)) (NB : Binds K fdN ["self"] [])
    (WR : DefAt P w K mg base (L2.CX P w) 3 "want_ring" ["value", "part"] (spWantR K CR cR) fR fdR) (WU : DefAt P w K mg base (L2.CX P w) 3 "want_lineup" ["value", "part"] (spWantU K CL cL) fL fdL) (WM : DefAt P w K mg base (L2.CX P w) 3 "want_as_many" ["one", "other"] (spAsM cM) fM fdM) :
    FnOk P w K mg base (L2.CX P w) 4 f fd ["ring", "lineup"] (spWLd K CR CL cR cL cM) := by
  refine F.okX scWLd (fun vs H Q E h => ?_) (fun cdv A outer s H vs Q E hr h => ?_)
  · obtain ⟨v, u, rfl, _⟩ := h
    rfl
  · refine ⟨_, pss_cons (ps_expr (pe_call WR.ok (hr.mono (by decide)) rfl WR.g WR.kp WR.b .nil (passes_call (takes_of rfl rfl rfl rfl) (fun _ _ _ _ h => h)) (pa_cons (pv 0) (pa_cons pe_str pa_nil))))
      (pss_cons (ps_expr (pe_call WU.ok (hr.mono (by decide)) rfl WU.g WU.kp WU.b .nil (passes_call (takes_of rfl rfl rfl rfl) (fun _ _ _ _ h => h)) (pa_cons (pv 1) (pa_cons pe_str pa_nil))))
      (pss_one (ps_expr (pe_call WM.ok (hr.mono (by decide)) rfl WM.g WM.kp WM.b .nil (passes_call (takes_of rfl rfl rfl rfl) (fun _ _ _ _ h => h)) (pa_cons (pe_callB (call_lenO NL (hr.mono (by decide)) NB) (by rfl) T.len PySem.boot_len (pa_cons (pv 0) pa_nil)) (pa_cons (pe_fld (pv 1) rfl) pa_nil)))))), ?_⟩
    obtain ⟨v, u, rfl, ⟨no, er⟩ | ⟨r, ls, rfl, ra, l3, l8, h⟩⟩ := h
    · exact ⟨_, rfl, v, "ring", rfl, .inr ⟨no, er⟩⟩
    refine ⟨_, rfl, _, "ring", rfl, .inl ⟨r, ls, rfl, ra.weak, ?_⟩⟩
    rcases h with ⟨no, er⟩ | ⟨l, W, rfl, lf, h⟩
    · exact ⟨_, rfl, u, "lineup", rfl, .inr ⟨no, er⟩⟩
    refine ⟨_, rfl, _, "lineup", rfl, .inl ⟨l, W, rfl, lf, ?_⟩⟩
    obtain ⟨dx, t, hr0, ht⟩ := id ra.weak
    obtain ⟨dl, t2, l2, xs, n, hl0, en, _⟩ := id lf
    refine ⟨_, rfl, r, CR, dx, _, rfl, hr0, NM.at_, NM.fn, r, ls, rfl, ra.weak, _, rfl, by omega, by omega, _, rfl, l, CL, dl, _, _, rfl, hl0, RL.cl, RL.nM, rfl, _, _, rfl, ?_⟩
    have en' : n = manyW W := en
    rcases h with ⟨ne, er⟩ | ⟨e, q⟩
    · exact .inr ⟨by omega, er⟩
    · exact .inl ⟨by omega, q⟩
end
end K
namespace K
open PySem L2 Rg LamX
open Evl (pss_cut)
theorem atN_lt {ns : List Int} (h : hadN ns = false) : ∃ e : atN ns < ns.length, ns.sum < 2 * ns[atN ns] := by
  unfold hadN at h
  obtain ⟨m, hm, g⟩ := List.all_eq_false.mp h
  have g : ns.sum < 2 * m := by
    have := of_decide_eq_false (Bool.eq_false_iff.mpr g)
    omega
  have lt : atN ns < ns.length := List.findIdx_lt_length_of_exists ⟨m, hm, decide_eq_true g⟩
  exact ⟨lt, of_decide_eq_true (List.findIdx_getElem (w := lt))⟩
theorem getD_at {α : Type} {l : List α} {i : Nat} {d : α} (h : i < l.length) : l[i]? = some (l.getD i d) := by
  rw [List.getD_eq_getElem?_getD, List.getElem?_eq_getElem h]
  rfl
/-- the papers on a line-up -/
def NetsR (C : Addr) (H : Hp) (p : Addr) (ns : List Int) : Prop := ∃ v, PapG C "nets" (fsNI v) H p ∧ FV H false 1 v (.tuple (ns.map PyData.int))
def GreatR (C : Addr) (H : Hp) (p : Addr) (W : List Strd) (ns : List Int) : Prop := ∃ v, PapG C "toogreat" (fsGI v (.int (ns.getD (atN ns) 0)) (.int (ns.sum - ns.getD (atN ns) 0))) H p ∧ FV H false 1 v (.tuple ((lotI (W.getD (atN ns) [])).map PyData.int))
theorem NetsR.ext {C : Addr} {H H' : Hp} {p : Addr} {ns : List Int} (h : NetsR C H p ns) (s : ExtN H H') : NetsR C H' p ns := let ⟨v, a, b⟩ := h; ⟨v, a.ext s, b.ext s⟩
theorem GreatR.ext {C : Addr} {H H' : Hp} {p : Addr} {W : List Strd} {ns : List Int} (h : GreatR C H p W ns) (s : ExtN H H') : GreatR C H' p W ns := let ⟨v, a, b⟩ := h; ⟨v, a.ext s, b.ext s⟩
theorem lot_at {H : Hp} : ∀ {xs : List V} {w : List Strd} {i : Nat}, Paired (LotT H) xs w → i < w.length → ∃ y, xs[i]? = some y ∧ LotT H y (w.getD i [])
  | _, _, i, p, h => by
    have e := getD_at (d := ([] : Strd)) h
    rw [← par_len p] at h
    obtain ⟨y, hy⟩ : ∃ y, _ = some y := ⟨_, List.getElem?_eq_getElem h⟩
    obtain ⟨st, hst, r⟩ := par_get p hy
    rw [e] at hst
    cases hst
    exact ⟨y, hy, r⟩
section
variable {P : Program} {w : World} {K : PySem.W.Frag} {mg : Str → Option Value} {base : Heap}
def spCL (K : PySem.W.Frag) (CR CL CN CG cR cL cM : Addr) : Sp := fun vs H Q E => ∃ v u : V, vs = [v, u] ∧ AskU K CR CL cR cL cM H E v u fun r l ls W => fitW ls.length W ∧ 0 < W.length ∧
  (hadN (netsW ls W) = true → ∀ p H', Same H H' → NetsR CN H' p (netsW ls W) → Q (.ref p) H') ∧ (hadN (netsW ls W) = false → ∀ p H', Same H H' → GreatR CG H' p W (netsW ls W) → Q (.ref p) H')
abbrev nCL : List Str := ["ring", "lineup", "nets", "at"]
theorem scCL : FnScope nCL ["ring", "lineup"] (defScope sCanLine) := ⟨rfl, rfl, rfl, by decide +kernel, rfl, by decide +kernel, by decide +kernel⟩
theorem ok_cl {CR CL CN CG cR cL cM f fW fN fT fIN fIG : Addr} {fd fdW fdN fdT fdIN fdIG : FuncData} (F : Fun K "can_line" "can_line" sCanLine f fd) (T : Bi mg) (RL : LineC K mg CL) (RN : NetsC K mg CN) (RG : TooGreatC K mg CG) (NP : NetsP P w K mg base CN fIN fdIN) (GP : TooGreatP P w K mg base CG fIG fdIG)
    (WL : DefAt P w K mg base (L2.CX P w) 4 "want_lined" ["ring", "lineup"] (spWLd K CR CL cR cL cM) fW fdW) (NE : DefAt P w K mg base CX0 1 "nets_of" ["ring", "lineup"] (spNets K CR CL) fN fdN) (TG : DefAt P w K mg base CX0 1 "too_great" ["nets"] (spTG K) fT fdT) :
    FnOk P w K mg base (L2.CX P w) 7 f fd ["ring", "lineup"] (spCL K CR CL CN CG cR cL cM) := by
  refine F.okX scCL (fun vs H Q E h => ?_) (fun cdv A outer s H vs Q E hr h => ?_)
  · obtain ⟨v, u, rfl, _⟩ := h
    rfl
  · have nd := scCL.nd
    refine ⟨_, pss_cons (ps_expr (pe_call WL.ok (hr.mono (by decide)) rfl WL.g WL.kp WL.b .nil (passes_call (takes_of rfl rfl rfl rfl) (fun _ _ _ _ h => h)) (pa_cons (pv 0) (pa_cons (pv 1) pa_nil))))
      (pss_cons (ps_set (i := 2) nd rfl (Or.inl rfl) (pe_call NE.ok (hr.mono (by decide)) rfl NE.g NE.kp NE.b .nil pass0 (pa_cons (pv 0) (pa_cons (pv 1) pa_nil))))
      (pss_cons (ps_set (i := 3) nd rfl (Or.inl rfl) (pe_call TG.ok (hr.mono (by decide)) rfl TG.g TG.kp TG.b .nil pass0 (pa_cons (pv 2) pa_nil)))
      (pss_cons (ps_if (pt_cmpR op_isN (pv 3) pe_non (nomark _)) (pss_one (ps_ret (pe_make NP.made NP.ok (hr.mono (by decide)) (by rfl) RN.g NP.b .nil pass0 (pa_cons (pv 2) pa_nil)))) pss_nil)
      (pss_one (ps_ret (pe_make GP.made GP.ok (hr.mono (by decide)) (by rfl) RG.g GP.b .nil pass0 (pa_cons (pe_ix (r := rIxT K) ix_tup (pe_fld (pv 1) rfl) (pv 3) (fun _ _ => rfl)) (pa_cons (pe_ix (r := rIxL K) ix_list (pv 2) (pv 3) (fun _ _ => rfl)) (pa_cons (pe_op op_sub (pe_callB (cr_sum rfl) (by rfl) T.sum (by decide +kernel) (pa_cons (pv 2) pa_nil)) (pe_ix (r := rIxL K) ix_list (pv 2) (pv 3) (fun _ _ => rfl))) pa_nil))))))))), ?_⟩
    obtain ⟨v, u, rfl, ⟨no, er⟩ | ⟨r, ls, rfl, ra, l3, l8, h⟩⟩ := h
    · exact ⟨_, rfl, _, rfl, v, u, rfl, .inl ⟨no, er⟩⟩
    refine ⟨_, rfl, _, rfl, _, u, rfl, .inr ⟨r, ls, rfl, ra, l3, l8, ?_⟩⟩
    rcases h with ⟨no, er⟩ | ⟨l, W, rfl, lf, h⟩
    · exact .inl ⟨no, er⟩
    refine .inr ⟨l, W, rfl, lf, ?_⟩
    rcases h with ⟨ne, er⟩ | ⟨e, fit, pos, k1, k2⟩
    · exact .inl ⟨ne, er⟩
    refine .inr ⟨e, ?_⟩
    have nl : (netsW ls W).length = W.length := by
      unfold netsW
      rw [List.length_map]
    have w8 := fit.1
    refine ⟨_, rfl, _, rfl, r, l, ls, W, rfl, ra, lf.w, fit, fun p H1 s1 np h1 => ?_⟩
    have h1 : H1 p = some (.lst ((netsW ls W).map V.int)) := h1
    have lf1 := lf.same s1
    refine ⟨_, rfl, p, netsW ls W, rfl, h1, by omega, by omega, netsW_nn ls W, fun e1 => ?_, fun e1 => ?_⟩
    · refine ⟨_, rfl, rfl, _, rfl, iteDT rfl ?_⟩
      refine ⟨_, rfl, madeN (v := .ref p) (d := .tuple ((netsW ls W).map PyData.int)) (.inr ⟨p, _, _, rfl, .inr ⟨rfl, h1⟩, rfl, by rw [List.length_map]; omega, fv_ints _⟩) fun x w1 H2 s2 f1 pg => ⟨rfl, ?_⟩⟩
      exact k1 e1 x H2 (s1.trans s2) ⟨w1, pg, f1⟩
    · obtain ⟨lt, _⟩ := atN_lt e1
      refine ⟨_, rfl, rfl, _, rfl, iteDF (fun z => nomatch z) ?_⟩
      obtain ⟨dl, t2, l2, xs, n, hl1, en, sw, hl2, px⟩ := id lf1
      obtain ⟨y, hy, la⟩ := lot_at (i := atN (netsW ls W)) px (by omega)
      obtain ⟨b, rfl, hb⟩ := id la
      have gn := getD_at (d := (0 : Int)) lt
      have gv : ((netsW ls W).map V.int)[atN (netsW ls W)]? = some (.int ((netsW ls W).getD (atN (netsW ls W)) 0)) := by
        rw [List.getElem?_map, gn]
        rfl
      have st8 : (lotI (W.getD (atN (netsW ls W)) [])).length ≤ 8 := by
        unfold lotI
        rw [List.length_map]
        exact (fit.2 _ (List.mem_of_getElem? (getD_at (by omega)))).1
      refine ⟨_, rfl, l, CL, dl, _, _, rfl, hl1, RL.cl, RL.nL, rfl, _, rfl, l2, xs, (atN (netsW ls W) : Nat), .ref b, rfl, rfl, .inl (.inl hl2), atI_nat hy, ?_⟩
      refine ⟨_, rfl, _, rfl, p, _, _, _, rfl, rfl, SqL.of h1, atI_nat gv, _, rfl, p, _, rfl, SqL.of h1, _, rfl, _, rfl, p, _, _, _, rfl, rfl, SqL.of h1, atI_nat gv, _, _, rfl, rfl, ?_⟩
      refine madeG (d1 := .tuple ((lotI (W.getD (atN (netsW ls W)) [])).map PyData.int)) (.inr ⟨b, _, _, rfl, .inl hb, rfl, by rw [List.length_map]; unfold lotI at st8; omega, fv_ints _⟩) (FV.int _) (FV.int _) fun x w1 w2 w3 H2 s2 f1 f2 f3 pg => ⟨rfl, ?_⟩
      obtain rfl := fv_int f2
      obtain rfl := fv_int f3
      exact k2 e1 x H2 (s1.trans s2) ⟨w1, pg, f1⟩
end
end K
/-! bool(x) of an own instance with __bool__ -/
namespace Rg
open PySem PySem.Spec PyProof.Rows L2
open PySem.Sem (wp)
theorem bool_newO {prog : Program} {w : World} (a : Addr) : MeetsIn prog w (Builtin.«bool.__new__» ⟨[.type "bool", .ref a], []⟩) (fun A R s => wpAny (model prog w) A.in1 (truthy (.ref a)) (fun b s' => R (.ok (.ret (.bool b))) s') (fun e s' => R (.error e) s') s) := by
  intro A R s h
  have f1 := PySem.F.conv_sub_bool
  unfold Builtin.«bool.__new__»
  refine wpAny_bind ?_
  have e1 : isType (Value.type "bool") = pure true := by first | rfl | kernel_rfl
  rw [e1]
  refine wpAny_pure ?_
  rw [f1]
  refine wpAny_bind (wpAny_pure ?_)
  have e2 : someArgs "bool" 0 1 { pos := [Value.ref a] } = pure [Value.ref a] := by first | rfl | kernel_rfl
  rw [e2]
  refine wpAny_bind (wpAny_pure ?_)
  refine wpAny_bind (wpAny_mono h (fun b s' q => wpAny_pure q) fun _ _ x => x)
section
variable {X : Cx} {k : Nat} {f : Addr} {fd : FuncData} {sp : Sp}
def rBoolO (K : PySem.W.Frag) (f : Addr) (sp : Sp) : List V → Hp → VK → Prop := fun vxs Hh Qq => ∃ a C dx fs, vxs = [.ref a] ∧ Hh a = some (.ins C dx fs) ∧ PySem.W.findIn K (.ref C) "__bool__" = some (some (.ref f)) ∧ PySem.W.isFn K (.ref f) = true ∧
  sp [.ref a] Hh (fun v H' => ∃ b, v = .bl b ∧ Qq (.bl b) H') E0
theorem call_boolO (F : FnOk X.prog X.w X.K X.mg X.base CX0 k f fd ["self"] sp) (hr : Room (k + 2) X.A) (hb : Binds X.K fd ["self"] []) : CallR X (.type "bool") (rBoolO X.K f sp) := by
  intro pns s σs Hh vxs uvs Qq Iv r h
  obtain ⟨a, C, dx, fs, rfl, eqa, hs, hf, qq⟩ := h
  obtain ⟨u, rfl, rlu⟩ := vals1 r
  obtain rfl : u = Value.ref a := rlu
  obtain ⟨mA, O, _⟩ := ins_get Iv.hok eqa
  obtain ⟨od, J, _⟩ := O.look
  obtain ⟨m, hF⟩ := Iv.fr
  refine callType_newIn PySem.F.called_bool PySem.F.newNe_bool (PySem.F.typeCall_bool_1 _) (PySem.F.newCall_bool_1 _) (fun obj => PySem.F.args_object_init_2 obj _) PySem.F.entry_bool_new (bool_newO a) ?_
  refine PySem.W.truthy_K hF Iv.ok.mod.kin J hs hf ?_
  have hlst : ([Value.ref a] ++ []).length = (["self"] : List Str).length := rfl
  refine wpAny_call (codeAny_mono (F.run X.A.in1.in1 X.stack s Hh ⟨[.ref a], []⟩ [.ref a] [.ref a] _ E0 hr.in1.in1 Iv.env0.in1.in1 (hb s [.ref a] Iv.kIn hlst) (.cons rfl .nil) qq) fun r s' hsq => ?_)
  cases r with
  | error e => exact hsq.elim
  | ok fl =>
    cases fl with
    | ret u =>
      obtain ⟨v, H', I3, rlv, b, ev, q3⟩ := Iv.after hsq
      subst ev
      cases rlv
      exact ⟨rfl, ⟨.bl b, H', I3, rfl, q3⟩⟩
    | next => exact False.elim hsq
    | brk => exact False.elim hsq
    | cont => exact False.elim hsq
end
end Rg
namespace K
open PySem L2 Rg LamX
open Evl (pss_cut)
/-- a def whose code object stands at c -/
structure FunC (K : PySem.W.Frag) (x qual : Str) (st : Stmt) (f : Addr) (fd : FuncData) (c : Addr) : Prop where
  ex : ∃ (oc : Value) (od : Option Addr) (kV doc pm : Value) (an : Option Addr) (ct : Value) (osl : Array (Option Value)),
    fd = PySem.W.fnOf x qual (defArgs st) (defBody st) (defScope st) .none kV doc pm an (.ref c) ct ∧ K.lookup f = some ⟨oc, od, .func fd, osl⟩ ∧ PySem.W.codeIn K (.ref c) qual = true
theorem FunC.ok {P : Program} {w : World} {K : PySem.W.Frag} {mg : Str → Option Value} {base : Heap} {x qual : Str} {st : Stmt} {f c : Addr} {fd : FuncData} {N ps : List Str} {k : Nat} {sp : Sp} (F : FunC K x qual st f fd c) (S : FnScope N ps (defScope st)) (len : ∀ vs H Q E, sp vs H Q E → vs.length = ps.length)
    (hbody : ∀ (A : Around) (outer : List Env) (s : Shared) (H : Hp) (vs : List V) (Q : VK) (E : XK), Room k (A.deeper (PyProof.Rows.envOfC qual (defScope st) s.heap.objs.size f (.ref c))) → sp vs H Q E →
      ∃ t, PSs (cxOf CX0 P w K mg base N qual (defScope st) f (.ref c) A outer s H E).nox (defBody st) t ∧ t { nx := fun _ H' => Q .non H', rt := Q } (L2.start N vs) H) : FnOk P w K mg base CX0 (k + 1) f fd ps sp := by
  obtain ⟨oc, od, kV, doc, pm, an, ct, osl, rfl, lk, hcd⟩ := F.ex
  exact fn_of lk hcd S len fun A outer s H vs Q E hr hsp => by
    obtain ⟨t, h, q⟩ := hbody A outer s H vs Q E hr hsp
    exact ⟨t, h.nox, q⟩
/-- a promise that no error is told in -/
theorem fn_calm {P : Program} {w : World} {K : PySem.W.Frag} {mg : Str → Option Value} {base : Heap} {k : Nat} {f : Addr} {fd : FuncData} {ps : List Str} {sp : Sp} (F : FnOk P w K mg base (L2.CX P w) k f fd ps sp) : FnOk P w K mg base CX0 k f fd ps (fun vs H Q _ => sp vs H Q fun _ _ _ => False) :=
  ⟨fun vs H Q E h => F.len _ _ _ _ h, fun A outer s H args us vs Q E hr e0 hb hv h => codeAny_mono (F.run A outer s H args us vs Q (fun _ _ _ => False) hr e0 hb hv h) fun r s' hq => by
    cases r with
    | ok fl => cases fl <;> exact hq
    | error e =>
      obtain ⟨_, _, _, _, _, _, _, _, _, _, _, _, z⟩ := hq
      exact z⟩
theorem had_iff {ns : List Int} : hadN ns = true ↔ ∀ m ∈ ns, 2 * m ≤ ns.sum := by
  unfold hadN
  rw [List.all_eq_true]
  exact ⟨fun h m hm => of_decide_eq_true (h m hm), fun h m hm => decide_eq_true (h m hm)⟩
theorem had_perm {a b : List Int} (p : a.Perm b) : hadN a = hadN b := by
  rw [Bool.eq_iff_iff, had_iff, had_iff, sum_perm p]
  exact ⟨fun h m hm => h m (p.mem_iff.mpr hm), fun h m hm => h m (p.mem_iff.mp hm)⟩
theorem netsW_app (ls : List Int) (a b : List Strd) : netsW ls (a ++ b) = netsW ls a ++ netsW ls b := by
  unfold netsW
  rw [List.map_append]
theorem net_app (ls : List Int) (a b : Strd) : net ls (a ++ b) = net ls a + net ls b := by
  unfold net
  rw [List.map_append, List.sum_append]
theorem flat_perm {a b : List Strd} (p : a.Perm b) : (flatB a).Perm (flatB b) := by
  induction p with
  | nil => exact List.Perm.refl _
  | cons x _ ih => exact List.Perm.append_left _ ih
  | swap x y l =>
    unfold flatB
    simp only [List.flatMap_cons, ← List.append_assoc]
    exact List.Perm.append_right _ List.perm_append_comm
  | trans _ _ h1 h2 => exact h1.trans h2
theorem flat_asS : ∀ way : List Strd, (flatB (way.map asS)).Perm (flatB way)
  | [] => List.Perm.refl _
  | st :: way => by
    unfold flatB
    simp only [List.map_cons, List.flatMap_cons]
    exact (asS_bars st).append (flat_asS way)
theorem due_good {n : Nat} {way : List Strd} (g : goodV n way) : goodV n (dueW way) := by
  have p : (dueW way).Perm (way.map asS) := srtW_perm _
  refine ⟨fun st m => ?_, ?_, ?_⟩
  · obtain ⟨q, hq, rfl⟩ := List.mem_map.mp (p.mem_iff.mp m)
    exact asS_good (g.st q hq)
  · rw [p.length_eq, List.length_map]
    exact g.ln
  · exact ((flat_perm p).trans (flat_asS way)).trans g.pm
theorem flat_len : ∀ w : List Strd, ((flatB w).length : Int) = manyW w
  | [] => rfl
  | st :: w => by
    have ih := flat_len w
    unfold flatB at ih ⊢
    unfold manyW at ih ⊢
    rw [List.flatMap_cons, List.length_append, List.length_map, List.map_cons, List.sum_cons, ← ih]
    omega
theorem good_many {n : Nat} {w : List Strd} (g : goodV n w) : manyW w = n := by
  rw [← flat_len, g.pm.length_eq, rngI_len]
theorem good_pos {n : Nat} {w : List Strd} (g : goodV n w) (h : 0 < n) : 0 < w.length := by
  cases w with
  | nil =>
    have := good_many g
    unfold manyW at this
    simp at this
    omega
  | cons x l => simp
theorem good_fit {n : Nat} {w : List Strd} (g : goodV n w) : fitW n w := by
  refine ⟨g.ln, fun st m => ⟨(g.st st m).2.1, fun q hq => ?_⟩⟩
  have h1 : q.1 ∈ flatB w := List.mem_flatMap.mpr ⟨st, m, List.mem_map.mpr ⟨q, hq, rfl⟩⟩
  have h2 := g.pm.mem_iff.mp h1
  unfold rngI at h2
  obtain ⟨i, hi, e⟩ := List.mem_map.mp h2
  have := List.mem_range.mp hi
  exact ⟨by omega, by omega, (g.st st m).2.2 q hq⟩
/-- just one net is too great -/
theorem at_only {ns : List Int} (nn : ∀ y ∈ ns, 0 ≤ y) (h : hadN ns = false) {j : Nat} {m : Int} (hj : ns[j]? = some m) : (ns.sum - m < m) ↔ j = atN ns := by
  obtain ⟨lt, g⟩ := atN_lt h
  refine ⟨fun q => (atN_of nn hj (by omega)).symm, fun e => ?_⟩
  subst e
  rw [List.getElem?_eq_getElem lt] at hj
  cases hj
  omega
theorem had_due {ls : List Int} {n : Nat} {way : List Strd} (g : goodV n way) : hadN (netsW ls (dueW way)) = hadN (netsW ls way) := by
  have p : (dueW way).Perm (way.map asS) := srtW_perm _
  rw [show netsW ls (dueW way) = (dueW way).map (fun st => absI (net ls st)) from rfl, had_perm (p.map fun st => absI (net ls st))]
  have e : (way.map asS).map (fun st => absI (net ls st)) = netsW ls way := by
    unfold netsW
    rw [List.map_map]
    exact List.map_congr_left fun st m => net_asS (g.st st m)
  rw [e]
section
variable {P : Program} {w : World} {K : PySem.W.Frag} {mg : Str → Option Value} {base : Heap}
/-! ### can_line, where no error comes -/
def spCLc (K : PySem.W.Frag) (CR CL CN CG : Addr) : Sp := fun vs H Q _ => ∃ (r l : Addr) (ls : List Int) (W : List Strd), vs = [.ref r, .ref l] ∧ RingAt K CR H r ls ∧ 3 ≤ ls.length ∧ ls.length ≤ 8 ∧ LineF CL H l W ∧ goodV ls.length W ∧
  (hadN (netsW ls W) = true → ∀ p H', Same H H' → NetsR CN H' p (netsW ls W) → Q (.ref p) H') ∧ (hadN (netsW ls W) = false → ∀ p H', Same H H' → GreatR CG H' p W (netsW ls W) → Q (.ref p) H')
theorem ok_clc {CR CL CN CG cR cL cM f : Addr} {fd : FuncData} {k : Nat} (F : FnOk P w K mg base (L2.CX P w) k f fd ["ring", "lineup"] (spCL K CR CL CN CG cR cL cM)) : FnOk P w K mg base CX0 k f fd ["ring", "lineup"] (spCLc K CR CL CN CG) :=
  (fn_calm F).imp fun vs H Q E ⟨r, l, ls, W, hv, ra, l3, l8, lf, g, k1, k2⟩ => ⟨.ref r, .ref l, hv, .inr ⟨r, ls, rfl, ra, l3, l8, .inr ⟨l, W, rfl, lf, .inr ⟨good_many g, good_fit g, good_pos g (by omega), k1, k2⟩⟩⟩⟩
/-- the truth of the papers of a class -/
structure PapB (P : Program) (w : World) (K : PySem.W.Frag) (mg : Str → Option Value) (base : Heap) (C fB : Addr) (fdB : FuncData) (b : Bool) : Prop where
  ok : FnOk P w K mg base CX0 1 fB fdB ["self"] (fun vs H Q _ => ∃ v, vs = [v] ∧ Q (.bl b) H)
  b : Binds K fdB ["self"] []
  f : PySem.W.findIn K (.ref C) "__bool__" = some (some (.ref fB))
  fn : PySem.W.isFn K (.ref fB) = true
end
end K
namespace K
open PySem L2 Rg LamX
/-! ### rows of signs -/
def sgnR : Nat → List (List Int)
  | 0 => [[]]
  | n + 1 => (sgnR n).flatMap fun r => [r ++ [1], r ++ [-1]]
theorem sgnR_succ (n : Nat) : sgnR (n + 1) = (sgnR n).flatMap fun r => [r ++ [1], r ++ [-1]] := rfl
def Pm1 (r : List Int) : Prop := ∀ s ∈ r, s = 1 ∨ s = -1
theorem fm2_len {α β : Type} (f : α → List β) (h : ∀ x, (f x).length = 2) : ∀ l : List α, (l.flatMap f).length = 2 * l.length
  | [] => rfl
  | x :: l => by
    rw [List.flatMap_cons, List.length_append, h, fm2_len f h l, List.length_cons]
    omega
theorem sgnR_length : ∀ n, (sgnR n).length = 2 ^ n
  | 0 => rfl
  | n + 1 => by
    rw [sgnR_succ, fm2_len _ (fun _ => rfl), sgnR_length n, Nat.pow_succ]
    omega
theorem sgnR_mem : ∀ {n : Nat} {r : List Int}, r ∈ sgnR n ↔ r.length = n ∧ Pm1 r
  | 0, r => by
    refine ⟨fun h => ?_, fun h => ?_⟩
    · rw [List.mem_singleton.mp h]
      exact ⟨rfl, fun _ z => nomatch z⟩
    · rw [List.eq_nil_of_length_eq_zero h.1]
      exact List.mem_singleton.mpr rfl
  | n + 1, r => by
    rw [sgnR_succ, List.mem_flatMap]
    refine ⟨fun ⟨q, hq, h⟩ => ?_, fun ⟨hl, h⟩ => ?_⟩
    · obtain ⟨l, p⟩ := sgnR_mem.mp hq
      rcases List.mem_cons.mp h with rfl | h
      · refine ⟨by rw [List.length_append, l]; rfl, fun s m => ?_⟩
        rcases List.mem_append.mp m with m | m
        · exact p s m
        · exact .inl (List.mem_singleton.mp m)
      · rw [List.mem_singleton.mp h]
        refine ⟨by rw [List.length_append, l]; rfl, fun s m => ?_⟩
        rcases List.mem_append.mp m with m | m
        · exact p s m
        · exact .inr (List.mem_singleton.mp m)
    · have ne : r ≠ [] := fun z => by rw [z] at hl; cases hl
      obtain ⟨q, s, rfl⟩ : ∃ q s, r = q ++ [s] := ⟨r.dropLast, r.getLast ne, (List.dropLast_concat_getLast ne).symm⟩
      rw [List.length_append, List.length_singleton] at hl
      refine ⟨q, sgnR_mem.mpr ⟨by omega, fun x m => h x (List.mem_append_left _ m)⟩, ?_⟩
      rcases h s (List.mem_append_right _ (List.mem_singleton.mpr rfl)) with rfl | rfl
      · exact List.mem_cons_self ..
      · exact List.mem_cons_of_mem _ (List.mem_singleton.mpr rfl)
theorem zip_fst : ∀ {a b : List Int}, a.length = b.length → (a.zip b).map (·.1) = a
  | [], _, _ => by simp
  | x :: a, y :: b, h => by
    rw [List.zip_cons_cons, List.map_cons, zip_fst (by simpa using h)]
def TL (H : Hp) : List V → List (List Int) → Prop := Paired fun x ns => ∃ a, x = V.ref a ∧ H a = some (.tup (ns.map V.int))
end K
namespace K
open PySem L2 Rg LamX
open Evl (pss_cut)
/-! ### the dict that tells the signs of bars -/
def dic (st : Strd) : List (Key × V) := st.map fun q => ((.inl q.1 : Key), V.int q.2)
theorem dic_cons (q : Int × Int) (st : Strd) : dic (q :: st) = ((.inl q.1 : Key), V.int q.2) :: dic st := rfl
theorem dic_none {b : Int} : ∀ {st : Strd}, b ∉ st.map (·.1) → valV (dic st) (.inl b : Key) = none
  | [], _ => valV_nil
  | q :: st, h => by
    rw [List.map_cons, List.mem_cons] at h
    rw [dic_cons, valV_neg (fun e => h (.inl (Sum.inl.inj e).symm)), dic_none fun m => h (.inr m)]
theorem dic_val {q : Int × Int} : ∀ {st : Strd}, (st.map (·.1)).Nodup → q ∈ st → valV (dic st) (.inl q.1 : Key) = some (.int q.2)
  | p :: st, nd, h => by
    rw [List.map_cons, List.nodup_cons] at nd
    rw [dic_cons]
    rcases List.mem_cons.mp h with rfl | h
    · exact valV_pos rfl
    · rw [valV_neg fun e => nd.1 (by rw [show p.1 = q.1 from Sum.inl.inj e]; exact List.mem_map.mpr ⟨q, h, rfl⟩)]
      exact dic_val nd.2 h
theorem dic_put {b s : Int} {st : Strd} (h : b ∉ st.map (·.1)) : putK (dic st) (.inl b : Key) (.int s) = dic (st ++ [(b, s)]) := by
  rw [putK_new _ (dic_none h)]
  unfold dic
  rw [List.map_append]
  rfl
theorem dic_len (st : Strd) : (dic st).length = st.length := by
  unfold dic
  rw [List.length_map]
def DicAt (H : Hp) (v : V) (st : Strd) : Prop := ∃ d, v = .ref d ∧ H d = some (.dK (dic st))
theorem DicAt.same {H H' : Hp} {v : V} {st : Strd} (h : DicAt H v st) (s : Same H H') : DicAt H' v st := let ⟨d, e, z⟩ := h; ⟨d, e, s _ _ z⟩
theorem DicAt.mut {H : Hp} {D : Addr} {us ws : List V} {v : V} {st : Strd} (h : DicAt H v st) (hD : H D = some (.lst us)) : DicAt (upd H D (.lst ws)) v st := by
  obtain ⟨d, e, z⟩ := h
  exact ⟨d, e, by rw [upd_ne fun k => by rw [k, hD] at z; cases z]; exact z⟩
section
variable {P : Program} {w : World} {K : PySem.W.Frag} {mg : Str → Option Value} {base : Heap}
/-! ### with_sign -/
def spWS : Sp := fun vs H Q _ => ∃ (d : Addr) (st : Strd) (b s : Int), vs = [.ref d, .int b, .int s] ∧ H d = some (.dK (dic st)) ∧ (st.map (·.1)).Nodup ∧ b ∉ st.map (·.1) ∧ st.length ≤ 16 ∧
  ∀ p H', Same H H' → H' p = some (.dK (dic (st ++ [(b, s)]))) → Q (.ref p) H'
abbrev nWS : List Str := ["row", "bar", "sign", "longer", "one"]
theorem scWS : FnScope nWS ["row", "bar", "sign"] (defScope sWithSign) := ⟨rfl, rfl, rfl, by decide +kernel, rfl, by decide +kernel, by decide +kernel⟩
theorem ok_ws {f : Addr} {fd : FuncData} (F : Fun K "with_sign" "with_sign" sWithSign f fd) : FnOk P w K mg base CX0 1 f fd ["row", "bar", "sign"] spWS := by
  refine F.ok scWS (fun vs H Q E h => ?_) (fun cdv A outer s H vs Q E hr h => ?_)
  · obtain ⟨d, st, b, s, rfl, _⟩ := h
    rfl
  · have nd := scWS.nd
    have hu1 : (A.deeper (PyProof.Rows.envOfC "with_sign" (defScope sWithSign) s.heap.objs.size f cdv)).units + 1 < cLine := by have := hr.un; omega
    refine ⟨_, pss_cons (ps_lock (ps_setDc (ix := 3) (own := [("one", 4)]) (g := gName 4) (tt := tYes) (tk := tVar 4) (tv := tDGet (tVar 0) (tVar 4)) rfl nd rfl rfl (sw_dc rfl rfl rfl (by decide +kernel)) (pi_keys (pv 0)) (blkOk_by (N := nWS) (sc := defScope sWithSign) (by decide +kernel)) (fun _ _ _ _ _ => pg_name (i := 4) nd rfl (Or.inl rfl)) (fun _ _ _ _ _ => pts_nil) (fun _ _ _ _ _ => pv 4) (fun _ _ _ _ _ => pe_dget hu1 (pv 0) (pv 4) (fun _ _ => rfl))))
      (pss_cons (ps_dput hu1 (pv 3) (pv 1) (pv 2) rfl)
      (pss_one (ps_ret (pv 3)))), ?_⟩
    obtain ⟨d, st, b, sg, rfl, hd, nds, nb, l16, k⟩ := h
    refine ⟨d, .dK (dic st), hd, True.intro, fun od => ?_⟩
    have hf : upd H d (.frz od (.dK (dic st))) d = some (.frz od (.dK (dic st))) := upd_same
    have back : ∀ H', Same (upd H d (.frz od (.dK (dic st)))) H' → Same H (upd H' d (.dK (dic st))) := fun H' s1 a o e => by
      by_cases c : a = d
      · subst c
        rw [upd_same]
        rw [hd] at e
        exact e
      · rw [upd_ne c]
        exact s1 _ _ (by rw [upd_ne c]; exact e)
    have none0 : ∀ D, upd H d (.frz od (.dK (dic st))) D = none → H D = none := fun D h => by
      rw [upd_ne fun z => by rw [z, upd_same] at h; cases h] at h
      exact h
    generalize upd H d (.frz od (.dK (dic st))) = H0 at hf back none0 ⊢
    refine ⟨_, rfl, d, od, rfl, .inl ⟨dic st, hf, fun D hD => ?_⟩⟩
    have hDd : D ≠ d := fun z => by rw [z, hf] at hD; cases hD
    refine walk_any walk_keys (fun i H' => Same H0 H' ∧ H' D = some (.dK (dic (st.take i)))) ⟨(Same.refl H0).new hD, upd_same⟩ (fun i H' _ q => q.1 _ _ hf) ?_ ?_
    · rintro i x H1 H2 hi ⟨s1, h1⟩ ⟨rfl, kk, v, hk, rfl⟩
      rw [dic_len] at hi
      have hq : st[i]? = some st[i] := List.getElem?_eq_getElem hi
      have hk2 : (dic st)[i]? = some ((.inl st[i].1 : Key), V.int st[i].2) := by
        unfold dic
        rw [List.getElem?_map, hq]
        rfl
      rw [hk2] at hk
      cases hk
      have ni : st[i].1 ∉ (st.take i).map (·.1) := fun m => by
        have e : st = st.take i ++ st[i] :: st.drop (i + 1) := by rw [List.getElem_cons_drop, List.take_append_drop]
        have nd2 := nds
        rw [e, List.map_append, List.map_cons, List.nodup_append] at nd2
        exact nd2.2.2 _ m _ (List.mem_cons_self ..) rfl
      refine ⟨rfl, _, rfl, _, rfl, _, rfl, d, .int st[i].2, rfl, .inl ⟨dic st, .inl st[i].1, .inr ⟨od, s1 _ _ hf⟩, rfl, (dic_val nds (List.mem_of_getElem? hq)).symm⟩, _, .inl st[i].1, rfl, h1, ?_, ?_, ?_⟩
      · rw [dic_len, List.length_take]
        exact sm (by omega)
      · intro a o e
        have hDH : H0 D = none := hD
        rw [upd_ne fun z => by rw [z, hDH] at e; cases e]
        exact s1 _ _ e
      · rw [upd_same, dic_put ni, take_snoc hq]
    rintro H1 ⟨s1, h1⟩
    rw [dic_len, List.take_length] at h1
    refine ⟨s1 _ _ hf, ?_⟩
    have s2 := back _ s1
    have h2 : upd H1 d (.dK (dic st)) D = some (.dK (dic st)) := by rw [upd_ne hDd]; exact h1
    have nD := none0 _ hD
    generalize upd H1 d (.dK (dic st)) = H2 at s2 h2 ⊢
    refine ⟨_, rfl, _, rfl, _, rfl, D, _, rfl, DPut.k (k := .inl b) (v := .int sg) h2 (by rw [dic_len]; exact sm (by omega)), ?_⟩
    rw [dic_put nb]
    refine ⟨_, rfl, k D _ (s2.mut nD) upd_same⟩
end
end K
namespace K
open PySem L2 Rg LamX
open Evl (pss_cut)
/-! ### what choices makes of lots that part the bars -/
def Asc (l : List Int) : Prop := l.Pairwise (· ≤ ·)
def fsG (ol : List (List Int)) : Strd := ol.map fun l => (l.headD 0, (1 : Int))
def rowG (ol : List (List Int)) (T r : List Int) : Strd := fsG ol ++ T.zip r
def sgG (st : Strd) (b : Int) : Int := (st.lookup b).getD 0
def wayG (ol : List (List Int)) (st : Strd) : List Strd := ol.map fun l => l.map fun b => (b, sgG st b)
def waysG (ol : List (List Int)) (T : List Int) : List (List Strd) := (sgnR T.length).map fun r => wayG ol (rowG ol T r)
/-- the lots ol part the bars, each its first bar ahead; T: the other bars, ascending -/
structure PartL (ol : List (List Int)) (T : List Int) : Prop where
  ne : ∀ l ∈ ol, l ≠ []
  le : ol.length ≤ 8
  l8 : ∀ l ∈ ol, l.length ≤ 8
  tl : (ol.flatMap fun l => l.drop 1).Perm T
  asc : Asc T
  t7 : T.length ≤ 7
  nd : ((fsG ol).map (·.1) ++ T).Nodup
theorem lookup_in : ∀ {st : Strd} {q : Int × Int}, (st.map (·.1)).Nodup → q ∈ st → st.lookup q.1 = some q.2
  | p :: st, q, nd, h => by
    rw [List.map_cons, List.nodup_cons] at nd
    obtain ⟨a, b⟩ := p
    rw [List.lookup_cons]
    rcases List.mem_cons.mp h with rfl | h
    · simp
    · have ne : q.1 ≠ a := fun z => nd.1 (List.mem_map.mpr ⟨q, h, z⟩)
      rw [show (q.1 == a) = false from beq_eq_false_iff_ne.mpr ne]
      exact lookup_in nd.2 h
theorem sg_in {st : Strd} {b : Int} (nd : (st.map (·.1)).Nodup) (h : b ∈ st.map (·.1)) : (b, sgG st b) ∈ st := by
  obtain ⟨q, hq, rfl⟩ := List.mem_map.mp h
  unfold sgG
  rw [lookup_in nd hq]
  exact hq
theorem key_in {ol : List (List Int)} {T r l : List Int} {b : Int} (p : PartL ol T) (e : r.length = T.length) (hl : l ∈ ol) (hb : b ∈ l) : b ∈ (rowG ol T r).map (·.1) := by
  unfold rowG
  rw [List.map_append, zip_fst e.symm]
  cases l with
  | nil => cases hb
  | cons h t =>
    rcases List.mem_cons.mp hb with rfl | hb
    · exact List.mem_append_left _ (List.mem_map.mpr ⟨(b, 1), List.mem_map.mpr ⟨b :: t, hl, rfl⟩, rfl⟩)
    · exact List.mem_append_right _ (p.tl.mem_iff.mp (List.mem_flatMap.mpr ⟨h :: t, hl, hb⟩))
theorem zip_sub : ∀ (a b : List Int), ((a.zip b).map (·.1)).Sublist a
  | [], _ => by simp
  | x :: a, [] => by simp
  | x :: a, y :: b => by
    rw [List.zip_cons_cons, List.map_cons]
    exact (zip_sub a b).cons_cons _
theorem nd_part {ol : List (List Int)} {T row : List Int} (p : PartL ol T) (i : Nat) : ((fsG ol ++ (T.take i).zip row).map (·.1)).Nodup := by
  rw [List.map_append]
  refine p.nd.sublist (List.Sublist.append (List.Sublist.refl _) ((zip_sub _ _).trans (List.take_sublist ..)))
theorem nin_part {ol : List (List Int)} {T row : List Int} (p : PartL ol T) {i : Nat} {b : Int} (hb : T[i]? = some b) : b ∉ (fsG ol ++ (T.take i).zip row).map (·.1) := by
  rw [List.map_append]
  intro m
  have nd := p.nd
  obtain ⟨hi, e⟩ := List.getElem?_eq_some_iff.mp hb
  have et : T = T.take i ++ b :: T.drop (i + 1) := by rw [← e, List.getElem_cons_drop, List.take_append_drop]
  rw [et, ← List.append_assoc] at nd
  refine (List.nodup_append.mp nd).2.2 b ?_ b (List.mem_cons_self ..) rfl
  rcases List.mem_append.mp m with m | m
  · exact List.mem_append_left _ m
  · exact List.mem_append_right _ ((zip_sub _ _).subset m)
/-- strands, ways whose lists stand off some addresses -/
def LStN (N : Addr → Prop) (H : Hp) (v : V) (s : Strd) : Prop := ∃ a xs, v = V.ref a ∧ ¬ N a ∧ H a = some (.lst xs) ∧ Paired (SPat H) xs s
def LWyN (N : Addr → Prop) (H : Hp) (v : V) (w : List Strd) : Prop := ∃ a xs, v = V.ref a ∧ ¬ N a ∧ H a = some (.lst xs) ∧ Paired (LStN N H) xs w
theorem LStN.same {N : Addr → Prop} {H H' : Hp} {v : V} {q : Strd} (h : LStN N H v q) (s : Same H H') : LStN N H' v q := let ⟨a, xs, e, n, z, p⟩ := h; ⟨a, xs, e, n, s _ _ z, par_imp (fun _ _ k => k.same s) p⟩
theorem LWyN.same {N : Addr → Prop} {H H' : Hp} {v : V} {q : List Strd} (h : LWyN N H v q) (s : Same H H') : LWyN N H' v q := let ⟨a, xs, e, n, z, p⟩ := h; ⟨a, xs, e, n, s _ _ z, par_imp (fun _ _ k => k.same s) p⟩
theorem LStN.mut {N : Addr → Prop} {H : Hp} {D : Addr} {us ws : List V} {v : V} {q : Strd} (h : LStN N H v q) (n : N D) (hD : H D = some (.lst us)) : LStN N (upd H D (.lst ws)) v q := by
  obtain ⟨a, xs, e, na, z, p⟩ := h
  exact ⟨a, xs, e, na, by rw [upd_ne fun k => na (by rw [k]; exact n)]; exact z, par_imp (fun _ _ k => k.mut hD) p⟩
theorem LWyN.mut {N : Addr → Prop} {H : Hp} {D : Addr} {us ws : List V} {v : V} {q : List Strd} (h : LWyN N H v q) (n : N D) (hD : H D = some (.lst us)) : LWyN N (upd H D (.lst ws)) v q := by
  obtain ⟨a, xs, e, na, z, p⟩ := h
  exact ⟨a, xs, e, na, by rw [upd_ne fun k => na (by rw [k]; exact n)]; exact z, par_imp (fun _ _ k => k.mut n hD) p⟩
theorem LStN.imp {N N' : Addr → Prop} {H : Hp} {v : V} {q : Strd} (h : LStN N H v q) (i : ∀ a, N' a → N a) : LStN N' H v q := let ⟨a, xs, e, n, z, p⟩ := h; ⟨a, xs, e, fun m => n (i _ m), z, p⟩
theorem LWyN.imp {N N' : Addr → Prop} {H : Hp} {v : V} {q : List Strd} (h : LWyN N H v q) (i : ∀ a, N' a → N a) : LWyN N' H v q := let ⟨a, xs, e, n, z, p⟩ := h; ⟨a, xs, e, fun m => n (i _ m), z, par_imp (fun _ _ k => k.imp i) p⟩
theorem LStN.st {N : Addr → Prop} {H : Hp} {v : V} {q : Strd} (h : LStN N H v q) : LSt H v q := let ⟨a, xs, e, _, z, p⟩ := h; ⟨a, xs, e, z, p⟩
theorem LWyN.wy {N : Addr → Prop} {H : Hp} {v : V} {q : List Strd} (h : LWyN N H v q) : LWy H v q := let ⟨a, xs, e, _, z, p⟩ := h; ⟨a, xs, e, z, par_imp (fun _ _ k => k.st) p⟩
theorem slFromZ {a : Addr} {xs : List V} {z : Int} {i : Nat} {H : Hp} {Q : VK} (hz : z = (i : Int)) (ha : H a = some (.tup xs)) (k : ∀ t H', H' t = some (.tup (xs.drop i)) → Same H H' → Q (.ref t) H') : rSlA K (.ref a) (some z) none H Q := by
  subst hz
  exact slFrom ha k
theorem nin_take {st : Strd} (nd : (st.map (·.1)).Nodup) {i : Nat} {q : Int × Int} (hq : st[i]? = some q) : q.1 ∉ (st.take i).map (·.1) := fun m => by
  obtain ⟨hi, e⟩ := List.getElem?_eq_some_iff.mp hq
  have et : st = st.take i ++ q :: st.drop (i + 1) := by rw [← e, List.getElem_cons_drop, List.take_append_drop]
  rw [et, List.map_append, List.map_cons, List.nodup_append] at nd
  exact nd.2.2 _ m _ (List.mem_cons_self ..) rfl
theorem ones_first {ol : List (List Int)} {l : List Int} {i : Nat} (ne : ∀ l ∈ ol, l ≠ []) (e : ol[i]? = some l) : ∃ y r, l = y :: r ∧ (fsG ol)[i]? = some (y, 1) := by
  cases l with
  | nil => exact absurd rfl (ne _ (List.mem_of_getElem? e))
  | cons y r =>
    refine ⟨y, r, rfl, ?_⟩
    unfold fsG
    rw [List.getElem?_map, e]
    rfl
theorem fs_len {ol : List (List Int)} : (fsG ol).length = ol.length := by
  unfold fsG
  rw [List.length_map]
section
variable {P : Program} {w : World} {K : PySem.W.Frag} {mg : Str → Option Value} {base : Heap}
def spCh : Sp := fun vs H Q _ => ∃ (a : Addr) (xs : List V) (ol : List (List Int)) (t : List Int), vs = [.ref a] ∧ H a = some (.lst xs) ∧ TL H xs ol ∧ PartL ol t ∧
  ∀ p ys H', Same H H' → H p = none → H' p = some (.lst ys) → Paired (LWyN (fun a => H a ≠ none) H') ys (waysG ol t) → Q (.ref p) H'
abbrev nCh : List Str := ["lots", "rows", "bar", "lot", "row", "sign"]
theorem scCh : FnScope nCh ["lots"] (defScope sChoices) := ⟨rfl, rfl, rfl, by decide +kernel, rfl, by decide +kernel, by decide +kernel⟩
def scC1 : Scope := { kind := .function, names := [(Str.ofString ".0", .local), (Str.ofString "row", .cell), (Str.ofString "lots", .free)], isGenerator := false, isCoroutine := false }
def scC2 : Scope := { kind := .function, names := [(Str.ofString ".0", .local), (Str.ofString "lot", .local), (Str.ofString "row", .free)], isGenerator := false, isCoroutine := false }
abbrev teC2 (K : PySem.W.Frag) : TE := tTup (tCons (tVar 2) (tCons (tDGet (tVar 4) (tVar 2)) tNil))
abbrev teC1 (K : PySem.W.Frag) : TE := tLc (iTup K (tVar 3)) (gName 2) tYes (teC2 K) [2]
theorem ok_ch {f fW : Addr} {fd fdW : FuncData} (F : Fun K "choices" "choices" sChoices f fd) (T : Bi mg) (WS : DefAt P w K mg base CX0 1 "with_sign" ["row", "bar", "sign"] spWS fW fdW) : FnOk P w K mg base CX0 2 f fd ["lots"] spCh := by
  refine F.ok scCh (fun vs H Q E h => ?_) (fun cdv A outer s H vs Q E hr h => ?_)
  · obtain ⟨a, xs, ol, t, rfl, _⟩ := h
    rfl
  · have nd := scCh.nd
    have hu1 : (A.deeper (PyProof.Rows.envOfC "choices" (defScope sChoices) s.heap.objs.size f cdv)).units + 1 < cLine := by have := hr.un; omega
    refine ⟨_, pss_cons (ps_set (i := 1) nd rfl (Or.inl rfl) (pe_lst (pa_cons (pe_dc (own := [("lot", 3)]) (g := gName 3) (tt := tYes) (tk := tOp (rIxT K) (tVar 3) (tC (.int 0))) (tv := tC (.int 1)) rfl nd (pi_list (pv 0)) (blkOk_by (N := nCh) (sc := defScope sChoices) (by decide +kernel)) (fun _ _ _ _ _ => pg_name (i := 3) nd rfl (Or.inl rfl)) (fun _ _ _ _ _ => pts_nil) (fun _ _ _ _ _ => pe_ix (r := rIxT K) ix_tup (pv 3) pe_int (fun _ _ => rfl)) (fun _ _ _ _ _ => pe_int)) pa_nil)))
      (pss_cons (ps_for PassesOwn.never rfl (pi_list (pe_callB cr_sortedI (by rfl) T.sorted (by decide +kernel) (pa_cons (pe_lc2 (own := [("lot", 3), ("bar", 2)]) (vs1 := [2]) (g := gName 3) (g1 := gName 2) (tt := tYes) (tt1 := tYes) (wi1 := iTup K (tSl (rSlA K) (tVar 3) (tPart (tC (.int 1))) tNoPart)) (te := tVar 2) rfl nd (pi_list (pv 0)) (blkOk_by (N := nCh) (sc := defScope sChoices) (by decide +kernel)) (by decide)
            (fun _ _ _ _ _ => pg_name (i := 3) nd rfl (Or.inl rfl)) (fun _ _ _ _ _ => pts_nil) (fun _ _ _ _ _ => pi_tup (pe_slice sl_tupA (pv 3) (po_some pe_int) po_none)) (fun _ _ _ _ _ => pg_name (i := 2) nd rfl (Or.inl rfl)) (fun _ _ _ _ _ => pts_nil) (fun _ _ _ _ _ => pv 2)) pa_nil))) (pg_name (i := 2) nd rfl (Or.inr rfl))
        (pss_one (ps_setLc2 (i := 1) (own := [("row", 4), ("sign", 5)]) (vs1 := [5]) (g := gName 4) (g1 := gName 5) (tt := tYes) (tt1 := tYes) (wi1 := iTup K (tTup (tCons (tC (.int 1)) (tCons (tUn (rU fun i => .int (-i)) (tC (.int 1))) tNil)))) (te := tCall spWS [] E0 (tCons (tVar 4) (tCons (tVar 2) (tCons (tVar 5) tNil)))) rfl nd rfl rfl (sw_true rfl rfl rfl (by decide +kernel)) (pi_list (pv 1)) (blkOk_by (N := nCh) (sc := defScope sChoices) (by decide +kernel)) (by decide)
            (fun _ _ _ _ _ => pg_name (i := 4) nd rfl (Or.inl rfl)) (fun _ _ _ _ _ => pts_nil) (fun _ _ _ _ _ => pi_tup (pe_tup (pa_cons pe_int (pa_cons (pe_un un_neg pe_int) pa_nil)))) (fun _ _ _ _ _ => pg_name (i := 5) nd rfl (Or.inl rfl)) (fun _ _ _ _ _ => pts_nil) (fun _ _ _ _ _ => pe_call WS.ok hr rfl WS.g WS.kp WS.b .nil pass0 (pa_cons (pv 4) (pa_cons (pv 2) (pa_cons (pv 5) pa_nil)))))))
      (pss_one (ps_ret (pe_lc (own := [("row", 4)]) (g := gName 4) (tt := tYes) (te := tLc (iList K (tVar 0)) (gName 3) tYes (teC1 K) [3]) rfl nd (pi_list (pv 1)) (blkOk_by (N := nCh) (sc := defScope sChoices) (by decide +kernel)) (fun _ _ _ _ _ => pg_name (i := 4) nd rfl (Or.inr rfl)) (fun _ _ _ _ _ => pts_nil)
        (fun _ _ _ _ _ => pe_lc (own := [("lot", 3)]) (g := gName 3) (tt := tYes) (te := teC1 K) rfl nd (pi_list (pv 0)) (blkOk_by (N := nCh) (sc := relS scC1 (defScope sChoices)) (by decide +kernel)) (fun _ _ _ _ _ => pg_name (i := 3) nd rfl (Or.inl rfl)) (fun _ _ _ _ _ => pts_nil)
          (fun _ _ _ _ _ => pe_lc (own := [("bar", 2)]) (g := gName 2) (tt := tYes) (te := teC2 K) rfl nd (pi_tup (pv 3)) (blkOk_by (N := nCh) (sc := relS scC2 (relS scC1 (defScope sChoices))) (by decide +kernel)) (fun _ _ _ _ _ => pg_name (i := 2) nd rfl (Or.inl rfl)) (fun _ _ _ _ _ => pts_nil)
            (fun _ _ _ _ _ => pe_tup (pa_cons (pv 2) (pa_cons (pe_dget hu1 (pv 4) (pv 2) (fun _ _ => rfl)) pa_nil))))))))), ?_⟩
    obtain ⟨a, xs, ol, t, rfl, ha, tl, lt, k⟩ := h
    have xl : xs.length = ol.length := par_len tl
    have ol8 := lt.le
    have tl8 : t.length ≤ 7 := lt.t7
    -- the dict of the first bars
    have fl := fs_len (ol := ol)
    have ndf : ((fsG ol).map (·.1)).Nodup := by
      simpa using nd_part (row := []) lt 0
    refine ⟨_, rfl, a, rfl, ⟨_, SqL.of ha⟩, fun D hD => ?_⟩
    refine walk_any walk_list (fun i H' => Same H H' ∧ H' D = some (.dK (dic ((fsG ol).take i)))) ⟨(Same.refl H).new hD, upd_same⟩ (fun i H' _ q => SqL.of (q.1 _ _ ha)) ?_ ?_
    · rintro i x H1 H2 hi ⟨s1, h1⟩ ⟨rfl, hx⟩
      obtain ⟨l, hl, b, rfl, hb⟩ := par_get tl hx
      obtain ⟨y, r, rfl, hy⟩ := ones_first lt.ne hl
      refine ⟨rfl, _, rfl, b, _, _, _, rfl, rfl, .inl (.inl (s1 _ _ hb)), at_of (j := 0) rfl rfl, _, .inl y, rfl, h1, ?_, s1.mut hD, ?_⟩
      · rw [dic_len, List.length_take]
        exact sm (by omega)
      · rw [upd_same, dic_put (nin_take ndf hy), take_snoc hy]
    rintro H1 ⟨s1, h1⟩
    rw [xl, ← fl, List.take_length] at h1
    refine ⟨(by show 1 ≤ sizeLine; decide), fun rp nrp => ?_⟩
    have dD : DicAt H1 (.ref D) (fsG ol) := ⟨D, rfl, h1⟩
    have s2 : Same H1 (upd H1 rp (.lst [.ref D])) := (Same.refl H1).new nrp
    have hrp : upd H1 rp (.lst [.ref D]) rp = some (.lst [.ref D]) := upd_same
    generalize upd H1 rp (.lst [.ref D]) = H2 at s2 hrp ⊢
    have d2 := dD.same s2
    have s02 := s1.trans s2
    have ha2 := s02 _ _ ha
    -- the other bars of the lot
    refine ⟨_, rfl, a, rfl, ⟨_, SqL.of ha2⟩, fun D3 hD3 => ?_⟩
    refine walk_any walk_list (fun j H' => Same H2 H' ∧ H' D3 = some (.lst (((ol.take j).flatMap fun l => l.drop 1).map V.int))) ⟨(Same.refl H2).new hD3, upd_same⟩ (fun j H' _ q => SqL.of (q.1 _ _ ha2)) ?_ ?_
    · rintro j x H3 H4 hj ⟨s3, h3⟩ ⟨rfl, hx⟩
      obtain ⟨l, hl, b, rfl, hb⟩ := par_get tl hx
      have hb3 := s3 _ _ (s02 _ _ hb)
      have l8 : l.length ≤ 8 := lt.l8 l (List.mem_of_getElem? hl)
      refine ⟨rfl, _, rfl, _, rfl, ?_⟩
      dsimp only [tNoPart]
      refine slFromZ (i := 1) rfl hb3 fun c H5 hc s5 => ⟨c, rfl, ⟨_, .inl (.inl hc)⟩, ?_⟩
      have pre : ((ol.take j).flatMap fun l => l.drop 1).length ≤ 8 := by
        have e := lt.tl.length_eq
        have e2 : ol.flatMap (fun l => l.drop 1) = (ol.take j).flatMap (fun l => l.drop 1) ++ (ol.drop j).flatMap fun l => l.drop 1 := by
          rw [← List.flatMap_append, List.take_append_drop]
        rw [e2, List.length_append] at e
        omega
      rw [← List.map_drop] at hc
      refine walk_any walk_tup (fun i H6 => Same H2 H6 ∧ H6 c = some (.tup ((l.drop 1).map V.int)) ∧ H6 D3 = some (.lst (((((ol.take j).flatMap fun l => l.drop 1) ++ (l.drop 1).take i)).map V.int))) ⟨s3.trans s5, hc, by rw [List.take_zero, List.append_nil]; exact s5 _ _ h3⟩ (fun i H6 _ q => .inl (.inl q.2.1)) ?_ ?_
      · rintro i y H6 H7 hi ⟨s6, hc6, h6⟩ ⟨rfl, hy⟩
        rw [List.length_map] at hi
        obtain ⟨z, hz, rfl⟩ := int_at hy
        have cD : c ≠ D3 := fun e => by rw [e, h6] at hc6; cases hc6
        refine ⟨rfl, _, rfl, _, h6, ?_, s6.mut hD3, by rw [upd_ne cD]; exact hc6, ?_⟩
        · rw [List.length_map, List.length_append, List.length_take, List.length_drop]
          exact sm (by omega)
        · rw [upd_same, ← take_snoc hz, ← List.append_assoc]
          simp only [List.map_append]
          rfl
      · rintro H6 ⟨s6, hc6, h6⟩
        rw [List.length_map, List.take_length] at h6
        refine ⟨s6, ?_⟩
        rw [h6, ← take_snoc hl, List.flatMap_append]
        simp
    rintro H3 ⟨s3, h3⟩
    rw [xl, List.take_length] at h3
    refine ⟨D3, _, rfl, SqL.of h3, fun ns p pmN odN np => ?_⟩
    have e : ns = t := sorted_eqI (pmN.trans lt.tl) odN lt.asc
    subst e
    have nD3 := hD3
    have s4 : Same H3 (upd H3 p (.lst (ns.map V.int))) := (Same.refl H3).new np
    have hp : upd H3 p (.lst (ns.map V.int)) p = some (.lst (ns.map V.int)) := upd_same
    generalize upd H3 p (.lst (ns.map V.int)) = H4 at s4 hp ⊢
    refine ⟨p, rfl, ⟨_, SqL.of hp⟩, ?_⟩
    have s24 := s3.trans s4
    refine for_list (K := K) (a := p) (xs := ns.map V.int) (fun i σ H' => ∃ (rl : Addr) (rs : List V) (z : Option V), σ = [some (.ref a), some (.ref rl), z, none, none, none] ∧ Same H H' ∧ H' p = some (.lst (ns.map V.int)) ∧ H' rl = some (.lst rs) ∧ Paired (DicAt H') rs ((sgnR i).map fun r => fsG ol ++ (ns.take i).zip r))
      ⟨rp, [.ref D], none, rfl, s02.trans s24, hp, s24 _ _ hrp, .cons (by simpa using d2.same s24) .nil⟩ (fun i σ H' _ ⟨_, _, _, _, _, q, _⟩ => SqL.of q) ?_ ?_
    · rintro i x σ H5 hi ⟨rl, rs, z, rfl, s5, hp5, h5, prs⟩
      obtain ⟨b, hb, rfl⟩ := int_at hi
      have hil : i < ns.length := (List.getElem?_eq_some_iff.mp hb).1
      have rl2 : rs.length = 2 ^ i := by rw [par_len prs, List.length_map, sgnR_length]
      have p2 : 2 ^ i ≤ 2 ^ 6 := Nat.pow_le_pow_right (by decide) (by omega)
      have fl8 : (fsG ol).length ≤ 8 := by omega
      refine ⟨_, rfl, rl, rfl, ⟨_, SqL.of h5⟩, fun D5 hD5 => ?_⟩
      have hD50 := s5.free hD5
      refine walk_any walk_list (fun j H' => Same H5 H' ∧ ∃ us, H' D5 = some (.lst us) ∧ Paired (DicAt H') us ((((sgnR i).take j).flatMap fun r => [r ++ [1], r ++ [-1]]).map fun r => fsG ol ++ (ns.take (i + 1)).zip r)) ⟨(Same.refl H5).new hD5, [], upd_same, .nil⟩ (fun j H' _ q => q.1.seq (SqL.of h5)) ?_ ?_
      · rintro j x H6 H7 hj ⟨s6, us, h6, pu⟩ ⟨rfl, hx⟩
        obtain ⟨st, hst, dr⟩ := par_get prs hx
        rw [List.getElem?_map] at hst
        obtain ⟨r, hr, rfl⟩ : ∃ r, (sgnR i)[j]? = some r ∧ fsG ol ++ (ns.take i).zip r = st := by
          cases q : (sgnR i)[j]? with
          | none => rw [q] at hst; cases hst
          | some r => rw [q] at hst; exact ⟨r, rfl, Option.some.inj hst⟩
        have rlen := (sgnR_mem.mp (List.mem_of_getElem? hr)).1
        have zl : ((ns.take i).zip r).length ≤ 8 := by
          rw [List.length_zip, List.length_take]
          omega
        have ext : ∀ sg : Int, fsG ol ++ (ns.take i).zip r ++ [(b, sg)] = fsG ol ++ (ns.take (i + 1)).zip (r ++ [sg]) := fun sg => by
          rw [← take_snoc hb, List.zip_append (by rw [List.length_take, rlen]; omega), ← List.append_assoc]
          rfl
        obtain ⟨d, rfl, hd⟩ := dr
        have hd6 := s6 _ _ hd
        have pul : us.length ≤ 200 := by
          rw [par_len pu, List.length_map, fm2_len _ (fun _ => rfl), List.length_take, sgnR_length]
          omega
        refine ⟨rfl, _, rfl, (by show 2 ≤ sizeLine; decide), fun tp ntp => ⟨tp, rfl, ⟨_, .inl (.inl upd_same)⟩, ?_⟩⟩
        have s7 : Same H7 (upd H7 tp (.tup [.int 1, .int (-1)])) := (Same.refl H7).new ntp
        have htp : upd H7 tp (.tup [.int 1, .int (-1)]) tp = some (.tup [.int 1, .int (-1)]) := upd_same
        generalize upd H7 tp (.tup [.int 1, .int (-1)]) = H71 at s7 htp ⊢
        refine walk_any walk_tup (fun m H' => Same H5 H' ∧ H' tp = some (.tup [.int 1, .int (-1)]) ∧ ∃ us, us.length ≤ 200 + m ∧ H' D5 = some (.lst us) ∧ Paired (DicAt H') us (((((sgnR i).take j).flatMap fun r => [r ++ [1], r ++ [-1]]) ++ ([r ++ [1], r ++ [-1]] : List (List Int)).take m).map fun r => fsG ol ++ (ns.take (i + 1)).zip r)) ⟨s6.trans s7, htp, us, pul, s7 _ _ h6, by rw [List.take_zero, List.append_nil]; exact par_imp (fun _ _ z => z.same s7) pu⟩ (fun m H' _ q => .inl (.inl q.2.1)) ?_ ?_
        · rintro m y H8 H9 hm ⟨s8, ht8, us8, ul8, h8, pu8⟩ ⟨rfl, hy⟩
          obtain ⟨sg, rfl, hsg⟩ : ∃ sg : Int, y = .int sg ∧ ([r ++ [1], r ++ [-1]] : List (List Int))[m]? = some (r ++ [sg]) := by
            match m, hy with
            | 0, hy => exact ⟨1, (Option.some.inj hy).symm, rfl⟩
            | 1, hy => exact ⟨-1, (Option.some.inj hy).symm, rfl⟩
            | m + 2, hy => cases hy
          have m2 : m < 2 := hm
          refine ⟨rfl, _, rfl, _, rfl, _, rfl, d, _, b, sg, rfl, s8 _ _ hd, nd_part lt i, nin_part lt hb, ?_, fun pp H10 s10 hpp => ?_⟩
          · rw [List.length_append]
            omega
          · have h10 := s10 _ _ h8
            have ne : tp ≠ D5 := fun e => by rw [e, h8] at ht8; cases ht8
            refine ⟨us8, h10, sm (by omega), (s8.trans s10).mut hD5, by rw [upd_ne ne]; exact s10 _ _ ht8, us8 ++ [.ref pp], by rw [List.length_append]; exact Nat.succ_le_succ ul8, upd_same, ?_⟩
            rw [← take_snoc hsg, ← List.append_assoc, List.map_append]
            refine par_app (par_imp (fun _ _ z => (z.same s10).mut h10) pu8) (.cons ?_ .nil)
            have dz : DicAt H10 (.ref pp) (fsG ol ++ (ns.take (i + 1)).zip (r ++ [sg])) := ⟨pp, rfl, by rw [← ext]; exact hpp⟩
            exact dz.mut h10
        · rintro H8 ⟨s8, ht8, us8, ul8, h8, pu8⟩
          refine ⟨s8, us8, h8, ?_⟩
          rw [← take_snoc hr, List.flatMap_append]
          simpa using pu8
      · rintro H6 ⟨s6, us, h6, pu⟩
        rw [show rs.length = (sgnR i).length by rw [par_len prs, List.length_map], List.take_length, ← sgnR_succ] at pu
        exact ⟨D5, us, _, rfl, s5.trans s6, s6 _ _ hp5, h6, pu⟩
    · rintro σ H5 ⟨rl, rs, z, rfl, s5, hp5, h5, prs⟩
      rw [List.length_map, List.take_length] at prs
      have rl2 : rs.length ≤ 128 := by
        rw [par_len prs, List.length_map, sgnR_length]
        exact Nat.pow_le_pow_right (by decide) (show ns.length ≤ 7 from tl8)
      -- the strands of each row
      refine ⟨_, rfl, rl, rfl, ⟨_, SqL.of h5⟩, fun D6 hD6 => ?_⟩
      refine lc_list (K := K) (a := rl) (xs := rs) (fun j H' => Same H5 H' ∧ ∃ us, H' D6 = some (.lst us) ∧ Paired (LWyN (fun a => a = D6 ∨ H a ≠ none) H') us ((waysG ol ns).take j)) ⟨(Same.refl H5).new hD6, [], upd_same, .nil⟩ (fun j H' _ q => q.1.seq (SqL.of h5)) ?_ ?_
      · rintro j x H6 hj ⟨s6, us, h6, pu⟩
        have hjl : j < rs.length := (List.getElem?_eq_some_iff.mp hj).1
        obtain ⟨st, hst, dr⟩ := par_get prs hj
        rw [List.getElem?_map] at hst
        obtain ⟨r, hr, rfl⟩ : ∃ r, (sgnR ns.length)[j]? = some r ∧ fsG ol ++ ns.zip r = st := by
          cases q : (sgnR ns.length)[j]? with
          | none => rw [q] at hst; cases hst
          | some r => rw [q] at hst; exact ⟨r, rfl, Option.some.inj hst⟩
        have hrm := List.mem_of_getElem? hr
        have hw0 : (waysG ol ns)[j]? = some (wayG ol (rowG ol ns r)) := by
          unfold waysG
          rw [List.getElem?_map, hr]
          rfl
        obtain ⟨d, rfl, hd⟩ := dr
        have ndd : ((fsG ol ++ ns.zip r).map (·.1)).Nodup := by
          have := nd_part (row := r) lt ns.length
          rwa [List.take_length] at this
        have rlen := (sgnR_mem.mp hrm).1
        have ha6 := (s5.trans s6) _ _ ha
        refine ⟨rfl, _, rfl, a, rfl, ⟨_, SqL.of ha6⟩, fun D7 hD7 => ?_⟩
        have n67 : D7 ≠ D6 := fun z => by rw [z, h6] at hD7; cases hD7
        refine lc_list (K := K) (a := a) (xs := xs) (fun i H' => Same H6 H' ∧ ∃ vs, H' D7 = some (.lst vs) ∧ Paired (LStN (fun a => (a = D6 ∨ H a ≠ none) ∨ a = D7) H') vs ((wayG ol (rowG ol ns r)).take i)) ⟨(Same.refl H6).new hD7, [], upd_same, .nil⟩ (fun i H' _ q => q.1.seq (SqL.of ha6)) ?_ ?_
        · rintro i y H7 hi ⟨s7, vs, h7, pvs⟩
          obtain ⟨l, hl, b, rfl, hb⟩ := par_get tl hi
          have hst2 : (wayG ol (rowG ol ns r))[i]? = some (l.map fun b => (b, sgG (rowG ol ns r) b)) := by
            unfold wayG
            rw [List.getElem?_map, hl]
            rfl
          have lm := List.mem_of_getElem? hl
          have st8 := lt.l8 l lm
          have hb7 := ((s5.trans s6).trans s7) _ _ hb
          refine ⟨rfl, _, rfl, b, rfl, ⟨_, .inl (.inl hb7)⟩, fun D8 hD8 => ?_⟩
          have n78 : D8 ≠ D7 := fun z => by rw [z, h7] at hD8; cases hD8
          have n68 : D8 ≠ D6 := fun z => by rw [z, s7 _ _ h6] at hD8; cases hD8
          refine lc_tup (K := K) (a := b) (xs := l.map V.int) (fun m H' => Same H7 H' ∧ ∃ ws, H' D8 = some (.lst ws) ∧ Paired (SPat H') ws ((l.map fun b => (b, sgG (rowG ol ns r) b)).take m)) ⟨(Same.refl H7).new hD8, [], upd_same, .nil⟩ (fun m H' _ q => .inl (.inl (q.1 _ _ hb7))) ?_ ?_
          · rintro m z H8 hm ⟨s8, ws, h8, pws⟩
            obtain ⟨zz, hz, rfl⟩ := int_at hm
            have dv := dic_val ndd (sg_in ndd (key_in lt rlen lm (List.mem_of_getElem? hz)))
            have hd8 := ((s6.trans s7).trans s8) _ _ hd
            have dg := DGet.k (k := (.inl zz : Key)) hd8
            rw [dv] at dg
            refine ⟨rfl, _, rfl, _, rfl, _, rfl, d, _, rfl, dg, (by show 2 ≤ sizeLine; decide), fun tt ntt => ?_⟩
            have hD8' : upd H8 tt (.tup [.int zz, .int (sgG (rowG ol ns r) zz)]) D8 = some (.lst ws) := by rw [upd_ne (ne_of_none h8 ntt)]; exact h8
            refine ⟨ws, hD8', ?_, (s8.new ntt).mut hD8, _, upd_same, ?_⟩
            · rw [par_len pws, List.length_take, List.length_map]
              exact sm (by omega)
            · rw [← take_snoc (z := (zz, sgG (rowG ol ns r) zz)) (by rw [List.getElem?_map, hz]; rfl)]
              have sp : SPat (upd H8 tt (.tup [.int zz, .int (sgG (rowG ol ns r) zz)])) (.ref tt) (zz, sgG (rowG ol ns r) zz) := ⟨tt, rfl, upd_same⟩
              exact par_app (par_imp (fun _ _ z => (z.same ((Same.refl H8).new ntt)).mut hD8') pws) (.cons (sp.mut hD8') .nil)
          · rintro H8 ⟨s8, ws, h8, pws⟩
            rw [show (l.map V.int).length = (l.map fun b => (b, sgG (rowG ol ns r) b)).length by rw [List.length_map, List.length_map], List.take_length] at pws
            have h78 := s8 _ _ h7
            refine ⟨vs, h78, ?_, (s7.trans s8).mut hD7, _, upd_same, ?_⟩
            · rw [par_len pvs, List.length_take]
              exact sm (by unfold wayG; rw [List.length_map]; omega)
            · rw [← take_snoc hst2]
              have f8 : H D8 = none := ((s5.trans s6).trans s7).free hD8
              have sN : LStN (fun a => (a = D6 ∨ H a ≠ none) ∨ a = D7) H8 (.ref D8) (l.map fun b => (b, sgG (rowG ol ns r) b)) := ⟨D8, ws, rfl, fun q => q.elim (fun q => q.elim n68 fun q => q f8) n78, h8, pws⟩
              exact par_app (par_imp (fun _ _ z => (z.same s8).mut (.inr rfl) h78) pvs) (.cons (sN.mut (.inr rfl) h78) .nil)
        · rintro H7 ⟨s7, vs, h7, pvs⟩
          rw [show xs.length = (wayG ol (rowG ol ns r)).length by unfold wayG; rw [xl, List.length_map], List.take_length] at pvs
          have h67 := s7 _ _ h6
          refine ⟨us, h67, ?_, (s6.trans s7).mut hD6, _, upd_same, ?_⟩
          · rw [par_len pu, List.length_take]
            exact sm (by omega)
          · rw [← take_snoc hw0]
            have f7 : H D7 = none := (s5.trans s6).free hD7
            have wN : LWyN (fun a => a = D6 ∨ H a ≠ none) H7 (.ref D7) (wayG ol (rowG ol ns r)) := ⟨D7, vs, rfl, fun q => q.elim n67 fun q => q f7, h7, par_imp (fun _ _ z => z.imp fun a e => .inl e) pvs⟩
            exact par_app (par_imp (fun _ _ z => (z.same s7).mut (.inl rfl) h67) pu) (.cons (wN.mut (.inl rfl) h67) .nil)
      · rintro H6 ⟨s6, us, h6, pu⟩
        have wl : rs.length = (waysG ol ns).length := by
          unfold waysG
          rw [par_len prs, List.length_map, List.length_map]
        rw [wl, List.take_length] at pu
        exact k D6 us H6 (s5.trans s6) (s5.free hD6) h6 (par_imp (fun _ _ z => z.imp fun a e => .inr e) pu)
end
end K
namespace K
open PySem L2 Rg LamX
open Evl (pss_cut)
theorem head_filter {α : Type} {p : α → Bool} : ∀ {l : List α} {i : Nat} {x : α}, l[i]? = some x → p x = true → (∀ (j : Nat) y, j < i → l[j]? = some y → p y = false) → (l.filter p).head? = some x
  | a :: l, 0, x, e, h, _ => by
    cases e
    rw [List.filter_cons_of_pos h]
    rfl
  | a :: l, i + 1, x, e, h, n => by
    rw [List.filter_cons_of_neg (by rw [n 0 a (Nat.succ_pos _) rfl]; exact Bool.false_ne_true)]
    exact head_filter (by simpa using e) h fun j y hj hy => n (j + 1) y (by omega) (by simpa using hy)
theorem filter_none {α : Type} {p : α → Bool} {l : List α} (n : ∀ (j : Nat) y, j < l.length → l[j]? = some y → p y = false) : l.filter p = [] := by
  rw [List.filter_eq_nil_iff]
  intro a m h
  obtain ⟨j, hj⟩ := List.mem_iff_getElem?.mp m
  have := n j a (List.getElem?_eq_some_iff.mp hj).1 hj
  rw [this] at h
  cases h
/-! ### ways of lots that part the bars -/
def hadW (ls : List Int) (w : List Strd) : Bool := hadN (netsW ls w)
theorem wayG_good {n : Nat} {ol : List (List Int)} {T r : List Int} (p : PartL ol T) (pm : (ol.flatMap id).Perm (rngI n)) (hr : r ∈ sgnR T.length) : goodV n (wayG ol (rowG ol T r)) := by
  obtain ⟨rl, r1⟩ := sgnR_mem.mp hr
  have nd : ((rowG ol T r).map (·.1)).Nodup := by
    have := nd_part (row := r) p T.length
    rwa [List.take_length] at this
  refine ⟨fun st m => ?_, ?_, ?_⟩
  · obtain ⟨l, hl, rfl⟩ := List.mem_map.mp m
    refine ⟨fun z => p.ne l hl (List.map_eq_nil_iff.mp z), by rw [List.length_map]; exact p.l8 l hl, fun q hq => ?_⟩
    obtain ⟨b, hb, rfl⟩ := List.mem_map.mp hq
    have h := sg_in nd (key_in p rl hl hb)
    rcases List.mem_append.mp h with h | h
    · obtain ⟨l2, _, e⟩ := List.mem_map.mp h
      exact .inl (congrArg Prod.snd e).symm
    · exact r1 _ (List.of_mem_zip h).2
  · unfold wayG
    rw [List.length_map]
    exact p.le
  · have e : flatB (wayG ol (rowG ol T r)) = ol.flatMap id := by
      unfold flatB wayG
      rw [List.flatMap_map]
      congr 1
      funext l
      show (l.map fun b => (b, sgG (rowG ol T r) b)).map (·.1) = l
      rw [List.map_map]
      exact List.map_id'' (fun _ => rfl) _
    rw [e]
    exact pm
/-- the lot whose net is too great -/
def LG (H : Hp) (v : V) (l : List Int) : Prop := ∃ a, v = V.ref a ∧ H a = some (.tup (l.map V.int))
theorem LG.same {H H' : Hp} {v : V} {l : List Int} (h : LG H v l) (s : Same H H') : LG H' v l := let ⟨a, e, z⟩ := h; ⟨a, e, s _ _ z⟩
theorem LG.mut {H : Hp} {D : Addr} {us ws : List V} {v : V} {l : List Int} (h : LG H v l) (hD : H D = some (.lst us)) : LG (upd H D (.lst ws)) v l := by
  obtain ⟨a, e, z⟩ := h
  exact ⟨a, e, by rw [upd_ne fun k => by rw [k, hD] at z; cases z]; exact z⟩
def greatOf (ls : List Int) (w : List Strd) : List Int := lotI ((dueW w).getD (atN (netsW ls (dueW w))) [])
section
variable {P : Program} {w : World} {K : PySem.W.Frag} {mg : Str → Option Value} {base : Heap}
/-! ### is_had -/
def spIH (K : PySem.W.Frag) (CR CL : Addr) : Sp := fun vs H Q _ => ∃ (r l : Addr) (ls : List Int) (W : List Strd), vs = [.ref r, .ref l] ∧ RingAt K CR H r ls ∧ LineF CL H l W ∧ goodV ls.length W ∧ 0 < ls.length ∧ ∀ H', Same H H' → Q (.bl (hadN (netsW ls W))) H'
theorem scIH : FnScope ["ring", "lineup"] ["ring", "lineup"] (defScope sIsHad) := ⟨rfl, rfl, rfl, by decide +kernel, rfl, by decide +kernel, by decide +kernel⟩
theorem ok_ih {CR CL f fN fT : Addr} {fd fdN fdT : FuncData} (F : Fun K "is_had" "is_had" sIsHad f fd) (T : Bi mg)
    (NE : DefAt P w K mg base CX0 1 "nets_of" ["ring", "lineup"] (spNets K CR CL) fN fdN) (TG : DefAt P w K mg base CX0 1 "too_great" ["nets"] (spTG K) fT fdT) : FnOk P w K mg base CX0 2 f fd ["ring", "lineup"] (spIH K CR CL) := by
  refine F.ok scIH (fun vs H Q E h => ?_) (fun cdv A outer s H vs Q E hr h => ?_)
  · obtain ⟨r, l, ls, W, rfl, _⟩ := h
    rfl
  · refine ⟨_, pss_one (ps_ret (pe_cmpR op_isN (pe_call TG.ok (hr.mono (by decide)) rfl TG.g TG.kp TG.b .nil pass0 (pa_cons (pe_call NE.ok (hr.mono (by decide)) rfl NE.g NE.kp NE.b .nil pass0 (pa_cons (pv 0) (pa_cons (pv 1) pa_nil))) pa_nil)) pe_non (nomark _))), ?_⟩
    obtain ⟨r, l, ls, W, rfl, ra, lf, gw, l0, k⟩ := h
    have fit := good_fit gw
    have pos := good_pos gw l0
    have w8 := fit.1
    have nl : (netsW ls W).length = W.length := by
      unfold netsW
      rw [List.length_map]
    refine ⟨_, rfl, _, rfl, r, l, ls, W, rfl, ra, lf.w, fit, fun p H1 s1 np h1 => ?_⟩
    have h1 : H1 p = some (.lst ((netsW ls W).map V.int)) := h1
    refine ⟨p, netsW ls W, rfl, h1, by omega, by omega, netsW_nn ls W, fun e1 => ?_, fun e1 => ?_⟩
    · have z := k H1 s1
      rw [e1] at z
      exact ⟨rfl, z⟩
    · have z := k H1 s1
      rw [e1] at z
      exact ⟨rfl, z⟩
/-! ### first_signs -/
def spFS (K : PySem.W.Frag) (CR CL : Addr) : Sp := fun vs H Q _ => ∃ (r a : Addr) (ls : List Int) (xs : List V) (ol : List (List Int)) (T : List Int), vs = [.ref r, .ref a] ∧ RingAt K CR H r ls ∧ 3 ≤ ls.length ∧ ls.length ≤ 8 ∧ H a = some (.lst xs) ∧ TL H xs ol ∧ PartL ol T ∧ (ol.flatMap id).Perm (rngI ls.length) ∧
  ∀ t x g gs H', Same H H' → H' t = some (.tup [x, .ref g]) → H' g = some (.lst gs) → (((waysG ol T).filter (hadW ls) = [] ∧ x = .non ∧ Paired (LG H') gs ((waysG ol T).map (greatOf ls))) ∨ ∃ wy u, ((waysG ol T).filter (hadW ls)).head? = some wy ∧ x = .ref u ∧ LineF CL H' u (dueW wy)) → Q (.ref t) H'
abbrev nFS : List Str := ["ring", "lots", "great", "strands", "lineup", "at"]
theorem scFS : FnScope nFS ["ring", "lots"] (defScope sFirstSigns) := ⟨rfl, rfl, rfl, by decide +kernel, rfl, by decide +kernel, by decide +kernel⟩
theorem ok_fs {CR CL f fC fL fN fT : Addr} {fd fdC fdL fdN fdT : FuncData} (F : Fun K "first_signs" "first_signs" sFirstSigns f fd) (T : Bi mg) (LP : LineP P w K mg base CL fL fdL) (RL : LineC K mg CL) (CH : DefAt P w K mg base CX0 2 "choices" ["lots"] spCh fC fdC)
    (NE : DefAt P w K mg base CX0 1 "nets_of" ["ring", "lineup"] (spNets K CR CL) fN fdN) (TG : DefAt P w K mg base CX0 1 "too_great" ["nets"] (spTG K) fT fdT) : FnOk P w K mg base CX0 7 f fd ["ring", "lots"] (spFS K CR CL) := by
  refine F.ok scFS (fun vs H Q E h => ?_) (fun cdv A outer s H vs Q E hr h => ?_)
  · obtain ⟨r, a, ls, xs, ol, T, rfl, _⟩ := h
    rfl
  · have nd := scFS.nd
    refine ⟨_, pss_cons (ps_set (i := 2) nd rfl (Or.inl rfl) (pe_lst pa_nil))
      (pss_cons (ps_for PassesOwn.never rfl (pi_list (pe_call CH.ok (hr.mono (by decide)) rfl CH.g CH.kp CH.b .nil pass0 (pa_cons (pv 1) pa_nil))) (pg_name (i := 3) nd rfl (Or.inl rfl))
        (pss_cons (ps_set (i := 4) nd rfl (Or.inl rfl) (pe_make LP.made LP.ok (hr.mono (by decide)) (by rfl) RL.g LP.b .nil pass0 (pa_cons (pv 3) pa_nil)))
        (pss_cons (ps_set (i := 5) nd rfl (Or.inl rfl) (pe_call TG.ok (hr.mono (by decide)) rfl TG.g TG.kp TG.b .nil pass0 (pa_cons (pe_call NE.ok (hr.mono (by decide)) rfl NE.g NE.kp NE.b .nil pass0 (pa_cons (pv 0) (pa_cons (pv 4) pa_nil))) pa_nil)))
        (pss_cons (ps_if (pt_cmpR op_isN (pv 5) pe_non (nomark _)) (pss_one (ps_ret (pe_tup (pa_cons (pv 4) (pa_cons (pv 2) pa_nil))))) pss_nil)
        (pss_one (ps_expr (pe_bm PySem.F.plainAttrs_list PySem.F.slot_list_append PySem.F.type_list_append mt_append (pv 2) (pa_cons (pe_ix (r := rIxT K) ix_tup (pe_fld (pv 4) rfl) (pv 5) (fun _ _ => rfl)) pa_nil))))))))
      (pss_one (ps_ret (pe_tup (pa_cons pe_non (pa_cons (pv 2) pa_nil)))))), ?_⟩
    obtain ⟨r, a, ls, xs, ol, T, rfl, ra, l3, l8, ha, tl, lt, pm, k⟩ := h
    refine ⟨(by show 0 ≤ sizeLine; decide), fun g ng => ?_⟩
    have s1 : Same H (upd H g (.lst [])) := (Same.refl H).new ng
    have hg : upd H g (.lst []) g = some (.lst []) := upd_same
    generalize upd H g (.lst []) = H1 at s1 hg ⊢
    refine ⟨_, rfl, a, xs, ol, T, rfl, s1 _ _ ha, par_imp (fun _ _ ⟨a, e, z⟩ => ⟨a, e, s1 _ _ z⟩) tl, lt, fun p ys H2 s2 np hp py => ⟨p, rfl, ⟨_, SqL.of hp⟩, ?_⟩⟩
    have s02 := s1.trans s2
    have yl : ys.length ≤ 128 := by
      rw [par_len py]
      unfold waysG
      rw [List.length_map, sgnR_length]
      exact Nat.pow_le_pow_right (by decide) lt.t7
    have way : ∀ w ∈ waysG ol T, goodV ls.length w := fun w m => by
      unfold waysG at m
      obtain ⟨row, hr, rfl⟩ := List.mem_map.mp m
      exact wayG_good lt pm hr
    have gp : p ≠ g := fun z => by
      rw [z, hg] at np
      cases np
    have Ng : H1 g ≠ none := fun z => by rw [hg] at z; cases z
    refine for_list (K := K) (a := p) (xs := ys) (fun i σ H' => ∃ (gs : List V) (z3 z4 z5 : Option V), σ = [some (.ref r), some (.ref a), some (.ref g), z3, z4, z5] ∧ Same H H' ∧ H' p = some (.lst ys) ∧ Paired (LWyN (fun a => H1 a ≠ none) H') ys (waysG ol T) ∧ H' g = some (.lst gs) ∧ Paired (LG H') gs (((waysG ol T).take i).map (greatOf ls)) ∧ ∀ (j : Nat) y, j < i → (waysG ol T)[j]? = some y → hadW ls y = false)
      ⟨[], none, none, none, rfl, s02, hp, py, s2 _ _ hg, .nil, fun j _ hj => absurd hj (Nat.not_lt_zero _)⟩ (fun i σ H' _ ⟨_, _, _, _, _, _, q, _⟩ => SqL.of q) ?_ ?_
    · rintro i x σ H3 hi ⟨gs, z3, z4, z5, rfl, s3, hp3, py3, hg3, gl, no⟩
      obtain ⟨wy, hwy, lw⟩ := par_get py3 hi
      have gw := way wy (List.mem_of_getElem? hwy)
      have il : i < ys.length := (List.getElem?_eq_some_iff.mp hi).1
      refine ⟨_, rfl, madeU lw.wy gw l3 l8 fun u H4 lf s4 => ⟨rfl, ?_⟩⟩
      have gd := due_good gw
      have fit := good_fit gd
      have pos := good_pos gd (by omega)
      have w8 := fit.1
      have nl : (netsW ls (dueW wy)).length = (dueW wy).length := by
        unfold netsW
        rw [List.length_map]
      refine ⟨_, rfl, _, rfl, r, u, ls, dueW wy, rfl, ra.same (s3.trans s4), lf.w, fit, fun q H5 s5 nq h5 => ?_⟩
      have h5 : H5 q = some (.lst ((netsW ls (dueW wy)).map V.int)) := h5
      have lf5 := lf.same s5
      have s35 := s4.trans s5
      refine ⟨q, netsW ls (dueW wy), rfl, h5, by omega, by omega, netsW_nn _ _, fun e1 => ?_, fun e1 => ?_⟩
      · refine ⟨_, rfl, rfl, _, rfl, iteDT rfl ?_⟩
        refine ⟨_, rfl, _, rfl, (by show 2 ≤ sizeLine; decide), fun t nt => ?_⟩
        have s6 : Same H5 (upd H5 t (.tup [.ref u, .ref g])) := (Same.refl H5).new nt
        have ht : upd H5 t (.tup [.ref u, .ref g]) t = some (.tup [.ref u, .ref g]) := upd_same
        generalize upd H5 t (.tup [.ref u, .ref g]) = H6 at s6 ht ⊢
        rw [had_due gw] at e1
        refine k t _ g gs H6 ((s3.trans s35).trans s6) ht ((s35.trans s6) _ _ hg3) (.inr ⟨wy, u, ?_, rfl, lf5.same s6⟩)
        exact head_filter hwy e1 no
      · obtain ⟨lt1, _⟩ := atN_lt e1
        refine ⟨_, rfl, rfl, _, rfl, iteDF (fun z => nomatch z) ?_⟩
        obtain ⟨dl, t2, l2, zs, nn, hl1, en, sw, hl2, px⟩ := id lf5
        obtain ⟨y, hy, la⟩ := lot_at (i := atN (netsW ls (dueW wy))) px (by omega)
        have hg5 := s35 _ _ hg3
        refine ⟨_, rfl, .inl ⟨rfl, _, SqL.of hg5⟩, _, rfl, u, CL, dl, _, _, rfl, hl1, RL.cl, RL.nL, rfl, _, rfl, l2, zs, (atN (netsW ls (dueW wy)) : Nat), y, rfl, rfl, .inl (.inl hl2), atI_nat hy, g, gs, _, rfl, rfl, hg5, szl (by rw [par_len gl, List.length_map, List.length_take]; have := par_len py3; omega), ?_⟩
        have s3' := (s3.trans s35).mut ng (o := .lst (gs ++ [y]))
        rw [had_due gw] at e1
        refine ⟨gs ++ [y], _, _, _, rfl, s3', by rw [upd_ne gp]; exact s35 _ _ hp3, par_imp (fun _ _ z => (z.same s35).mut Ng hg5) py3, upd_same, by rw [← take_snoc hwy, List.map_append]; exact par_app (par_imp (fun _ _ z => (z.same s35).mut hg5) gl) (.cons (LG.mut la hg5) .nil), fun j y hj hy => ?_⟩
        by_cases c : j = i
        · subst c
          rw [hwy] at hy
          cases hy
          exact e1
        · exact no j y (by omega) hy
    · rintro σ H3 ⟨gs, z3, z4, z5, rfl, s3, hp3, py3, hg3, gl, no⟩
      refine ⟨_, rfl, (by show 2 ≤ sizeLine; decide), fun t nt => ?_⟩
      have s4 : Same H3 (upd H3 t (.tup [.non, .ref g])) := (Same.refl H3).new nt
      have ht : upd H3 t (.tup [.non, .ref g]) t = some (.tup [.non, .ref g]) := upd_same
      generalize upd H3 t (.tup [.non, .ref g]) = H4 at s4 ht ⊢
      refine k t _ g gs H4 (s3.trans s4) ht (s4 _ _ hg3) (.inl ⟨filter_none fun j y hj hy => no j y (by rw [par_len py3]; exact hj) hy, rfl, by rw [par_len py3, List.take_length] at gl; exact par_imp (fun _ _ z => z.same s4) gl⟩)
end
end K
namespace K
open PySem L2 Rg LamX NdefX
open Evl (pss_cut)
/-! ### a paper of a line-up -/
/-- instances of the class C are no lists and no tuples -/
structure NoSeq (K : PySem.W.Frag) (C : Addr) : Prop where
  i : C8.InsC K C
  l : PySem.W.kitOne K (.ref C) (.type "list") = some false
  t : PySem.W.kitOne K (.ref C) (.type "tuple") = some false
def InsAt (H : Hp) (C u : Addr) : Prop := ∃ dx fs, H u = some (.ins C dx fs)
theorem InsAt.same {H H' : Hp} {C u : Addr} (h : InsAt H C u) (s : Same H H') : InsAt H' C u := let ⟨dx, fs, e⟩ := h; ⟨dx, fs, s _ _ e⟩
theorem LineF.ins {C : Addr} {H : Hp} {r : Addr} {w : List Strd} (h : LineF C H r w) : InsAt H C r := let ⟨dx, _, _, _, _, e, _⟩ := h; ⟨dx, _, e⟩
section
variable {P : Program} {w : World} {K : PySem.W.Frag} {mg : Str → Option Value} {base : Heap}
def spFzI (C : Addr) : Sp := fun vs H Q _ => ∃ u : Addr, vs = [.ref u] ∧ InsAt H C u ∧ ∀ H', Same H H' → Q (.ref u) H'
theorem ok_fzI {C f : Addr} {fd : FuncData} (F : Fun K "fixed" "fixed" sFixed f fd) (T : Bi mg) (NS : NoSeq K C) : FnOk P w K mg base CX0 1 f fd ["value"] (spFzI C) := by
  refine F.ok scFz (fun vs H Q E h => ?_) (fun cdv A outer s H vs Q E hr h => ?_)
  · obtain ⟨u, rfl, _⟩ := h
    rfl
  · refine ⟨_, pss_cons (ps_if (pt_val (pe_callB call_isiT (by rfl) T.isinstance (by decide +kernel) (pa_cons (pv 0) (pa_cons (pe_tup (pa_cons (pe_bltn (v := .ty "list") (u := .type "list") (by rfl) T.list (by decide +kernel) rfl) (pa_cons (pe_bltn (v := .ty "tuple") (u := .type "tuple") (by rfl) T.tuple (by decide +kernel) rfl) pa_nil))) pa_nil)))) (pss_one ps_never) pss_nil)
      (pss_one (ps_ret (pv 0))), ?_⟩
    obtain ⟨u, rfl, h, q⟩ := h
    refine ⟨_, rfl, (by show 2 ≤ sizeLine; decide), fun p hp => ?_⟩
    have s1 : Same H (upd H p (.tup [.ty "list", .ty "tuple"])) := (Same.refl H).new hp
    obtain ⟨dx, fs, h1⟩ := h.same s1
    have EI := NS.i
    refine ⟨.ref u, p, [.ty "list", .ty "tuple"], .ref C, _, false, rfl, upd_same, .cons (.ty _) (.cons (.ty _) .nil), .base (.ins h1 EI.cl EI.ha EI.hn EI.htk EI.hm), kitAny_cons NS.l (fun e => kitAny_cons (b := false) (r := false) NS.t (fun _ => kitAny_nil) fun e' => nomatch e') (fun e => nomatch e), _, rfl, iteF ?_⟩
    exact ⟨_, rfl, q _ s1⟩
def spFzT (C : Addr) : Sp := fun vs H Q _ => ∃ t u : Addr, vs = [.ref t] ∧ H t = some (.tup [.ref u]) ∧ InsAt H C u ∧ ∀ t' H', Same H H' → H' t' = some (.tup [.ref u]) → Q (.ref t') H'
theorem ok_fzT {C f : Addr} {fd : FuncData} (F : Fun K "fixed" "fixed" sFixed f fd) (T : Bi mg) (FX : DefAt P w K mg base CX0 1 "fixed" ["value"] (spFzI C) f fd) : FnOk P w K mg base CX0 2 f fd ["value"] (spFzT C) := by
  refine F.ok scFz (fun vs H Q E h => ?_) (fun cdv A outer s H vs Q E hr h => ?_)
  · obtain ⟨t, u, rfl, _⟩ := h
    rfl
  · have nd := scFz.nd
    refine ⟨_, pss_cons (ps_if (pt_val (pe_callB call_isiT (by rfl) T.isinstance (by decide +kernel) (pa_cons (pv 0) (pa_cons (pe_tup (pa_cons (pe_bltn (v := .ty "list") (u := .type "list") (by rfl) T.list (by decide +kernel) rfl) (pa_cons (pe_bltn (v := .ty "tuple") (u := .type "tuple") (by rfl) T.tuple (by decide +kernel) rfl) pa_nil))) pa_nil))))
        (pss_one (ps_ret (pe_callTy call_tuple_of (by rfl) T.tuple (by decide +kernel) (pa_cons (pe_lc (own := [("one", 1)]) (g := gName 1) (tt := tYes) rfl nd (pi_tup (pv 0)) (blkOk_by (N := nFz) (sc := defScope sFixed) (by decide +kernel)) (fun _ _ _ _ _ => pg_name (i := 1) nd rfl (Or.inl rfl)) (fun _ _ _ _ _ => pts_nil) (fun _ _ _ _ _ => pe_call FX.ok hr rfl FX.g FX.kp FX.b .nil pass0 (pa_cons (pv 1) pa_nil))) pa_nil)))) pss_nil)
      (pss_one ps_never), ?_⟩
    obtain ⟨t, u, rfl, ht, h, q⟩ := h
    refine ⟨_, rfl, (by show 2 ≤ sizeLine; decide), fun p hp => ?_⟩
    have s1 : Same H (upd H p (.tup [.ty "list", .ty "tuple"])) := (Same.refl H).new hp
    have hpp : upd H p (.tup [.ty "list", .ty "tuple"]) p = some (.tup [.ty "list", .ty "tuple"]) := upd_same
    generalize upd H p (.tup [.ty "list", .ty "tuple"]) = H1 at s1 hpp ⊢
    have h1 := h.same s1
    have ht1 := s1 _ _ ht
    refine ⟨.ref t, p, [.ty "list", .ty "tuple"], .type "tuple", _, true, rfl, hpp, .cons (.ty _) (.cons (.ty _) .nil), .base (.tup ht1), kitAny_cons (b := false) (kit_ty (by decide +kernel)) (fun _ => kitAny_cons (b := true) (r := true) (kit_ty (by decide +kernel)) (fun e => nomatch e) fun _ => rfl) (fun e => nomatch e), _, rfl, iteT ?_⟩
    refine ⟨_, rfl, t, rfl, ⟨_, .inl (.inl ht1)⟩, fun D hD => ?_⟩
    refine lc_it (walk_tup (K := K) (a := t) (xs := [.ref u])) (fun j H' => Same H1 H' ∧ H' D = some (.lst (([V.ref u] : List V).take j))) ⟨(Same.refl H1).new hD, upd_same⟩ (fun j H' _ r => .inl (.inl (r.1 _ _ ht1))) ?_ ?_
    · rintro j y H2 H3 hj ⟨s2, h2⟩ ⟨rfl, hy⟩
      have hj0 : j = 0 := by
        have : j < 1 := hj
        omega
      subst hj0
      obtain rfl : y = .ref u := (Option.some.inj hy).symm
      refine ⟨rfl, _, rfl, u, rfl, h1.same s2, fun H4 s4 => ⟨_, s4 _ _ h2, by show 0 < sizeLine; decide, (s2.trans s4).mut hD, upd_same⟩⟩
    · rintro H2 ⟨s2, h2⟩
      refine ⟨D, _, rfl, .inl ⟨SqL.of h2, fun t' nt => ?_⟩⟩
      exact q t' _ ((s1.trans s2).new nt) upd_same
/-! ### Paper.__init__ with a line-up, Most.__init__ -/
def spPIm (C L : Addr) : Sp := fun vs H Q _ => ∃ (r dx p u : Addr) (word : Str), vs = [.ref r, .str word, .ref p] ∧ H r = some (.ins C dx []) ∧ H p = some (.tup [.ref u]) ∧ u ≠ r ∧ InsAt H L u ∧
  ∀ t H', But r H H' → H' t = some (.tup [.ref u]) → H' r = some (.ins C dx [("word", .str word), ("parts", .ref t)]) → Q .non H'
def spPIRm (C L : Addr) : Sp := fun vs H Q _ => ∃ (r dx u : Addr) (word : Str), vs = [.ref r, .str word, .ref u] ∧ H r = some (.ins C dx []) ∧ u ≠ r ∧ InsAt H L u ∧
  ∀ t H', But r H H' → H' t = some (.tup [.ref u]) → H' r = some (.ins C dx [("word", .str word), ("parts", .ref t)]) → Q .non H'
theorem ok_pim {C L f fX : Addr} {fd fdX : FuncData} (F : Fun K "__init__" "Paper.__init__" sPaperInit f fd) (pc : PapC K C) (FX : DefAt P w K mg base CX0 2 "fixed" ["value"] (spFzT L) fX fdX) : FnR P w K mg base CX0 3 f (spPIRm C L) := by
  have z := fn_starF (P := P) (w := w) (mg := mg) (base := base) (ps := ["self", "word"]) (pv := "parts") (N := nPI) (k := 2) (sp := spPIm C L) F scPI (fun kV doc pm an cdv ct => StX.bind_star2 (B := fun l => bindArgs (PySem.W.fnOf "__init__" "Paper.__init__" (defArgs sPaperInit) (defBody sPaperInit) (defScope sPaperInit) .none kV doc pm an cdv ct) ⟨l, []⟩) (fun _ _ => rfl) (fun _ _ _ _ => rfl)) fun cdv A outer s H vs Q E hr h => by
    refine ⟨_, (pss_cons (ps_fld (pv 0) (pv 1) rfl) (pss_one (ps_fld (pv 0) (pe_call FX.ok hr rfl FX.g FX.kp FX.b .nil pass0 (pa_cons (pv 2) pa_nil)) rfl))), ?_⟩
    obtain ⟨r, dx, p, u, word, rfl, hr0, hp, ur, hu, q⟩ := h
    refine ⟨_, rfl, _, rfl, r, C, dx, [], rfl, hr0, pc.cl, pc.nw, (by show 0 < 1000; decide), ?_⟩
    have hr1 : upd H r (.ins C dx (putF "word" (.str word) [])) r = some (.ins C dx [("word", .str word)]) := upd_same
    have s1 : But r H (upd H r (.ins C dx (putF "word" (.str word) []))) := fun b o ne e => by rw [upd_ne ne]; exact e
    generalize upd H r (.ins C dx (putF "word" (.str word) [])) = H1 at hr1 s1 ⊢
    have pr : p ≠ r := fun z => by rw [z, hr0] at hp; cases hp
    obtain ⟨ux, ufs, hu0⟩ := hu
    refine ⟨_, rfl, p, u, rfl, s1 _ _ pr hp, ⟨ux, ufs, s1 _ _ ur hu0⟩, fun t H2 s2 ht => ?_⟩
    have hr2 := s2 _ _ hr1
    have tr : t ≠ r := fun z => by rw [z, hr2] at ht; cases ht
    refine ⟨_, rfl, r, C, dx, _, rfl, hr2, pc.cl, pc.np, (by show 1 < 1000; decide), ?_⟩
    have s3 : But r H2 (upd H2 r (.ins C dx (putF "parts" (.ref t) [("word", .str word)]))) := fun b o ne e => by rw [upd_ne ne]; exact e
    exact q t _ ((s1.trans fun b o _ e => s2 _ _ e).trans s3) (s3 _ _ tr ht) upd_same
  exact z.imp fun vs H Q E ⟨r, dx, u, word, e, hr0, ur, hu, q⟩ => ⟨[.ref r, .str word], [.ref u], e, rfl, Nat.le_trans (by show 1 ≤ 1000; decide) (by decide : 1000 ≤ sizeLine), fun p np => by
    have s0 : Same H (upd H p (.tup [.ref u])) := (Same.refl H).new np
    exact ⟨r, dx, p, u, word, rfl, s0 _ _ hr0, upd_same, ur, hu.same s0, fun t H' b ht hr' => q t H' (fun a o ne e => b a o ne (s0 _ _ e)) ht hr'⟩⟩
structure MostC (K : PySem.W.Frag) (mg : Str → Option Value) (C : Addr) : Prop where
  pc : PapC K C
  n1 : NoAttr K C "lineup"
  g : mg "Signs" = some (.ref C)
abbrev fsMI (u : V) : List (Str × V) := [("lineup", u)]
def spMI (C L : Addr) : Sp := fun vs H Q _ => ∃ (r dx u : Addr), vs = [.ref r, .ref u] ∧ H r = some (.ins C dx []) ∧ u ≠ r ∧ InsAt H L u ∧ ∀ H', But r H H' → PapG C "signs" (fsMI (.ref u)) H' r → Q .non H'
abbrev nMI : List Str := ["self", "lineup", "__class__"]
theorem scMI : NScope nMI ((("self" : Str)) :: (["lineup"] : List Str)) ["__class__"] (defScope sSignsInit) := nscope_by (by decide +kernel)
theorem ok_mi {L f c cc C f2 : Addr} {fd : FuncData} (F : FunS K "__init__" "Signs.__init__" sSignsInit f c cc fd) (T : SupAt P K mg (nfS sSignsInit "__init__" "Signs.__init__" cc c) f C cc) (R : MostC K mg C) (TO : SupTo K C C f2) (PI : FnR P w K mg base CX0 3 f2 (spPIRm C L)) :
    FnOk P w K mg base CX0 4 f fd ["self", "lineup"] (spMI C L) := by
  obtain ⟨oc, od, kV, doc, pm, an, ct, osl, rfl, lk, hcd⟩ := F.ex
  refine fn_super (CX2 := CX0) (f2 := f2) (sp2 := spPIRm C L) (F := nfS sSignsInit "__init__" "Signs.__init__" cc c) (N := nMI) (ps := ["lineup"]) (sp := spMI C L) (k := 3) lk hcd scMI T rfl (fun vs H Q E h => ?_) (fun _ => rfl) (fun _ => rfl) (fun _ => ⟨_, rfl⟩) (fun _ _ => rfl) (fun _ _ => rfl) fun A outer s H vs Q E hr h => ?_
  · obtain ⟨r, dx, u, rfl, _⟩ := h
    rfl
  · obtain ⟨r, dx, u, rfl, hr0, ur, hu, q⟩ := h
    refine ⟨r, C, dx, [], _, _, _, _, rfl, hr0, R.pc.cl, TO, PI, pass0, (pa_cons pe_str (pa_cons (pv 1) pa_nil)),
      (pss_one (ps_fld (pv 0) (pe_ix (r := rIxT K) ix_tup (pe_fld (pv 0) rfl) pe_int (fun _ _ => rfl)) rfl)), ?_⟩
    refine ⟨_, rfl, r, dx, u, "signs", rfl, hr0, ur, hu, fun t H1 s1 ht hr1 => ?_⟩
    have tr : t ≠ r := fun z => by rw [z, hr1] at ht; cases ht
    refine ⟨_, rfl, r, C, dx, _, _, rfl, hr1, R.pc.cl, R.pc.np, rfl, t, _, 0, .ref u, rfl, rfl, .inl (.inl ht), rfl, _, rfl, r, C, dx, _, rfl, hr1, R.pc.cl, R.n1, (by show 2 < 1000; decide), ?_⟩
    have s2 : But r H1 (upd H1 r (.ins C dx (putF "lineup" (.ref u) [("word", .str "signs"), ("parts", .ref t)]))) := fun b o ne e => by rw [upd_ne ne]; exact e
    exact q _ (s1.trans s2) ⟨dx, t, upd_same, s2 _ _ tr ht⟩
/-- a Most of a line-up -/
def MostR (C L : Addr) (H : Hp) (q : Addr) (w : List Strd) : Prop := ∃ u, PapG C "signs" (fsMI (.ref u)) H q ∧ LineF L H u w
theorem MostR.ext {C L : Addr} {H H' : Hp} {q : Addr} {w : List Strd} (h : MostR C L H q w) (s : ExtN H H') : MostR C L H' q w := let ⟨u, a, b⟩ := h; ⟨u, a.ext s, b.ext s⟩
theorem madeM {C L : Addr} {E : XK} {H : Hp} {u : Addr} {w : List Strd} {R : Addr → VK} (lf : LineF L H u w) (h : ∀ x H', Same H H' → PapG C "signs" (fsMI (.ref u)) H' x → R x .non H') :
    ∀ x dx, H x = none → H dx = none → dx ≠ x → spMI C L (.ref x :: ([.ref u] ++ [])) (upd (upd H dx (.own x)) x (.ins C dx [])) (R x) E := by
  intro x dx hx hdx _
  have s0 : Same H (upd (upd H dx (.own x)) x (.ins C dx [])) := fun b o q => by
    rw [upd_ne (ne_of_none q hx), upd_ne (ne_of_none q hdx)]
    exact q
  have ux : u ≠ x := by
    obtain ⟨dy, fs, hu⟩ := lf.ins
    exact ne_of_none hu hx
  exact ⟨x, dx, u, rfl, upd_same, ux, lf.ins.same s0, fun H' kp pg => h x H' (fun b o e => kp b o (ne_of_none e hx) (s0 b o e)) pg⟩
structure MostP (P : Program) (w : World) (K : PySem.W.Frag) (mg : Str → Option Value) (base : Heap) (C L fI : Addr) (fdI : FuncData) : Prop where
  made : Mk K C fI
  ok : FnOk P w K mg base CX0 4 fI fdI ["self", "lineup"] (spMI C L)
  b : Binds K fdI ["self", "lineup"] []
end
end K
namespace Rg
open PySem PySem.Spec PyProof.Rows L2
/-! ### x != y of two tuples that hold one and the same thing -/
section
variable {X : Cx}
def rNeS1 (K : PySem.W.Frag) : R2 := fun x y H Q => ∃ a b u : Addr, x = .ref a ∧ y = .ref b ∧ SqT K H a [.ref u] ∧ SqT K H b [.ref u] ∧ Q (.bl false) H
theorem op_neS1 (hu : X.A.units + 64 < cLine) : OpR X (compareOp .NotEq) (rNeS1 X.K) := by
  intro pins s σ H x y v u Q I rx ry ⟨a, b, r, ex, ey, ha, hb, q⟩
  subst ex ey
  cases rx
  cases ry
  obtain ⟨its, r1, t1, z1⟩ := I.tuple ha
  obtain ⟨its2, r2, t2, z2⟩ := I.tuple hb
  rw [Vals.ref1 r1] at t1
  rw [Vals.ref1 r2] at t2
  show wpAny (model X.prog X.w) X.A (richCompare .NotEq (.ref a) (.ref b)) (EP X pins σ Q) X.xe s
  have z := SeqAt.RcNeAt.tuples (A := X.A) (e := fun _ => true) (isTuple_of t1) (isTuple_of t2) (by omega) (fun j h1 h2 => by
    have j0 : j = 0 := by
      have : j < 1 := h1
      omega
    subst j0
    exact SeqAt.EqAt.same _)
  exact z X.prog X.w X.xe _ ⟨.bl false, H, I, rfl, q⟩
end
end Rg
namespace K
open PySem L2 Rg LamX
open Evl (pss_cut)
theorem atm_good {v : V} {d : PyData} (h : Atm v d) : d.canLay0 = true ∧ d.depth = 0 ∧ PyData.eqv d d = true := by
  rcases h with ⟨i, _, rfl⟩ | ⟨_, rfl⟩ | ⟨z, _, rfl⟩
  · exact ⟨by simp [PyData.canLay0], by simp [PyData.depth], by simp [PyData.eqv]⟩
  · exact ⟨by simp [PyData.canLay0], by simp [PyData.depth], by simp [PyData.eqv]⟩
  · exact ⟨by simp [PyData.canLay0, z.2], by simp [PyData.depth], by simp [PyData.eqv]⟩
theorem fv_good {H : Hp} {f : Bool} : ∀ {n : Nat} {v : V} {d : PyData}, FV H f n v d → d.canLay0 = true ∧ d.depth ≤ n ∧ PyData.eqv d d = true
  | 0, v, d, h => by
    obtain ⟨a, b, c⟩ := atm_good h
    exact ⟨a, by omega, c⟩
  | n + 1, v, d, h => by
    rcases h with h | ⟨a, xs, ds, _, ha, rfl, hl, p⟩
    · obtain ⟨a, b, c⟩ := atm_good h
      exact ⟨a, by omega, c⟩
    · clear ha hl
      have go : PyData.canLayAll0 ds = true ∧ PyData.depthAll ds ≤ n ∧ PyData.eqvAll ds ds = true := by
        induction p with
        | nil => exact ⟨by simp [PyData.canLayAll0], by simp [PyData.depthAll], by simp [PyData.eqvAll]⟩
        | cons h t ih =>
          obtain ⟨b1, b2, b3⟩ := fv_good h
          obtain ⟨c1, c2, c3⟩ := ih
          exact ⟨by simp [PyData.canLayAll0, b1, c1], by simp only [PyData.depthAll]; omega, by simp [PyData.eqvAll, b3, c3]⟩
      obtain ⟨c1, c2, c3⟩ := go
      exact ⟨by simp [PyData.canLay0, c1], by simp only [PyData.depth]; omega, by simp [PyData.eqv, c3]⟩
theorem fv_shaped {H : Hp} {f : Bool} {n : Nat} {v : V} {d : PyData} (h : FV H f n v d) (hn : n ≤ 64) : SeqAt.shaped d = true := by
  obtain ⟨a, b, _⟩ := fv_good h
  simp [SeqAt.shaped, a]
  omega
theorem fv_dp {K : PySem.W.Frag} {H : Hp} : ∀ {n : Nat} {v : V} {d : PyData}, FV H false n v d → Dp K H v d := by
  have at_dp : ∀ {v : V} {d : PyData}, Atm v d → Dp K H v d := fun h => by
    rcases h with ⟨i, rfl, rfl⟩ | ⟨rfl, rfl⟩ | ⟨z, rfl, rfl⟩
    · exact .int i
    · exact .non
    · exact .str z.1
  intro n
  induction n with
  | zero => exact fun h => at_dp h
  | succ n ih =>
    intro v d h
    rcases h with h | ⟨a, xs, ds, rfl, ha, rfl, hl, p⟩
    · exact at_dp h
    · rcases ha with ha | ⟨z, _⟩
      · refine .tup (.inl (.inl ha)) ?_
        clear ha hl
        induction p with
        | nil => exact .nil
        | cons h t ih2 => exact .cons (ih h) ih2
      · cases z

theorem ss_fv {H : Hp} {v : V} {st : Strd} (h : SSat H v st) (l : st.length ≤ 8) : FV H false 2 v (strdD st) := by
  obtain ⟨a, xs, rfl, ha, px⟩ := h
  have xl := par_len px
  refine FV.tup ha (by omega) ?_
  clear ha xl l
  induction px with
  | nil => exact .nil
  | cons h _ ih =>
    obtain ⟨b, rfl, hb⟩ := h
    exact .cons (FV.tup hb (by show 2 ≤ 1000; decide) (.cons (FV.int _) (.cons (FV.int _) .nil))) ih
theorem sw_fv {H : Hp} {v : V} {W : List Strd} (h : SWat H v W) (l : ∀ st ∈ W, st.length ≤ 8) (lw : W.length ≤ 8) : FV H false 3 v (wayD W) := by
  obtain ⟨a, xs, rfl, ha, px⟩ := h
  have xl := par_len px
  refine FV.tup ha (by omega) ?_
  clear ha xl lw
  induction px with
  | nil => exact .nil
  | cons h _ ih => exact .cons (ss_fv h (l _ (List.mem_cons_self ..))) (ih fun st m => l st (List.mem_cons_of_mem _ m))
/-- two line-ups of the same strands -/
def LnR (CL : Addr) : Addr → Addr → Hp → Prop := fun a b H => ∃ W n, LineF CL H a W ∧ LineF CL H b W ∧ goodV n W
theorem LnR.mon {CL a b : Addr} {H H' : Hp} (e : Ext H H') (h : LnR CL a b H) : LnR CL a b H' := let ⟨W, n, x, y, g⟩ := h; ⟨W, n, x.same e, y.same e, g⟩
section
variable {P : Program} {w : World} {K : PySem.W.Frag} {mg : Str → Option Value} {base : Heap}
/-! ### == of line-ups -/
theorem scLQ : FnScope ["self", "other"] ["self", "other"] (defScope sLineUpEq) := ⟨rfl, rfl, rfl, by decide +kernel, rfl, by decide +kernel, by decide +kernel⟩
theorem ok_lq {CL f : Addr} {fd : FuncData} (F : Fun K "__eq__" "LineUp.__eq__" sLineUpEq f fd) (T : Bi mg) (RL : LineC K mg CL) (EI : C8.InsC K CL) : FnOk P w K mg base CX0 1 f fd ["self", "other"] (spEq (LnR CL)) := by
  refine F.ok scLQ (fun vs H Q E h => ?_) (fun cdv A outer s H vs Q E hr h => ?_)
  · obtain ⟨a, b, rfl, _⟩ := h
    rfl
  · have nd := scLQ.nd
    refine ⟨_, (pss_one (ps_ret (pe_and (pe_callB call_isi (by rfl) T.isinstance (by decide +kernel) (pa_cons (pv 1) (pa_cons (pe_glob (v := .ref CL) rfl RL.g rfl) pa_nil))) (pe_one (pe_cmpR (op_eqD hr.units) (pe_fld (pv 0) rfl) (pe_fld (pv 1) rfl) (nomark _)))))), ?_⟩
    obtain ⟨a, b, rfl, ⟨W, n, la, lb, gw⟩, q⟩ := h
    obtain ⟨dx, t, l, xs, k, ha, _, sa, _, _⟩ := id la
    obtain ⟨dy, t', l', xs', k', hb, _, sb, _, _⟩ := id lb
    refine ⟨_, rfl, .ref b, .ref CL, .ref CL, .ref CL, true, rfl, .own _, .base (.ins hb EI.cl EI.ha EI.hn EI.htk EI.hm), EI.me, _, rfl, iteT ?_⟩
    refine ⟨_, rfl, a, CL, dx, _, _, rfl, ha, RL.cl, RL.nS, rfl, _, rfl, b, CL, dy, _, _, rfl, hb, RL.cl, RL.nS, rfl, ?_⟩
    have w8 := gw.ln
    have g1 := sw_fv sa (fun st m => (gw.st st m).2.1) w8
    have g2 := sw_fv sb (fun st m => (gw.st st m).2.1) w8
    refine ⟨_, _, fv_dp g1, fv_dp g2, fv_shaped g1 (by decide), fv_shaped g2 (by decide), ?_⟩
    rw [(fv_good g1).2.2]
    exact q H (Same.refl H)
structure LineQ (P : Program) (w : World) (K : PySem.W.Frag) (mg : Str → Option Value) (base : Heap) (C fQ : Addr) (fdQ : FuncData) : Prop where
  ok : FnOk P w K mg base CX0 1 fQ fdQ ["self", "other"] (spEq (LnR C))
  ne : PySem.W.findIn K (.ref C) "__ne__" = some (some (.builtin "object.__ne__"))
  sub : PySem.W.subIn K (.ref C) (.type "object") = some true
  eq : PySem.W.findIn K (.ref C) "__eq__" = some (some (.ref fQ))
  fn : PySem.W.isFn K (.ref fQ) = true
  b : Binds K fdQ ["self", "other"] []
/-! ### == of papers of line-ups -/
def spAEm (CM CL : Addr) : Sp := fun vs H Q _ => ∃ (r s u v : Addr), vs = [.ref r, .ref s] ∧ PapG CM "signs" (fsMI (.ref u)) H r ∧ PapG CM "signs" (fsMI (.ref v)) H s ∧ LnR CL u v H ∧ ∀ H', Same H H' → Q (.bl true) H'
theorem scAE : FnScope ["one", "other"] ["one", "other"] (defScope sAreEqual) := ⟨rfl, rfl, rfl, by decide +kernel, rfl, by decide +kernel, by decide +kernel⟩
theorem ok_aem {CM CL f fQ : Addr} {fd fdQ : FuncData} (F : Fun K "are_equal" "are_equal" sAreEqual f fd) (RC : MostC K mg CM) (ic : C8.InsC K CM) (nc : NamC K CM "Signs") (LQ : LineQ P w K mg base CL fQ fdQ) : FnOk P w K mg base CX0 4 f fd ["one", "other"] (spAEm CM CL) := by
  refine F.ok scAE (fun vs H Q E h => ?_) (fun cdv A outer s H vs Q E hr h => ?_)
  · obtain ⟨r, s, u, v, rfl, _⟩ := h
    rfl
  · have nd := scAE.nd
    refine ⟨_, (pss_cons (ps_if (pt_cmpR op_ne (pe_cname (pv 0)) (pe_cname (pv 1)) (nomark _)) (pss_one (ps_ret pe_bl)) pss_nil)
      (pss_one (ps_ret (pe_and (pe_cmpR op_eq (pe_fld (pv 0) rfl) (pe_fld (pv 1) rfl) (nomark _)) (pe_one (pe_cmpR (op_eqG (rcG_tup (n := 2) (mon_ins (C := CL) (R := LnR CL) fun a b H H' e h => h.mon e) ((eqG_ins LQ.ok LQ.eq LQ.fn LQ.b pass0).mono (by decide))) hr) (pe_fld (pv 0) rfl) (pe_fld (pv 1) rfl) (nomark _))))))), ?_⟩
    obtain ⟨r, s, u, v, rfl, ⟨dx, t, hr0, ht⟩, ⟨dy, t', hs0, ht'⟩, ln, q⟩ := h
    have pc := RC.pc
    refine ⟨_, rfl, r, CM, dx, _, "Signs", rfl, hr0, ic, nc, _, rfl, s, CM, dy, _, "Signs", rfl, hs0, ic, nc, rfl, _, rfl, ?_⟩
    rw [decide_eq_true rfl]
    refine iteF ?_
    refine ⟨_, rfl, r, CM, dx, _, _, rfl, hr0, pc.cl, pc.nw, rfl, _, rfl, s, CM, dy, _, _, rfl, hs0, pc.cl, pc.nw, rfl, rfl, _, rfl, ?_⟩
    rw [decide_eq_true rfl]
    refine iteT ?_
    refine ⟨_, rfl, r, CM, dx, _, _, rfl, hr0, pc.cl, pc.np, rfl, _, rfl, s, CM, dy, _, _, rfl, hs0, pc.cl, pc.np, rfl, ?_⟩
    obtain ⟨W, n, lu, lv, gw⟩ := id ln
    obtain ⟨ux, ufs, hu⟩ := lu.ins
    obtain ⟨vx, vfs, hv⟩ := lv.ins
    exact ⟨⟨t, t', [.ref u], [.ref v], rfl, rfl, .inl (.inl ht), .inl (.inl ht'), Prs.cons ⟨u, v, ux, vx, ufs, vfs, rfl, rfl, hu, hv, ln⟩ Prs.nil⟩, fun H' e => q H' e⟩
theorem scPE : FnScope ["self", "other"] ["self", "other"] (defScope sPaperEq) := ⟨rfl, rfl, rfl, by decide +kernel, rfl, by decide +kernel, by decide +kernel⟩
theorem ok_pem {CM CL aP f fA : Addr} {fd fdA : FuncData} (F : Fun K "__eq__" "Paper.__eq__" sPaperEq f fd) (T : Bi mg) (PG : mg "Paper" = some (.ref aP)) (SB : PySem.W.kitOne K (.ref CM) (.ref aP) = some true) (ic : C8.InsC K CM)
    (AE : DefAt P w K mg base CX0 4 "are_equal" ["one", "other"] (spAEm CM CL) fA fdA) : FnOk P w K mg base CX0 5 f fd ["self", "other"] (spAEm CM CL) := by
  refine F.ok scPE (fun vs H Q E h => ?_) (fun cdv A outer s H vs Q E hr h => ?_)
  · obtain ⟨r, s, u, v, rfl, _⟩ := h
    rfl
  · have nd := scPE.nd
    refine ⟨_, (pss_one (ps_ret (pe_and (pe_callB call_isi (by rfl) T.isinstance (by decide +kernel) (pa_cons (pv 1) (pa_cons (pe_glob (v := .ref aP) rfl PG rfl) pa_nil))) (pe_one (pe_call AE.ok (hr.mono (by decide)) rfl AE.g AE.kp AE.b .nil pass0 (pa_cons (pv 0) (pa_cons (pv 1) pa_nil))))))), ?_⟩
    obtain ⟨r, s, u, v, rfl, p1, p2, ln, q⟩ := h
    obtain ⟨dy, t', hs0, hu⟩ := id p2
    refine ⟨_, rfl, .ref s, .ref aP, .ref CM, .ref aP, true, rfl, .own _, .base (.ins hs0 ic.cl ic.ha ic.hn ic.htk ic.hm), SB, _, rfl, iteT ?_⟩
    exact ⟨_, rfl, _, rfl, r, s, u, v, rfl, p1, p2, ln, q⟩
structure MostQ (P : Program) (w : World) (K : PySem.W.Frag) (mg : Str → Option Value) (base : Heap) (C L fQ : Addr) (fdQ : FuncData) : Prop where
  ok : FnOk P w K mg base CX0 5 fQ fdQ ["self", "other"] (spAEm C L)
  ne : PySem.W.findIn K (.ref C) "__ne__" = some (some (.builtin "object.__ne__"))
  sub : PySem.W.subIn K (.ref C) (.type "object") = some true
  eq : PySem.W.findIn K (.ref C) "__eq__" = some (some (.ref fQ))
  fn : PySem.W.isFn K (.ref fQ) = true
  b : Binds K fdQ ["self", "other"] []
/-! ### is_called -/
def spIC (K : PySem.W.Frag) : Sp := fun vs H Q _ => ∃ (a C dx : Addr) (fs : List (Str × V)) (z : Str), vs = [.ref a, .str z] ∧ H a = some (.ins C dx fs) ∧ C8.InsC K C ∧ NamC K C z ∧ Q (.bl true) H
theorem scIC : FnScope ["value", "name"] ["value", "name"] (defScope sIsCalled) := ⟨rfl, rfl, rfl, by decide +kernel, rfl, by decide +kernel, by decide +kernel⟩
theorem ok_ic {f : Addr} {fd : FuncData} (F : Fun K "is_called" "is_called" sIsCalled f fd) : FnOk P w K mg base CX0 1 f fd ["value", "name"] (spIC K) := by
  refine F.ok scIC (fun vs H Q E h => ?_) (fun cdv A outer s H vs Q E hr h => ?_)
  · obtain ⟨a, C, dx, fs, z, rfl, _⟩ := h
    rfl
  · have nd := scIC.nd
    refine ⟨_, (pss_one (ps_ret (pe_cmpR op_eq (pe_cname (pv 0)) (pv 1) (nomark _)))), ?_⟩
    obtain ⟨a, C, dx, fs, z, rfl, ha, ic, nc, q⟩ := h
    refine ⟨_, rfl, a, C, dx, fs, z, rfl, ha, ic, nc, _, rfl, rfl, ?_⟩
    rw [decide_eq_true rfl]
    exact q
end
end K
namespace K
open PySem L2 Rg LamX NdefX
open Evl (pss_cut)
/-! ### the paper NoSigns -/
section
variable {P : Program} {w : World} {K : PySem.W.Frag} {mg : Str → Option Value} {base : Heap}
abbrev fsOI (v1 : V) : List (Str × V) := [("lots", v1)]
structure NoSgC (K : PySem.W.Frag) (mg : Str → Option Value) (C : Addr) : Prop where
  pc : PapC K C
  n1 : NoAttr K C "lots"
  g : mg "NoSigns" = some (.ref C)
def spOI (K : PySem.W.Frag) (C : Addr) (n : Nat) : Sp := fun vs H Q _ => ∃ (r dx : Addr) (v1 : V) (d1 : PyData), vs = [.ref r, v1] ∧ H r = some (.ins C dx []) ∧ FV H true n v1 d1 ∧
  ∀ w1 H', But r H H' → FV H' false n w1 d1 → PapG C "nosigns" (fsOI w1) H' r → Q .non H'
abbrev nOI : List Str := ["self", "lots", "__class__"]
theorem scOI : NScope nOI ((("self" : Str)) :: (["lots"] : List Str)) ["__class__"] (defScope sNoSignsInit) := nscope_by (by decide +kernel)
theorem ok_oi {n : Nat} {f c cc C f2 : Addr} {fd : FuncData} (F : FunS K "__init__" "NoSigns.__init__" sNoSignsInit f c cc fd) (T : SupAt P K mg (nfS sNoSignsInit "__init__" "NoSigns.__init__" cc c) f C cc) (R : NoSgC K mg C) (TO : SupTo K C C f2) (PI : FnR P w K mg base CX0 (n + 3) f2 (spPIR K n)) :
    FnOk P w K mg base CX0 (n + 4) f fd ["self", "lots"] (spOI K C n) := by
  obtain ⟨oc, od, kV, doc, pm, an, ct, osl, rfl, lk, hcd⟩ := F.ex
  refine fn_super (CX2 := CX0) (f2 := f2) (sp2 := spPIR K n) (F := nfS sNoSignsInit "__init__" "NoSigns.__init__" cc c) (N := nOI) (ps := ["lots"]) (sp := spOI K C n) (k := n + 3) lk hcd scOI T rfl (fun vs H Q E h => ?_) (fun _ => rfl) (fun _ => rfl) (fun _ => ⟨_, rfl⟩) (fun _ _ => rfl) (fun _ _ => rfl) fun A outer s H vs Q E hr h => ?_
  · obtain ⟨r, dx, v1, d1, rfl, _⟩ := h
    rfl
  · obtain ⟨r, dx, v1, d1, rfl, hr0, f1, q⟩ := h
    refine ⟨r, C, dx, [], _, _, _, _, rfl, hr0, R.pc.cl, TO, PI, pass0, (pa_cons pe_str (pa_cons (pv 1) pa_nil)),
      (pss_one (ps_fld (pv 0) (pe_ix (r := rIxT K) ix_tup (pe_fld (pv 0) rfl) pe_int (fun _ _ => rfl)) rfl)), ?_⟩
    refine ⟨_, rfl,  r, C, dx, "nosigns", [v1], [d1], rfl, hr0, R.pc, (.cons f1 .nil), (by show 1 ≤ 1000; decide), fun t H1 s1 fv hr1 => ?_⟩
    obtain ⟨xs, ht, px⟩ := fv_list fv
    obtain ⟨w1, rfl, g1⟩ : ∃ w1, xs = [w1] ∧ FV H1 false n w1 d1 := by
      cases px with
      | cons a p => cases p; exact ⟨_, rfl, a⟩
    have tr : t ≠ r := fun z => by rw [z, hr1] at ht; cases ht
    refine ⟨_, rfl, r, C, dx, _, _, rfl, hr1, R.pc.cl, R.pc.np, rfl, t, _, 0, w1, rfl, rfl, .inl (.inl ht), rfl, _, rfl, r, C, dx, _, rfl, hr1, R.pc.cl, R.n1, (by show 2 < 1000; decide), ?_⟩
    have s2 : But r H1 (upd H1 r (.ins C dx (putF "lots" w1 [("word", .str "nosigns"), ("parts", .ref t)]))) := fun b o ne e => by rw [upd_ne ne]; exact e
    have al : ∀ {v : V} {d : PyData}, FV H1 false n v d → FV (upd H1 r (.ins C dx (putF "lots" w1 [("word", .str "nosigns"), ("parts", .ref t)]))) false n v d := fun g => (g.but hr1 s2)
    exact q w1 _ (s1.trans s2) (al g1) ⟨dx, t, upd_same, s2 _ _ tr ht⟩
structure NoSgP (P : Program) (w : World) (K : PySem.W.Frag) (mg : Str → Option Value) (base : Heap) (C fI : Addr) (fdI : FuncData) : Prop where
  made : Mk K C fI
  ok : FnOk P w K mg base CX0 6 fI fdI ["self", "lots"] (spOI K C 2)
  b : Binds K fdI ["self", "lots"] []
end
end K
namespace K
open PySem L2 Rg LamX
open Evl (pss_cut)
def scIHo : Scope := { kind := .function, names := [(Str.ofString ".0", .local), (Str.ofString "_law_strand", .local), (Str.ofString "abs", .globalImplicit), (Str.ofString "sum", .globalImplicit), (Str.ofString "_law_lengths_here", .free)], isGenerator := false, isCoroutine := false }
abbrev teIH (K : PySem.W.Frag) : TE := tCB rAb (tCons (tCB (rSum K) (tCons (tLc (iList K (tVar 3)) (gTup K 2 (gCons (gName 4) (gCons (gName 5) gNil))) tYes (tOp (rI CMul fun i j => .int (i * j)) (tOp (rIxL K) (tVar 0) (tVar 4)) (tVar 5)) [4, 5]) tNil)) tNil)
theorem had_empty (ns : List Int) : (ns.filter fun m => decide (ns.sum - m < m)).isEmpty = hadN ns := by
  rw [Bool.eq_iff_iff, had_iff, List.isEmpty_iff, List.filter_eq_nil_iff]
  refine ⟨fun h m hm => ?_, fun h m hm z => ?_⟩
  · have := h m hm
    have : ¬ (ns.sum - m < m) := fun z => this (decide_eq_true z)
    omega
  · have := h m hm
    have := of_decide_eq_true z
    omega
section
variable {P : Program} {w : World} {K : PySem.W.Frag} {mg : Str → Option Value} {base : Heap}
def spMixed (K : PySem.W.Frag) : Sp := fun vs H Q _ => ∃ (p l : Addr) (e : Addr × List Int) (xs : List V) (n : Nat), vs = [.ref p, .ref l] ∧ SqL K H l xs ∧ l ≠ p ∧ xs.length ≤ 30 ∧ n < 900000 ∧ PenAt K H p e n ∧
  ∀ (q : Addr) (ys : List V) (H' : Hp), ys.Perm xs → H q = none → But p H H' → H' q = some (.lst ys) → PenAt K H' p e (n + xs.length) → Q (.ref q) H'
abbrev nMixed : List Str := ["_law_bench_here", "_law_some", "_law_left", "_law_found", "_law_turn"]
theorem scMixed : FnScope nMixed ["_law_bench_here", "_law_some"] (defScope sLwMixed) := ⟨rfl, rfl, rfl, by decide +kernel, rfl, by decide +kernel, by decide +kernel⟩
theorem perm_take {l d : List V} {i : Nat} {x : V} (h : l[i]? = some x) : (d ++ [x] ++ l.eraseIdx i).Perm (d ++ l) := by
  obtain ⟨hi, rfl⟩ := List.getElem?_eq_some_iff.mp h
  rw [List.append_assoc]
  refine List.Perm.append_left d ?_
  rw [List.eraseIdx_eq_take_drop_succ]
  have e : l = l.take i ++ l[i] :: l.drop (i + 1) := by
    rw [List.getElem_cons_drop, List.take_append_drop]
  calc [l[i]] ++ (l.take i ++ l.drop (i + 1)) = l[i] :: (l.take i ++ l.drop (i + 1)) := rfl
    _ |>.Perm (l.take i ++ l[i] :: l.drop (i + 1)) := List.perm_middle.symm
    _ |>.Perm l := by rw [← e]
theorem ok_mixed {f fD : Addr} {fd fdD : FuncData} (F : Fun K "_law_mixed" "_law_mixed" sLwMixed f fd) (T : Bi mg) (D : DrawAt P w K mg base fD fdD) : FnOk P w K mg base CX0 3 f fd ["_law_bench_here", "_law_some"] (spMixed K) := by
  refine F.ok scMixed (fun vs H Q E h => ?_) (fun cdv A outer s H vs Q E hr h => ?_)
  · obtain ⟨p, l, e, xs, n, rfl, _⟩ := h
    rfl
  · have nd := scMixed.nd
    refine ⟨_, pss_cons (ps_par (i := 2) (j := 3) (by rfl) nd rfl rfl (by decide) rfl rfl (pa_cons (pe_callTy call_list_of (by rfl) T.list (by decide +kernel) (pa_cons (pv 1) pa_nil)) (pa_cons (pe_lst pa_nil) pa_nil)) (by rfl))
      (pss_cons (ps_for PassesOwn.never rfl (pi_range1 (by rfl) T.range (pa_cons (pe_callB call_len_seq (by rfl) T.len PySem.boot_len (pa_cons (pv 1) pa_nil)) pa_nil)) (pg_name (i := 4) nd rfl (Or.inl rfl))
        (pss_one (ps_expr (pe_bm PySem.F.plainAttrs_list PySem.F.slot_list_append PySem.F.type_list_append mt_append (pv 3)
          (pa_cons (pe_bm PySem.F.plainAttrs_list PySem.F.slot_list_pop PySem.F.type_list_pop mt_popAt (pv 2)
            (pa_cons (pe_call D.ok hr rfl D.g D.kp D.b .nil pass0 (pa_cons (pv 0) (pa_cons (pe_callB call_len_seq (by rfl) T.len PySem.boot_len (pa_cons (pv 2) pa_nil)) pa_nil))) pa_nil)) pa_nil)))))
      (pss_one (ps_ret (pv 3)))), ?_⟩
    obtain ⟨p, l, e, xs, n, rfl, hl, hlp, hxl, hn, pen, k⟩ := h
    refine ⟨_, rfl, l, xs, rfl, .inl hl, fun a ha => ⟨by show 0 ≤ sizeLine; decide, fun g hg => ?_⟩⟩
    have hga : g ≠ a := (ne_of_none upd_same hg).symm
    have hg0 : H g = none := by
      rw [upd_ne hga] at hg
      exact hg
    have s1 : Same H (upd H a (.lst xs)) := (Same.refl H).new ha
    have s2 : Same H (upd (upd H a (.lst xs)) g (.lst [])) := s1.new hg
    refine ⟨_, _, rfl, _, rfl, l, xs, rfl, .inl (s2.seq hl), _, rfl, by omega, by omega, ?_⟩
    refine for_range (lo := 0) (n := ((xs.length : Nat) : Int).toNat) (fun i σ H' => ∃ (rest done : List V) (t : Option V), σ = [some (.ref p), some (.ref l), some (.ref a), some (.ref g), t] ∧ But p H H' ∧ H' a = some (.lst rest) ∧ H' g = some (.lst done) ∧
      (done ++ rest).Perm xs ∧ done.length = i ∧ PenAt K H' p e (n + i)) ⟨xs, [], none, rfl, But.of s2, by rw [upd_ne hga.symm, upd_same], upd_same, List.Perm.refl _, rfl, pen.same s2⟩ ?_ ?_
    · rintro i σ H' hi ⟨rest, done, t, rfl, b, h1, h2, pm, dl, pen'⟩
      have hi' : i < xs.length := by omega
      have hlen := pm.length_eq
      rw [List.length_append] at hlen
      have hap : a ≠ p := pen.ne ha
      have hgp : g ≠ p := pen.ne hg0
      have r1 : 1 ≤ rest.length := by omega
      refine ⟨_, rfl, .inl ⟨rfl, _, SqL.of h2⟩, _, rfl, .inl ⟨rfl, _, SqL.of h1⟩, _, rfl, _, rfl, a, rest, rfl, .inl (SqL.of h1), p, e, _, n + i, rfl, by omega, by omega, by omega, pen', fun r H2 r0 rl b2 pen2 => ?_⟩
      have hrl : r.toNat < rest.length := by omega
      have e1 : H2 a = some (.lst rest) := b2 a _ hap h1
      have e2 : H2 g = some (.lst done) := b2 g _ hgp h2
      refine ⟨a, rest, r, r.toNat, rest[r.toNat], rfl, rfl, e1, by omega, by omega, seqIndex_of r0 rl, List.getElem?_eq_getElem hrl, g, done, _, rfl, rfl, by rw [upd_ne hga]; exact e2, szl (by omega), ?_⟩
      have b3 : But p H (upd (upd H2 a (.lst (rest.eraseIdx r.toNat))) g (.lst (done ++ [rest[r.toNat]]))) := ((b.trans b2).mut ha).mut hg0
      refine ⟨rest.eraseIdx r.toNat, done ++ [rest[r.toNat]], _, rfl, b3, by rw [upd_ne hga.symm, upd_same], upd_same, (perm_take (List.getElem?_eq_getElem hrl)).trans pm, by rw [List.length_append, dl]; rfl, ?_⟩
      exact pen.mut (pen.mut pen2 (b.trans b2) ha) ((b.trans b2).mut ha) hg0
    · rintro σ H' ⟨rest, done, t, rfl, b, h1, h2, pm, dl, pen'⟩
      have hlen := pm.length_eq
      rw [List.length_append] at hlen
      have er : rest = [] := List.eq_nil_of_length_eq_zero (by omega)
      subst er
      rw [List.append_nil] at pm
      refine ⟨_, rfl, k g done H' pm hg0 b h2 (by simpa using pen')⟩
def spIHD (K : PySem.W.Frag) : Sp := fun vs H Q _ => ∃ (la : Addr) (v : V) (ls : List Int) (way : List Strd), vs = [.ref la, v] ∧ H la = some (.lst (ls.map V.int)) ∧ LWy H v way ∧ fitW ls.length way ∧ ∀ H', Same H H' → Q (.bl (hadW ls way)) H'
abbrev nIHD : List Str := ["_law_lengths_here", "_law_strands", "_law_nets", "_law_strand", "_law_bar", "_law_sign", "_law_net"]
theorem scIHD : FnScope nIHD ["_law_lengths_here", "_law_strands"] (defScope sLwIsHad) := ⟨rfl, rfl, rfl, by decide +kernel, rfl, by decide +kernel, by decide +kernel⟩
theorem ok_ihd {f : Addr} {fd : FuncData} (F : Fun K "_law_is_had" "_law_is_had" sLwIsHad f fd) (T : Bi mg) : FnOk P w K mg base CX0 1 f fd ["_law_lengths_here", "_law_strands"] (spIHD K) := by
  refine F.ok scIHD (fun vs H Q E h => ?_) (fun cdv A outer s H vs Q E hr h => ?_)
  · obtain ⟨la, v, ls, way, rfl, _⟩ := h
    rfl
  · have nd := scIHD.nd
    refine ⟨_, (pss_cons (ps_set (i := 2) nd rfl (Or.inr rfl) (pe_lc (own := [("_law_strand", 3)]) (g := (gName 3)) (tt := tYes) (te := teIH K)  rfl nd (pi_list (pv 1))
          (blkOk_by (N := nIHD) (sc := defScope sLwIsHad) (by decide +kernel)) (fun _ _ _ _ _ => (pg_name (i := 3) nd rfl (Or.inl rfl))) (fun _ _ _ _ _ => pts_nil) (fun _ _ _ _ _ => (pe_callB call_abs (by rfl) T.abs (by decide +kernel) (pa_cons (pe_callB (cr_sum rfl) (by rfl) T.sum (by decide +kernel) (pa_cons (pe_lc (own := [("_law_bar", 4), ("_law_sign", 5)]) (g := (gTup K 2 (gCons (gName 4) (gCons (gName 5) gNil)))) (tt := tYes) (te := tOp (rI CMul fun i j => .int (i * j)) (tOp (rIxL K) (tVar 0) (tVar 4)) (tVar 5))  rfl nd (pi_list (pv 3))
          (blkOk_by (N := nIHD) (sc := relS scIHo (defScope sLwIsHad)) (by decide +kernel)) (fun _ _ _ _ _ => (pg_tup rfl (pgs_cons (pg_name (i := 4) nd rfl (Or.inl rfl)) (pgs_cons (pg_name (i := 5) nd rfl (Or.inl rfl)) pgs_nil)))) (fun _ _ _ _ _ => pts_nil) (fun _ _ _ _ _ => (pe_op op_mul (pe_ix (r := rIxL K) ix_list (pv 0) (pv 4) (fun _ _ => rfl)) (pv 5)))) pa_nil)) pa_nil)))))
      (pss_one (ps_ret (pe_cmpR (op_eqD hr.units) (pe_lc (own := [("_law_net", 6)]) (g := (gName 6)) (tt := tTest (tOp (rI0 fun i j => .bl (decide (j < i))) (tVar 6) (tOp (rI0 fun i j => .int (i - j)) (tCB (rSum K) (tCons (tVar 2) tNil)) (tVar 6)))) (te := tVar 6)  rfl nd (pi_list (pv 2))
          (blkOk_by (N := nIHD) (sc := defScope sLwIsHad) (by decide +kernel)) (fun _ _ _ _ _ => (pg_name (i := 6) nd rfl (Or.inl rfl))) (fun _ _ _ _ _ => (pts_one (pt_cmpR op_gt (pv 6) (pe_op op_sub (pe_callB (cr_sum rfl) (by rfl) T.sum (by decide +kernel) (pa_cons (pv 2) pa_nil)) (pv 6)) (nomark _)))) (fun _ _ _ _ _ => (pv 6))) (pe_lst pa_nil) (nomark _))))), ?_⟩
    obtain ⟨la, v, ls, way, rfl, hla, ⟨a, xs, rfl, ha, px⟩, ⟨w8, fit⟩, k⟩ := h
    have xl : xs.length = way.length := par_len px
    refine ⟨_, rfl, a, rfl, ⟨_, SqL.of ha⟩, fun D hD => ?_⟩
    refine lc_list (K := K) (a := a) (xs := xs) (fun j H' => Same H H' ∧ H' D = some (.lst ((netsW ls (way.take j)).map V.int))) ⟨(Same.refl H).new hD, upd_same⟩ (fun j H' _ q => SqL.of (q.1 _ _ ha)) ?_ ?_
    · rintro j y H' hj ⟨s1, h1⟩
      obtain ⟨st, hst, rs⟩ := par_get px hj
      have hm := fit st (List.mem_of_getElem? hst)
      obtain ⟨b, zs, rfl, hb, pz⟩ := rs.same s1
      have zl : zs.length = st.length := par_len pz
      refine ⟨rfl, _, rfl, b, rfl, ⟨_, SqL.of hb⟩, fun D3 hD3 => ?_⟩
      refine lc_list (K := K) (a := b) (xs := zs) (fun i G => Same H' G ∧ G D3 = some (.lst (((st.take i).map fun q => ls.getD q.1.toNat 0 * q.2).map V.int))) ⟨(Same.refl H').new hD3, upd_same⟩ (fun i G _ q => SqL.of (q.1 _ _ hb)) ?_ ?_
      · rintro i z G hi ⟨s7, h7⟩
        have hil : i < zs.length := (List.getElem?_eq_some_iff.mp hi).1
        obtain ⟨q, hq, c, rfl, hc⟩ := par_get pz hi
        have hqb := hm.2 q (List.mem_of_getElem? hq)
        have s17 := s1.trans s7
        refine ⟨c, _, rfl, .inl (.inl (s7 _ _ hc)), rfl, _, _, rfl, _, _, rfl, rfl, rfl, ?_⟩
        refine ⟨_, rfl, _, rfl, la, _, q.1, _, rfl, rfl, SqL.of (s17 _ _ hla), get_lenX hqb.1 hqb.2.1, _, rfl, _, _, rfl, rfl, .inr ⟨?_, ?_⟩, _, h7, ?_, s7.mut hD3, ?_⟩
        · have z := hqb.2.2
          omega
        · have z := hqb.2.2
          omega
        · rw [List.length_map, List.length_map, List.length_take]
          exact sm (by omega)
        · rw [upd_same, ← take_snoc hq, List.map_append, List.map_append]
          rfl
      rintro G1 ⟨s7, h7⟩
      rw [zl, List.take_length] at h7
      have s8 := s1.trans s7
      refine ⟨D3, _, rfl, SqL.of h7, _, rfl, ?_⟩
      refine ⟨_, s7 _ _ h1, ?_, s8.mut hD, ?_⟩
      · unfold netsW
        rw [List.length_map, List.length_map, List.length_take]
        exact sm (by omega)
      · rw [upd_same, ← take_snoc hst]
        unfold netsW
        rw [List.map_append, List.map_append]
        rfl
    rintro H6 ⟨s6, h6⟩
    rw [xl, List.take_length] at h6
    have nl : (netsW ls way).length = way.length := by unfold netsW; rw [List.length_map]
    refine ⟨_, rfl, D, rfl, ⟨_, SqL.of h6⟩, fun D2 hD2 => ?_⟩
    refine lc_list (K := K) (a := D) (xs := (netsW ls way).map V.int) (fun j H' => Same H6 H' ∧ H' D2 = some (.lst ((((netsW ls way).take j).filter fun m => decide ((netsW ls way).sum - m < m)).map V.int))) ⟨(Same.refl H6).new hD2, upd_same⟩ (fun j H' _ q => SqL.of (q.1 _ _ h6)) ?_ ?_
    · rintro j y H7 hj ⟨s7, h7⟩
      obtain ⟨m, hm, rfl⟩ := int_at hj
      have hjl : j < (netsW ls way).length := (List.getElem?_eq_some_iff.mp hm).1
      refine ⟨rfl, _, rfl, _, rfl, D, _, rfl, SqL.of (s7 _ _ h6), _, rfl, _, _, rfl, rfl, _, _, rfl, rfl, _, rfl, ?_⟩
      rw [← take_snoc hm, List.filter_append]
      by_cases c : (netsW ls way).sum - m < m
      · refine iteDT c ⟨_, rfl, _, h7, ?_, s7.mut hD2, ?_⟩
        · rw [List.length_map]
          refine szl (Nat.lt_of_le_of_lt (List.length_filter_le ..) ?_)
          rw [List.length_take]
          omega
        · rw [upd_same, List.filter_cons_of_pos (by simpa using c), List.map_append]
          rfl
      · refine iteDF c ⟨s7, ?_⟩
        rw [List.filter_cons_of_neg (by simpa using c), List.filter_nil, List.append_nil]
        exact h7
    · rintro H7 ⟨s7, h7⟩
      rw [List.length_map, List.take_length] at h7
      refine ⟨(by show 0 ≤ sizeLine; decide), fun z nz => ?_⟩
      have s8 : Same H7 (upd H7 z (.lst [])) := (Same.refl H7).new nz
      have hz : upd H7 z (.lst []) z = some (.lst []) := upd_same
      generalize upd H7 z (.lst []) = H8 at s8 hz ⊢
      refine ⟨_, _, .lst (SqL.of (s8 _ _ h7)) (dp_ints _), .lst (SqL.of hz) .nil, shaped_ints _, rfl, ?_⟩
      rw [eqv_nil, had_empty]
      exact k _ ((s6.trans s7).trans s8)
/-! ### _law_lots -/
end
end K
namespace K
open PySem L2 Rg LamX
open Evl (pss_cut)
theorem par_set {α β : Type} {R S : α → β → Prop} {x : α} {b' : β} (hs : S x b') (hi : ∀ u b, u ≠ x → R u b → S u b) : ∀ {xs : List α} {ys : List β} {i : Nat}, Paired R xs ys → xs.Nodup → xs[i]? = some x → Paired S xs (ys.set i b')
  | u :: xs, y :: ys, 0, .cons h t, nd, e => by
    cases e
    refine .cons hs ?_
    have nx := (List.nodup_cons.mp nd).1
    clear nd h
    induction t with
    | nil => exact .nil
    | cons h _ ih => exact .cons (hi _ _ (fun e => nx (by rw [e]; exact List.mem_cons_self ..)) h) (ih fun z => nx (List.mem_cons_of_mem _ z))
  | u :: xs, y :: ys, i + 1, .cons h t, nd, e => by
    have e' : xs[i]? = some x := by simpa using e
    refine .cons (hi _ _ (fun z => (List.nodup_cons.mp nd).1 (by rw [z]; exact List.mem_of_getElem? e')) h) (par_set hs hi t (List.nodup_cons.mp nd).2 e')
theorem par_memi {α β : Type} {R S : α → β → Prop} : ∀ {xs : List α} {ys : List β}, (∀ x y, x ∈ xs → R x y → S x y) → Paired R xs ys → Paired S xs ys
  | _, _, _, .nil => .nil
  | _, _, i, .cons h t => .cons (i _ _ (List.mem_cons_self ..) h) (par_memi (fun x y m => i x y (List.mem_cons_of_mem _ m)) t)
theorem rngI_succ (j : Nat) : rngI (j + 1) = rngI j ++ [(j : Int)] := by
  unfold rngI
  rw [List.range_succ, List.map_append]
  rfl
def LI (H : Hp) (v : V) (l : List Int) : Prop := ∃ a, v = V.ref a ∧ H a = some (.lst (l.map V.int))
theorem LI.same {H H' : Hp} {v : V} {l : List Int} (h : LI H v l) (s : Same H H') : LI H' v l := let ⟨a, e, z⟩ := h; ⟨a, e, s _ _ z⟩
theorem LI.upd {H : Hp} {D : Addr} {o : HO} {v : V} {l : List Int} (h : LI H v l) (n : v ≠ .ref D) : LI (upd H D o) v l := by
  obtain ⟨a, e, z⟩ := h
  exact ⟨a, e, by rw [upd_ne fun k => n (by rw [e, k])]; exact z⟩
theorem flat_setI {l : List Int} {b : Int} : ∀ {ol : List (List Int)} {i : Nat}, ol[i]? = some l → ((ol.set i (l ++ [b])).flatMap id).Perm (ol.flatMap id ++ [b])
  | x :: ol, 0, h => by
    cases h
    show ((l ++ [b]) ++ ol.flatMap id).Perm ((l ++ ol.flatMap id) ++ [b])
    rw [List.append_assoc, List.append_assoc]
    exact List.Perm.append_left _ List.perm_append_comm
  | x :: ol, i + 1, h => by
    show (x ++ (ol.set i (l ++ [b])).flatMap id).Perm ((x ++ ol.flatMap id) ++ [b])
    rw [List.append_assoc]
    exact List.Perm.append_left _ (flat_setI (by simpa using h))
theorem len_flatI : ∀ {ol : List (List Int)}, (∀ l ∈ ol, l ≠ []) → ol.length ≤ (ol.flatMap id).length ∧ ∀ l ∈ ol, l.length ≤ (ol.flatMap id).length
  | [], _ => ⟨Nat.le_refl _, fun _ z => nomatch z⟩
  | x :: ol, h => by
    obtain ⟨h1, h2⟩ := len_flatI (ol := ol) fun l m => h l (List.mem_cons_of_mem _ m)
    have hx : 1 ≤ x.length := List.length_pos_iff.mpr (h x (List.mem_cons_self ..))
    rw [List.flatMap_cons, List.length_append, List.length_cons]
    show _ ≤ x.length + _ ∧ ∀ l ∈ x :: ol, l.length ≤ x.length + _
    refine ⟨by omega, fun l m => ?_⟩
    rcases List.mem_cons.mp m with rfl | m
    · omega
    · have := h2 l m
      omega
theorem hd_set {l : List Int} {b : Int} : ∀ {ol : List (List Int)} {i : Nat}, ol[i]? = some l → l ≠ [] → (ol.set i (l ++ [b])).map (fun l => l.headD 0) = ol.map fun l => l.headD 0
  | x :: ol, 0, h, ne => by
    cases h
    cases l with
    | nil => exact absurd rfl ne
    | cons y t => rfl
  | x :: ol, i + 1, h, ne => by
    rw [List.set_cons_succ, List.map_cons, List.map_cons, hd_set (by simpa using h) ne]
theorem hd_snoc {j : Int} {ol : List (List Int)} (h : (ol.map fun l => l.headD 0).Pairwise (· < ·)) (g : ∀ l ∈ ol, l ≠ [] ∧ ∀ b ∈ l, b < j) : ((ol ++ [[j]]).map fun l => l.headD 0).Pairwise (· < ·) := by
  rw [List.map_append]
  refine List.pairwise_append.mpr ⟨h, List.pairwise_singleton .., fun x hx y hy => ?_⟩
  obtain ⟨l, hl, rfl⟩ := List.mem_map.mp hx
  obtain ⟨ne, lt⟩ := g l hl
  rw [List.mem_singleton.mp hy]
  cases l with
  | nil => exact absurd rfl ne
  | cons a t => exact lt a (List.mem_cons_self ..)
section
variable {P : Program} {w : World} {K : PySem.W.Frag} {mg : Str → Option Value} {base : Heap}
/-! ### _law_parting -/
def spPT (K : PySem.W.Frag) : Sp := fun vs H Q _ => ∃ (p : Addr) (e : Addr × List Int) (m n : Nat), vs = [.ref p, .int (m : Nat)] ∧ 3 ≤ m ∧ m ≤ 8 ∧ n < 800000 ∧ PenAt K H p e n ∧
  ∀ (g : Addr) (xs : List V) (ol : List (List Int)) (H' : Hp), H g = none → H' g = some (.lst xs) → Paired (LI H') xs ol → (∀ l ∈ ol, l ≠ [] ∧ Asc l) → (ol.map fun l => l.headD 0).Pairwise (· < ·) → (ol.flatMap id).Perm (rngI m) → But p H H' → PenAt K H' p e (n + 1 + m) → Q (.ref g) H'
abbrev nPT : List Str := ["_law_bench_here", "_law_many", "_law_found", "_law_most", "_law_bar", "_law_at"]
theorem scPT : FnScope nPT ["_law_bench_here", "_law_many"] (defScope sLwParting) := ⟨rfl, rfl, rfl, by decide +kernel, rfl, by decide +kernel, by decide +kernel⟩
theorem ok_pt {f fD fP : Addr} {fd fdD fdP : FuncData} (F : Fun K "_law_parting" "_law_parting" sLwParting f fd) (T : Bi mg) (D : DrawAt P w K mg base fD fdD) (PK : DefAt P w K mg base CX0 3 "_law_pick" ["_law_bench_here", "_law_some"] (spPick K) fP fdP) : FnOk P w K mg base CX0 4 f fd ["_law_bench_here", "_law_many"] (spPT K) := by
  refine F.ok scPT (fun vs H Q E h => ?_) (fun cdv A outer s H vs Q E hr h => ?_)
  · obtain ⟨p, e, m, n, rfl, _⟩ := h
    rfl
  · have nd := scPT.nd
    refine ⟨_, (pss_cons (ps_par (i := 2) (j := 3) (by rfl) nd rfl rfl (by decide) rfl rfl (pa_cons (pe_lst pa_nil) (pa_cons (pe_call PK.ok (hr.mono (by decide)) rfl PK.g PK.kp PK.b .nil pass0 (pa_cons (pv 0) (pa_cons (pe_lst (pa_cons pe_int (pa_cons pe_int (pa_cons pe_int (pa_cons pe_int (pa_cons pe_int (pa_cons pe_int (pa_cons (pv 1) pa_nil)))))))) pa_nil))) pa_nil)) (by rfl))
      (pss_cons (ps_for PassesOwn.never rfl (pi_range1 (by rfl) T.range (pa_cons (pv 1) pa_nil)) (pg_name (i := 4) nd rfl (Or.inl rfl)) (pss_cons (ps_set (i := 5) nd rfl (Or.inl rfl) (pe_call D.ok (hr.mono (by decide)) rfl D.g D.kp D.b .nil pass0 (pa_cons (pv 0) (pa_cons (pv 3) pa_nil))))
      (pss_one (ps_if (pt_cmpR op_lt (pv 5) (pe_callB (r := rLenS K) call_len_seq (by rfl) T.len PySem.boot_len (pa_cons (pv 2) pa_nil)) (nomark _)) (pss_one (ps_expr (pe_bm PySem.F.plainAttrs_list PySem.F.slot_list_append PySem.F.type_list_append mt_append (pe_ix (r := rIxL K) ix_list (pv 2) (pv 5) (fun _ _ => rfl)) (pa_cons (pv 4) pa_nil)))) (pss_one (ps_expr (pe_bm PySem.F.plainAttrs_list PySem.F.slot_list_append PySem.F.type_list_append mt_append (pv 2) (pa_cons (pe_lst (pa_cons (pv 4) pa_nil)) pa_nil))))))))
      (pss_one (ps_ret (pv 2))))), ?_⟩
    obtain ⟨p, e, m, n, rfl, m3, m8, hn, pen, k⟩ := h
    refine ⟨(by show 0 ≤ sizeLine; decide), fun g hg => ?_⟩
    have s0 : Same H (upd H g (.lst [])) := (Same.refl H).new hg
    have hg0 : upd H g (.lst []) g = some (.lst []) := upd_same
    have gp : g ≠ p := pen.ne hg
    generalize upd H g (.lst []) = H0 at s0 hg0 ⊢
    refine ⟨_, rfl, _, rfl, (by show 7 ≤ sizeLine; decide), fun l hl => ?_⟩
    have s1 : Same H0 (upd H0 l (.lst (([1, 2, 2, 3, 3, 4, (m : Int)] : List Int).map V.int))) := (Same.refl H0).new hl
    have h1 : upd H0 l (.lst (([1, 2, 2, 3, 3, 4, (m : Int)] : List Int).map V.int)) l = some (.lst (([1, 2, 2, 3, 3, 4, (m : Int)] : List Int).map V.int)) := upd_same
    have lp : l ≠ p := (pen.same s0).ne hl
    refine ⟨p, l, e, ([1, 2, 2, 3, 3, 4, (m : Int)] : List Int).map V.int, n, rfl, SqL.of h1, lp, (by show 1 ≤ 7; decide), (by show 7 ≤ 1000; decide), by omega, (pen.same s0).same s1, fun i mv H1 hi b1 pen1 => ?_⟩
    obtain ⟨mo, hmo, rfl⟩ := int_at hi
    have mob : 1 ≤ mo ∧ mo ≤ 8 := by
      have := List.mem_of_getElem? hmo
      simp only [List.mem_cons, List.not_mem_nil, or_false] at this
      omega
    have bH : But p H H1 := fun b o nb hb => b1 _ _ nb (s1 _ _ (s0 _ _ hb))
    have hg1 : H1 g = some (.lst []) := b1 _ _ gp (s1 _ _ hg0)
    refine ⟨_, _, rfl, _, rfl, _, rfl, by omega, by omega, ?_⟩
    refine for_range (lo := 0) (n := ((m : Nat) : Int).toNat) (fun j σ H' => ∃ (ol : List (List Int)) (xs : List V) (z1 z2 : Option V), σ = [some (.ref p), some (.int (m : Nat)), some (.ref g), some (.int mo), z1, z2] ∧ H' g = some (.lst xs) ∧ Paired (LI H') xs ol ∧ xs.Nodup ∧
      (∀ x ∈ xs, ∃ a, x = .ref a ∧ H a = none ∧ a ≠ g) ∧ (∀ l ∈ ol, l ≠ [] ∧ Asc l ∧ ∀ b ∈ l, b < (j : Int)) ∧ (ol.map fun l => l.headD 0).Pairwise (· < ·) ∧ (ol.flatMap id).Perm (rngI j) ∧ But p H H' ∧ PenAt K H' p e (n + 1 + j))
      ⟨[], [], none, none, rfl, hg1, .nil, List.nodup_nil, (fun x hx => nomatch hx), (fun x hx => nomatch hx), .nil, List.Perm.refl _, bH, pen1⟩ ?_ ?_
    · rintro j σ H2 hj ⟨ol, xs, z1, z2, rfl, h2, px, ndx, fr, gs, hdp, pm, b2, pen2⟩
      have hj' : j < m := by omega
      have fl : (ol.flatMap id).length = j := by rw [pm.length_eq, rngI_len]
      have lf := len_flatI (ol := ol) fun st hst => (gs st hst).1
      have xl := par_len px
      refine ⟨_, rfl, _, rfl, p, e, mo, _, rfl, by omega, by omega, by omega, pen2, fun r H4 r0 r1 b24 pen4 => ?_⟩
      have px4 : Paired (LI H4) xs ol := par_memi (fun x y hx z => by
        obtain ⟨a, rfl, z⟩ := z
        obtain ⟨a', ea, na, _⟩ := fr _ hx
        cases ea
        exact ⟨a, rfl, b24 _ _ (pen.ne na) z⟩) px
      have hg5 := b24 _ _ gp h2
      have bH4 : But p H H4 := fun b o nb hb => b24 _ _ nb (b2 _ _ nb hb)
      have grow : ∀ st : List Int, (∀ b ∈ st, b < (j : Int)) → Asc st → Asc (st ++ [(j : Int)]) := fun st lt a => List.pairwise_append.mpr ⟨a, List.pairwise_singleton .., fun x hx y hy => by
        rw [List.mem_singleton.mp hy]
        have := lt x hx
        omega⟩
      refine ⟨_, rfl, _, rfl, g, _, rfl, .inl (SqL.of hg5), _, _, rfl, rfl, _, rfl, ?_⟩
      by_cases c2 : r < (xs.length : Int)
      · refine iteDT c2 ?_
        have hrl : r.toNat < xs.length := by omega
        obtain ⟨x, hx⟩ : ∃ x, xs[r.toNat]? = some x := ⟨_, List.getElem?_eq_getElem hrl⟩
        obtain ⟨st, hst, la⟩ := par_get px4 hx
        obtain ⟨a, rfl, ha⟩ := id la
        obtain ⟨a', ea, na, ag⟩ := fr _ (List.mem_of_getElem? hx)
        cases ea
        have st8 := lf.2 st (List.mem_of_getElem? hst)
        obtain ⟨g1, g2, g3⟩ := gs st (List.mem_of_getElem? hst)
        refine ⟨_, rfl, _, rfl, g, _, r, _, rfl, rfl, SqL.of hg5, at_of (j := r.toNat) (by omega) hx, .inl ⟨rfl, _, SqL.of ha⟩, _, rfl, a, _, _, rfl, rfl, ha, szl (by rw [List.length_map]; omega), ?_⟩
        refine ⟨ol.set r.toNat (st ++ [(j : Int)]), xs, _, _, rfl, by rw [upd_ne (fun e => ag e.symm)]; exact hg5, ?_, ndx, fr, ?_, by rw [hd_set hst g1]; exact hdp, ?_, bH4.mut na, pen.mut (pen4.mono (by omega)) bH4 na⟩
        · refine par_set (R := LI H4) ?_ (fun u b ne l => l.upd ne) px4 ndx hx
          refine ⟨a, rfl, ?_⟩
          rw [upd_same, List.map_append, Int.zero_add]
          rfl
        · intro q hq
          rcases List.mem_or_eq_of_mem_set hq with hq | rfl
          · obtain ⟨q1, q2, q3⟩ := gs q hq
            exact ⟨q1, q2, fun b hb => by have := q3 b hb; omega⟩
          · refine ⟨by simp, grow st g3 g2, fun u hu => ?_⟩
            rcases List.mem_append.mp hu with hu | hu
            · have := g3 u hu
              omega
            · rw [List.mem_singleton.mp hu]
              omega
        · rw [rngI_succ]
          exact (flat_setI hst).trans (pm.append_right _)
      · refine iteDF c2 ?_
        refine ⟨_, rfl, .inl ⟨rfl, _, SqL.of hg5⟩, _, rfl, (by show 1 ≤ sizeLine; decide), fun D nD => ?_⟩
        have s6 : Same H4 (upd H4 D (.lst [.int (0 + (j : Nat))])) := (Same.refl H4).new nD
        have h6 : upd H4 D (.lst [.int (0 + (j : Nat))]) D = some (.lst [.int (0 + (j : Nat))]) := upd_same
        have nDH : H D = none := by
          cases e : H D with
          | none => rfl
          | some o =>
            have dp : D ≠ p := pen4.ne nD
            have := bH4 _ _ dp e
            rw [nD] at this
            cases this
        have Dg : D ≠ g := fun z => by rw [z, hg5] at nD; cases nD
        have bH6 := bH4.mut (o := .lst [.int (0 + (j : Nat))]) nDH
        have px6 := par_imp (fun _ _ z => LI.same z s6) px4
        have hg6 := s6 _ _ hg5
        have pen6 := pen4.same s6
        have nm : V.ref D ∉ xs := fun z => by
          obtain ⟨st, _, a, e1, e2⟩ := par_mem px4 z
          cases e1
          rw [nD] at e2
          cases e2
        generalize upd H4 D (.lst [.int (0 + (j : Nat))]) = H6 at s6 h6 bH6 px6 hg6 pen6 ⊢
        refine ⟨g, xs, _, rfl, rfl, hg6, szl (by omega), ?_⟩
        refine ⟨ol ++ [[(j : Int)]], xs ++ [.ref D], _, _, rfl, upd_same, ?_, ?_, ?_, ?_, hd_snoc hdp (fun l m => ⟨(gs l m).1, (gs l m).2.2⟩), ?_, bH6.mut hg, pen.mut (pen6.mono (by omega)) bH6 hg⟩
        · refine par_app ?_ (.cons ?_ .nil)
          · have gx : ∀ x ∈ xs, x ≠ .ref g := fun x hx e => by
              obtain ⟨a, ea, _, ag⟩ := fr x hx
              rw [e] at ea
              cases ea
              exact ag rfl
            exact par_memi (fun x y hx l => l.upd (gx x hx)) px6
          · exact LI.upd ⟨D, rfl, by rw [h6, Int.zero_add]; rfl⟩ (fun e => Dg (V.ref.inj e))
        · refine List.nodup_append.mpr ⟨ndx, by simp, fun a ha b hb e => nm ?_⟩
          rw [List.mem_singleton] at hb
          rw [← hb, ← e]
          exact ha
        · intro x hx
          rcases List.mem_append.mp hx with hx | hx
          · exact fr x hx
          · rw [List.mem_singleton] at hx
            exact ⟨D, hx, nDH, Dg⟩
        · intro q hq
          rcases List.mem_append.mp hq with hq | hq
          · obtain ⟨q1, q2, q3⟩ := gs q hq
            exact ⟨q1, q2, fun b hb => by have := q3 b hb; omega⟩
          · rw [List.mem_singleton] at hq
            subst hq
            refine ⟨by simp, List.pairwise_singleton .., fun u hu => ?_⟩
            rw [List.mem_singleton.mp hu]
            omega
        · rw [rngI_succ, List.flatMap_append]
          exact pm.append_right _
    · rintro σ H2 ⟨ol, xs, z1, z2, rfl, h2, px, ndx, fr, gs, hdp, pm, b2, pen2⟩
      rw [Int.toNat_natCast] at pm pen2
      exact ⟨_, rfl, k g xs ol H2 hg h2 px (fun l hl => ⟨(gs l hl).1, (gs l hl).2.1⟩) hdp pm b2 pen2⟩
end
end K
namespace K
open PySem L2 Rg LamX
/-! ### lots that part the bars 0 to m - 1, each ascending, in the order of their first bars -/
def hdL (l : List Int) : Int := l.headD 0
structure Cn (m : Nat) (ol : List (List Int)) : Prop where
  ne : ∀ l ∈ ol, l ≠ []
  asc : ∀ l ∈ ol, Asc l
  hd : (ol.map hdL).Pairwise (· < ·)
  pm : (ol.flatMap id).Perm (rngI m)
theorem rngI_asc (m : Nat) : (rngI m).Pairwise (· < ·) := by
  unfold rngI
  refine List.pairwise_map.mpr (List.pairwise_lt_range.imp fun h => ?_)
  omega
theorem rngI_nd (m : Nat) : (rngI m).Nodup := (rngI_asc m).imp fun h => by omega
theorem rngI_mem {m : Nat} {b : Int} : b ∈ rngI m ↔ 0 ≤ b ∧ b < (m : Int) := by
  unfold rngI
  rw [List.mem_map]
  refine ⟨fun ⟨i, h, e⟩ => ?_, fun h => ⟨b.toNat, List.mem_range.mpr (by omega), by omega⟩⟩
  have := List.mem_range.mp h
  omega
/-- the bars below m that are first in no lot -/
def restF (F : List Int) (m : Nat) : List Int := (rngI m).filter fun b => !F.contains b
theorem restF_succ (F : List Int) (j : Nat) : restF F (j + 1) = restF F j ++ (if F.contains (j : Int) = true then [] else [(j : Int)]) := by
  unfold restF
  rw [rngI_succ, List.filter_append]
  congr 1
  cases e : F.contains (j : Int) with
  | true => rw [List.filter_cons_of_neg (by rw [e]; decide), if_pos rfl]; rfl
  | false => rw [List.filter_cons_of_pos (by rw [e]; rfl), if_neg Bool.false_ne_true]; rfl
section
variable {m : Nat} {ol : List (List Int)}
theorem Cn.heads (c : Cn m ol) : (ol.map hdL).Perm (ol.map hdL) := List.Perm.refl _
theorem flat_split : ∀ {ol : List (List Int)}, (∀ l ∈ ol, l ≠ []) → (ol.flatMap id).Perm (ol.map hdL ++ ol.flatMap fun l => l.drop 1)
  | [], _ => List.Perm.refl _
  | l :: ol, h => by
    have ih := flat_split (ol := ol) fun x m => h x (List.mem_cons_of_mem _ m)
    cases l with
    | nil => exact absurd rfl (h [] (List.mem_cons_self ..))
    | cons a t =>
      show (a :: (t ++ ol.flatMap id)).Perm (a :: (ol.map hdL ++ (t ++ ol.flatMap fun l => l.drop 1)))
      refine List.Perm.cons _ ?_
      refine (List.Perm.append_left t ih).trans ?_
      rw [← List.append_assoc, ← List.append_assoc]
      exact List.Perm.append_right _ List.perm_append_comm
theorem Cn.nd (c : Cn m ol) : (ol.map hdL ++ ol.flatMap fun l => l.drop 1).Nodup := ((flat_split c.ne).trans (List.Perm.refl _)).nodup_iff.mp (c.pm.nodup_iff.mpr (rngI_nd m))
theorem Cn.rest (c : Cn m ol) : (ol.flatMap fun l => l.drop 1).Perm (restF (ol.map hdL) m) := by
  have nd := c.nd
  have pm := (flat_split c.ne).symm.trans c.pm
  have e1 : (restF (ol.map hdL) m).Perm ((ol.map hdL ++ ol.flatMap fun l => l.drop 1).filter fun b => !(ol.map hdL).contains b) := (pm.filter _).symm
  refine List.Perm.symm (e1.trans ?_)
  rw [List.filter_append, List.filter_eq_nil_iff.mpr (fun a ha => by simp only [Bool.not_eq_true', Bool.not_eq_false]; exact List.contains_iff_mem.mpr ha), List.nil_append, List.filter_eq_self.mpr]
  intro a ha
  have z : a ∉ ol.map hdL := fun h => (List.nodup_append.mp nd).2.2 a h a ha rfl
  rw [Bool.not_eq_true', Bool.eq_false_iff]
  exact fun h => z (List.contains_iff_mem.mp h)
theorem Cn.len (c : Cn m ol) : ol.length ≤ m ∧ ∀ l ∈ ol, l.length ≤ m := by
  have e : (ol.flatMap id).length = m := by rw [c.pm.length_eq, rngI_len]
  have := len_flatI c.ne
  rw [e] at this
  exact this
theorem Cn.part (c : Cn m ol) (h1 : 1 ≤ m) (h8 : m ≤ 8) : PartL ol (restF (ol.map hdL) m) := by
  have ef : (fsG ol).map (·.1) = ol.map hdL := by
    unfold fsG
    rw [List.map_map]
    rfl
  refine ⟨c.ne, Nat.le_trans c.len.1 h8, fun l hl => Nat.le_trans (c.len.2 l hl) h8, c.rest, ?_, ?_, ?_⟩
  · exact ((rngI_asc m).filter _).imp fun h => by omega
  · have e : (ol.flatMap id).length = m := by rw [c.pm.length_eq, rngI_len]
    have e2 := (flat_split c.ne).length_eq
    rw [List.length_append, List.length_map, e, c.rest.length_eq] at e2
    have : 1 ≤ ol.length := by
      cases ol with
      | nil =>
        have e : 0 = m := e
        omega
      | cons _ _ => exact Nat.succ_le_succ (Nat.zero_le _)
    omega
  · rw [ef]
    have p : (ol.map hdL ++ restF (ol.map hdL) m).Perm (ol.map hdL ++ ol.flatMap fun l => l.drop 1) := List.Perm.append_left _ c.rest.symm
    exact p.nodup_iff.mpr c.nd
theorem Cn.mem (c : Cn m ol) {l : List Int} (hl : l ∈ ol) {b : Int} (hb : b ∈ l) : 0 ≤ b ∧ b < (m : Int) := rngI_mem.mp (c.pm.mem_iff.mp (List.mem_flatMap.mpr ⟨l, hl, hb⟩))
/-- the only order by first bars -/
theorem pw_uniq {α : Type} {r : α → α → Prop} (as : ∀ a b, r a b → r b a → False) : ∀ {L M : List α}, L.Perm M → L.Pairwise r → M.Pairwise r → L = M
  | [], M, p, _, _ => by rw [List.nil_perm.mp p]
  | a :: L, [], p, _, _ => absurd p.length_eq (by simp)
  | a :: L, b :: M, p, h, k => by
    obtain ⟨ha, hL⟩ := List.pairwise_cons.mp h
    obtain ⟨hb, hM⟩ := List.pairwise_cons.mp k
    have e : a = b := by
      rcases List.mem_cons.mp (p.mem_iff.mp (List.mem_cons_self (a := a) (l := L))) with e | m1
      · exact e
      · rcases List.mem_cons.mp (p.mem_iff.mpr (List.mem_cons_self (a := b) (l := M))) with e | m2
        · exact e.symm
        · exact (as a b (ha b m2) (hb a m1)).elim
    subst e
    rw [pw_uniq as (List.Perm.cons_inv p) hL hM]
theorem Cn.uniq (c : Cn m ol) {L : List (List Int)} (p : L.Perm ol) (h : L.Pairwise fun a b => hdL a ≤ hdL b) : L = ol := by
  have c1 : ol.Pairwise fun a b => hdL a < hdL b := List.pairwise_map.mp c.hd
  have nd : (L.map hdL).Nodup := (p.map hdL).nodup_iff.mpr (c.hd.imp fun h => by omega)
  refine pw_uniq (r := fun a b => hdL a < hdL b) (fun a b h k => by omega) p ?_ c1
  have n2 : L.Pairwise fun a b => hdL a ≠ hdL b := List.pairwise_map.mp nd
  exact (h.and n2).imp fun ⟨a, b⟩ => by omega
end
/-! ### the law's rows of signs: one for each bar -/
def rowsF (F : List Int) : Nat → List (List Int)
  | 0 => [[]]
  | j + 1 => (rowsF F j).flatMap fun r => (if F.contains (j : Int) = true then [1] else [1, -1]).map fun s => r ++ [s]
/-- the signs of all bars below j -/
def fullF (F : List Int) (j : Nat) (r : List Int) : List Int := (rngI j).map fun b => if F.contains b = true then 1 else sgG ((restF F j).zip r) b
theorem restF_nd (F : List Int) (j : Nat) : (restF F j).Nodup := (rngI_nd j).filter _
theorem restF_lt {F : List Int} {j : Nat} {b : Int} (h : b ∈ restF F j) : b < (j : Int) := (rngI_mem.mp (List.mem_filter.mp h).1).2
theorem look_app {b : Int} : ∀ {st su : Strd}, b ∈ st.map (·.1) → (st ++ su).lookup b = st.lookup b
  | [], _, h => nomatch h
  | (a, s) :: st, su, h => by
    rw [List.cons_append, List.lookup_cons, List.lookup_cons]
    by_cases e : (b == a) = true
    · rw [e]
    · rw [show (b == a) = false from Bool.eq_false_iff.mpr e]
      refine look_app ?_
      rw [List.map_cons, List.mem_cons] at h
      rcases h with h | h
      · exact absurd (beq_iff_eq.mpr h) e
      · exact h
theorem look_app2 {b : Int} : ∀ {st su : Strd}, b ∉ st.map (·.1) → (st ++ su).lookup b = su.lookup b
  | [], _, h => rfl
  | (a, s) :: st, su, h => by
    rw [List.map_cons, List.mem_cons] at h
    rw [List.cons_append, List.lookup_cons, show (b == a) = false from beq_eq_false_iff_ne.mpr fun z => h (.inl z)]
    exact look_app2 fun z => h (.inr z)
theorem fullF_step {F : List Int} {j : Nat} {r : List Int} (hr : r.length = (restF F j).length) : (if F.contains (j : Int) = true then [1] else [1, -1]).map (fun s => fullF F j r ++ [s]) = (if F.contains (j : Int) = true then [r] else [r ++ [1], r ++ [-1]]).map (fullF F (j + 1)) := by
  have base : ∀ (t : List Int) (su : Strd), (restF F (j + 1)).zip t = (restF F j).zip r ++ su → (rngI j).map (fun b => if F.contains b = true then 1 else sgG ((restF F (j + 1)).zip t) b) = fullF F j r := fun t su e => by
    unfold fullF
    refine List.map_congr_left fun b hb => ?_
    by_cases c : F.contains b = true
    · rw [if_pos c, if_pos c]
    · rw [if_neg c, if_neg c, e]
      unfold sgG
      rw [look_app]
      rw [zip_fst hr.symm]
      exact List.mem_filter.mpr ⟨hb, by rw [Bool.not_eq_true']; exact Bool.eq_false_iff.mpr c⟩
  cases c : F.contains (j : Int) with
  | true =>
    rw [if_pos rfl, if_pos rfl]
    show [fullF F j r ++ [1]] = [fullF F (j + 1) r]
    congr 1
    have e : (restF F (j + 1)).zip r = (restF F j).zip r ++ [] := by rw [restF_succ, c, if_pos rfl, List.append_nil, List.append_nil]
    have z : fullF F (j + 1) r = fullF F j r ++ [1] := by
      rw [← base r [] e]
      show (rngI (j + 1)).map _ = _
      rw [rngI_succ, List.map_append]
      congr 1
      show [if F.contains (j : Int) = true then (1 : Int) else _] = [1]
      rw [if_pos c]
    exact z.symm
  | false =>
    rw [if_neg Bool.false_ne_true, if_neg Bool.false_ne_true]
    have e : ∀ s : Int, (restF F (j + 1)).zip (r ++ [s]) = (restF F j).zip r ++ [((j : Int), s)] := fun s => by
      rw [restF_succ, c, if_neg Bool.false_ne_true, List.zip_append hr.symm]
      rfl
    have z : ∀ s : Int, fullF F (j + 1) (r ++ [s]) = fullF F j r ++ [s] := fun s => by
      rw [← base (r ++ [s]) _ (e s)]
      show (rngI (j + 1)).map _ = _
      rw [rngI_succ, List.map_append]
      congr 1
      show [if F.contains (j : Int) = true then (1 : Int) else sgG ((restF F (j + 1)).zip (r ++ [s])) (j : Int)] = [s]
      rw [if_neg (by rw [c]; exact Bool.false_ne_true), e s]
      unfold sgG
      rw [look_app2 fun m => ?_]
      · simp
      · rw [zip_fst hr.symm] at m
        have := restF_lt m
        omega
    show [fullF F j r ++ [1], fullF F j r ++ [-1]] = [fullF F (j + 1) (r ++ [1]), fullF F (j + 1) (r ++ [-1])]
    rw [z 1, z (-1)]
theorem rows_eq (F : List Int) : ∀ j : Nat, rowsF F j = (sgnR (restF F j).length).map (fullF F j)
  | 0 => rfl
  | j + 1 => by
    show (rowsF F j).flatMap _ = _
    rw [rows_eq F j, List.flatMap_map]
    have e2 : sgnR (restF F (j + 1)).length = (sgnR (restF F j).length).flatMap fun r => if F.contains (j : Int) = true then [r] else [r ++ [1], r ++ [-1]] := by
      rw [restF_succ]
      cases c : F.contains (j : Int) with
      | true =>
        rw [if_pos rfl, List.append_nil]
        show _ = (sgnR (restF F j).length).flatMap fun r => [r]
        induction sgnR (restF F j).length with
        | nil => rfl
        | cons a l ih => rw [List.flatMap_cons, ← ih]; rfl
      | false =>
        rw [if_neg Bool.false_ne_true, List.length_append]
        rfl
    rw [e2, List.map_flatMap]
    have cg : ∀ (l : List (List Int)), (∀ r ∈ l, r.length = (restF F j).length) → (l.flatMap fun a => (if F.contains (j : Int) = true then [1] else [1, -1]).map fun s => fullF F j a ++ [s]) = l.flatMap fun a => (if F.contains (j : Int) = true then [a] else [a ++ [1], a ++ [-1]]).map (fullF F (j + 1)) := fun l hl => by
      induction l with
      | nil => rfl
      | cons a l ih => rw [List.flatMap_cons, List.flatMap_cons, fullF_step (hl a (List.mem_cons_self ..)), ih fun r m => hl r (List.mem_cons_of_mem _ m)]
    exact cg _ fun r m => (sgnR_mem.mp m).1
theorem fullF_len (F : List Int) (j : Nat) (r : List Int) : (fullF F j r).length = j := by
  unfold fullF
  rw [List.length_map, rngI_len]
theorem fullF_at {F r : List Int} {j : Nat} {b : Int} (h : 0 ≤ b ∧ b < (j : Int)) : (fullF F j r)[b.toNat]? = some (if F.contains b = true then 1 else sgG ((restF F j).zip r) b) := by
  unfold fullF rngI
  rw [List.map_map, List.getElem?_map, List.getElem?_range (by omega)]
  show some (if F.contains ((b.toNat : Nat) : Int) = true then (1 : Int) else sgG _ ((b.toNat : Nat) : Int)) = _
  rw [show ((b.toNat : Nat) : Int) = b by omega]
/-- the sign of a bar by the law's row is the program's -/
theorem sg_full {m : Nat} {ol : List (List Int)} (c : Cn m ol) {r : List Int} (hr : r.length = (restF (ol.map hdL) m).length) {b : Int} (hb : 0 ≤ b ∧ b < (m : Int)) : (fullF (ol.map hdL) m r)[b.toNat]? = some (sgG (rowG ol (restF (ol.map hdL) m) r) b) := by
  rw [fullF_at hb]
  congr 1
  unfold rowG sgG
  have ef : (fsG ol).map (·.1) = ol.map hdL := by
    unfold fsG
    rw [List.map_map]
    rfl
  by_cases d : (ol.map hdL).contains b = true
  · rw [if_pos d, look_app (by rw [ef]; exact List.contains_iff_mem.mp d)]
    have q : ∀ (L : List (List Int)), b ∈ L.map hdL → ((fsG L).lookup b).getD 0 = 1 := fun L h => by
      induction L with
      | nil => cases h
      | cons x L ih =>
        show (List.lookup b ((hdL x, (1 : Int)) :: fsG L)).getD 0 = 1
        rw [List.lookup_cons]
        by_cases e : (b == hdL x) = true
        · rw [e]
          rfl
        · rw [show (b == hdL x) = false from Bool.eq_false_iff.mpr e]
          rw [List.map_cons, List.mem_cons] at h
          exact ih (h.resolve_left fun z => e (beq_iff_eq.mpr z))
    exact (q ol (List.contains_iff_mem.mp d)).symm
  · rw [if_neg d, look_app2 (by rw [ef]; exact fun h => d (List.contains_iff_mem.mpr h))]
/-- the choices of the program, by lots -/
def waysC (m : Nat) (ol : List (List Int)) : List (List Strd) := waysG ol (restF (ol.map hdL) m)
end K
namespace Rg
open PySem PySem.Spec PyProof.Rows L2 LamX NdefX
/-! ### a lambda with parameters and no captured names, as a value -/
/-- the object at f is this lambda -/
def LamO (f : Addr) (q : Str) (params : Arguments) (body : Expr) (scope : Scope) (c : Addr) : HO := .ext fun h => ∃ (pmz ctvz : Value), h.get? f = some (PySem.W.kla_obj "<lambda>" q params body scope [] pmz c ctvz)
section
variable {X : Cx} {pins : List (Addr × Obj)} {σ : L2.St} {H : Hp} {s : Shared} {q : Str} {params : Arguments} {body : Expr} {scope : Scope}
theorem lamO_ne {f c : Addr} (ps : Array Value) : LamO f q params body scope c ≠ .tbl ps := fun z => by
  unfold LamO at z
  cases z
theorem lamO_at {P : Program} {w : World} {h : Heap} {f c : Addr} (hok : HOk P w H h) (e : H f = some (LamO f q params body scope c)) : ∃ (pmz ctvz : Value), h.get? f = some (PySem.W.kla_obj "<lambda>" q params body scope [] pmz c ctvz) := by
  obtain ⟨z, _, _⟩ := hok f _ e
  exact z
theorem inv_lam {c : Addr} {t' : Nat} {pmz ctvz : Value} (Iz : Inv X pins σ H s) :
    Inv X pins σ (upd H s.heap.objs.size (LamO s.heap.objs.size q params body scope c)) { s with heap := s.heap.push (PySem.W.kla_obj "<lambda>" q params body scope [] pmz c ctvz), toks := t' } := by
  refine Iz.laid (a := s.heap.objs.size) (fun b u e => Heap.get?_push_of_some _ e) (Nat.le_refl _) ?_
  have e : (s.heap.push (PySem.W.kla_obj "<lambda>" q params body scope [] pmz c ctvz)).get? s.heap.objs.size = some (PySem.W.kla_obj "<lambda>" q params body scope [] pmz c ctvz) := Heap.get?_push_size _ rfl
  exact ⟨⟨pmz, ctvz, e⟩, ⟨_, e⟩, fun h1 h2 ⟨p, t, z⟩ st => ⟨p, t, st _ z⟩⟩
theorem lam_makeV {T : List (Addr × Str)} {c P : Addr} {pos : Pos} {E : Value → Shared → Prop} {Q : Value → Shared → Prop} (Iz : Inv X pins σ H s) (TB : TabB X.base X.mg c P) (hcode : X.env.code = .ref c)
    (hm : (P, X.env.qual ++ "<lambda>") ∈ T) (hu : ∀ p ∈ T, p.1 = P → p.2 = X.env.qual ++ "<lambda>") (hTz : Tabs T H) (hdef : defaultsOf params X.env = ([], [])) (hfree : ∀ y ∈ scope.names, y.2 ≠ .free) (hclo : cloFrom X.env.cells scope.names [] = [])
    (h : ∀ (f c' : Addr) (H1 : Hp) (s' : Shared), Inv X pins σ H1 s' → ExtN H H1 → Tabs T H1 → H f = none → H1 f = some (LamO f (X.env.qual ++ "<lambda>") params body scope c') → H1 c' = some (CodeO c' (X.env.qual ++ "<lambda>")) → Q (.ref f) s') :
    wpAny (model X.prog X.w) X.A (eval (.Lambda params body scope pos) X.env) Q E s := by -- made
  obtain ⟨ps, hPz, ht, ha⟩ := hTz _ hm
  refine (PySem.W.kla_eval hdef ?_)
  have bPz : s.heap.BuiltinsAt X.mg P := TB.bm.keeps Iz.bk
  have hPz' : s.heap.get? P = some { cls := .none, data := .fields ps } := Iz.hok P _ hPz
  have hfr : ∀ y ∈ scope.names, y.2 = .free → ∃ c, X.env.cells.lookup y.1 = some c := fun y hy e => absurd e (hfree y hy)
  cases hc : (codeAmong pos ps.toList) with
  | none =>
    refine PySem.W.kla_makeFunction (mg := X.mg) (c := c) (P := P) (ps := ps) (closure_ok hfr) Iz.ok.glob (Iz.mod.glob.keeps Iz.bk) hcode (TB.code.keeps Iz.bk) hPz' ht hc TB.gP bPz fun c' ctvz h' tkz hxz hgez hltz hrecz htbz => ?_
    obtain ⟨c2, oc, vs, t, e2, hocz, hd, hvz⟩ := hrecz
    cases e2
    rw [hclo]
    have nCz : H c' = none := Iz.hok.fresh hgez
    have I1z := inv_table (t' := tkz) (more := #[rawInt pos.line, rawInt pos.col, .ref c']) (h' := h') Iz hPz (fun b o hb e => hxz b o hb e) htbz hgez ⟨oc, vs, t, hocz, hd, hvz⟩
    have hEz : ExtN H (upd (upd H P (.tbl (ps ++ #[rawInt pos.line, rawInt pos.col, .ref c']))) c' (CodeO c' (X.env.qual ++ "<lambda>"))) := fun b o e n => by
      rw [upd_ne (ne_of_none e nCz), upd_ne (fun z => n ps (Option.some.inj (e.symm.trans (by rw [z]; exact hPz))))]
      exact e
    have eLz : (ps ++ #[rawInt pos.line, rawInt pos.col, .ref c']).toList = ps.toList ++ [rawInt pos.line, rawInt pos.col, .ref c'] := by simp
    have T1z : Tabs T (upd (upd H P (.tbl (ps ++ #[rawInt pos.line, rawInt pos.col, .ref c']))) c' (CodeO c' (X.env.qual ++ "<lambda>"))) := fun p hp => by
      by_cases hb : p.1 = P
      · rw [hu p hp hb, hb]
        refine ⟨_, by rw [upd_ne (ne_of_none hPz nCz), upd_same], by rw [eLz]; exact PySem.TriplesOk_snoc _ _ _ _ ht, fun p' cvz hcvz => ?_⟩
        rw [eLz] at hcvz
        rcases among_app _ ht hcvz with z | z
        · obtain ⟨c0z, e1, e2⟩ := ha p' cvz z
          exact ⟨c0z, e1, hEz _ _ e2 codeO_ne⟩
        · exact ⟨c', z, upd_same⟩
      · obtain ⟨psz', a1z, a2z, a3z⟩ := hTz p hp
        refine ⟨psz', by rw [upd_ne (ne_of_none a1z nCz), upd_ne hb]; exact a1z, a2z, fun p' cvz hcvz => ?_⟩
        obtain ⟨c0z, e1, e2⟩ := a3z p' cvz hcvz
        exact ⟨c0z, e1, hEz _ _ e2 codeO_ne⟩
    have nFz := I1z.hok.fresh (Nat.le_refl _)
    have I2z := inv_lam (q := X.env.qual ++ "<lambda>") (params := params) (body := body) (scope := scope) (c := c') (t' := tkz) (pmz := (X.mg "__name__").getD .none) (ctvz := ctvz) I1z
    refine h h'.objs.size c' _ _ I2z (fun b o e n => ?_) (T1z.ext fun b o e => ?_) (Iz.hok.fresh (Nat.le_trans hgez (Nat.le_of_lt hltz))) upd_same ?_
    · have e1 := hEz b o e n
      exact (upd_ne (ne_of_none e1 nFz)).trans e1
    · exact (upd_ne (ne_of_none e nFz)).trans e
    · exact (upd_ne (Nat.ne_of_lt hltz)).trans upd_same
  | some cvz =>
    obtain ⟨c', e, hcoz⟩ := ha pos cvz hc
    subst e
    refine PySem.W.kla_makeFunctionHit (mg := X.mg) (c := c) (P := P) (ps := ps) (closure_ok hfr) Iz.ok.glob (Iz.mod.glob.keeps Iz.bk) hcode (TB.code.keeps Iz.bk) hPz' ht hc bPz fun ctvz h' tkz hxz hsz => ?_
    rw [hclo]
    have I1z : Inv X pins σ H { s with heap := h', toks := tkz } := Iz.kept hxz
    have nFz : H h'.objs.size = none := I1z.hok.fresh (Nat.le_refl _)
    have I2z := inv_lam (q := X.env.qual ++ "<lambda>") (params := params) (body := body) (scope := scope) (c := c') (t' := tkz) (pmz := (X.mg "__name__").getD .none) (ctvz := ctvz) I1z
    refine h h'.objs.size c' _ _ I2z (fun b o e n => ?_) (hTz.ext fun b o e => ?_) nFz upd_same ?_
    · exact (upd_ne (ne_of_none e nFz)).trans e
    · exact (upd_ne (ne_of_none e nFz)).trans e
    · exact (upd_ne (ne_of_none hcoz nFz)).trans hcoz
end
def tLamV (T : List (Addr × Str)) (q : Str) (params : Arguments) (body : Expr) (scope : Scope) : TE := fun _ H Q => Tabs T H ∧ ∀ (f c' : Addr) (H1 : Hp), ExtN H H1 → Tabs T H1 → H f = none → H1 f = some (LamO f q params body scope c') → H1 c' = some (CodeO c' q) → Q (.ref f) H1
theorem pe_lamval {X : Cx} {T : List (Addr × Str)} {c P : Addr} {params : Arguments} {body : Expr} {scope : Scope} {lpos : Pos} (TB : TabB X.base X.mg c P) (hcode : X.env.code = .ref c) (hm : (P, X.env.qual ++ "<lambda>") ∈ T) (hu : ∀ p ∈ T, p.1 = P → p.2 = X.env.qual ++ "<lambda>")
    (hdef : defaultsOf params X.env = ([], [])) (hfree : ∀ y ∈ scope.names, y.2 ≠ .free) (hclo : cloFrom X.env.cells scope.names [] = []) : PE X (.Lambda params body scope lpos) (tLamV T (X.env.qual ++ "<lambda>") params body scope) :=
  ⟨fun pins s σ H Q Iz h => lam_makeV Iz TB hcode hm hu h.1 hdef hfree hclo fun f c' H1 s' I1z e t n l c => ⟨.ref f, H1, I1z, rfl, h.2 f c' H1 e t n l c⟩⟩
/-! ### calling it -/
structure LOk (P : Program) (w : World) (K : PySem.W.Frag) (mg : Str → Option Value) (base : Heap) (CX : CXT) (k : Nat) (f c' : Addr) (q : Str) (params : Arguments) (body : Expr) (scope : Scope) (ps : List Str) (sp : Sp) : Prop where
  run : ∀ (A : Around) (outer : List Env) (s : Shared) (H : Hp) (us : List Value) (vs : List V) (Q : VK) (E : XK), Room k A → Env0 P w K mg base A outer s H → H f = some (LamO f q params body scope c') → H c' = some (CodeO c' q) →
    Vals vs us → sp vs H Q E → codeAny (model P w) A (.call (.ref f) ⟨us, []⟩) (CR CX outer P w H s Q E) s
abbrev lamF (q : Str) (params : Arguments) (scope : Scope) (c' : Addr) : NF := ⟨"<lambda>", q, params, [], scope, [], c'⟩
section
variable {CX : CXT} {P : Program} {w : World} {K : PySem.W.Frag} {mg : Str → Option Value} {base : Heap} {N ps : List Str} {f c' : Addr} {k : Nat} {sp : Sp} {q : Str} {params : Arguments} {body : Expr} {scope : Scope}
theorem lok_of (S : NScope N ps [] scope) (hb : ∀ (pmz ctvz : Value) (us : List Value), us.length = ps.length → bindArgs (PySem.W.kla_fn "<lambda>" q params body scope [] pmz (.ref c') ctvz) ⟨us, []⟩ = pure (ps.zip us)) (len : ∀ vs H Q E, sp vs H Q E → vs.length = ps.length)
    (hbodyz : ∀ (A : Around) (outer : List Env) (s : Shared) (H : Hp) (vs : List V) (Q : VK) (E : XK), Room k (A.deeper (envF (lamF q params scope c') f s.heap.objs.size)) → sp vs H Q E →
      ∃ t, PE (ncx CX P w K mg base N (lamF q params scope c') f A outer s H E) body t ∧ t (startF N vs []) H Q) :
    LOk P w K mg base CX (k + 1) f c' q params body scope ps sp := by
  refine ⟨fun A outer s H us vs Q E hr e0 hf hc r hspz => ?_⟩
  have hl := len _ _ _ _ hspz
  have limz : s.heap.NoLimit := e0.mod.nolimit.keeps fun b o e => (e0.bs b o e).1
  obtain ⟨pmz, ctvz, hoz⟩ := lamO_at e0.hok hf
  refine PySem.W.kla_callFunE hr.depth hoz rfl S.co S.gen rfl (codeO_at e0.hok hc) ?_
  rw [hb pmz ctvz us (by rw [← r.length]; exact hl)]
  refine wpAny_pure (wpAny_newFunctionEnv S.nocell (fun ⟨n, _⟩ hy => S.par n (List.of_mem_zip hy).1) (fun h₁z hnsz hsbz => ⟨limz.fresh _ hsbz, ?_⟩) S.kind)
  show codeAny _ _ (.expr body (envF (lamF q params scope c') f s.heap.objs.size)) _ _
  have kpz : ∀ b o, s.heap.get? b = some o → h₁z.get? b = some o := fun b o e => hsbz.extBut b o (Nat.ne_of_lt (Heap.lt_size e)) (Heap.get?_push_of_some _ e)
  obtain ⟨t, ht, hqz⟩ := hbodyz A outer s H vs Q E (hr.deeper _) hspz
  have C : CellsAt (lamF q params scope c').cl [] [] s.heap H := by
    refine ⟨rfl, fun y c e => ?_, fun x y c e => ?_, fun i y e => ?_⟩
    · exact nomatch (show ([] : List (Str × Addr)).lookup y = some c from e)
    · exact nomatch (show ([] : List (Str × Addr)).lookup x = some c from e)
    · cases i <;> cases e
  have J : Inv (ncx CX P w K mg base N (lamF q params scope c') f A outer s H E) [] (startF N vs []) H { s with heap := h₁z, toks := s.toks + (ps.zip us).length } := inv_startN S hr.hd e0 hl r C hnsz kpz
  refine PySem.W.kla_codeExpr (wpAny_mono (ht.run [] _ _ H Q J hqz) (fun v s' hqz => ?_) fun e s' hqz => hqz)
  obtain ⟨w', H', J', rv, q⟩ := hqz
  exact ⟨_, _, J'.os, J'.bare, J'.base, J'.hok, rv, q⟩
end
/-- x(..), x holds a def or the lambda -/
def tCallY (i : Nat) (fW : Addr) (q : Str) (params : Arguments) (body : Expr) (scope : Scope) (spW spL : Sp) (E : XK) (t : TA) : TE := fun σ H Q => ∃ f, σ[i]? = some (some (.ref f)) ∧
  ((f = fW ∧ t σ H fun vs H1 => spW vs H1 Q E) ∨ ∃ c', H f = some (LamO f q params body scope c') ∧ t σ H fun vs H1 => H1 f = some (LamO f q params body scope c') ∧ H1 c' = some (CodeO c' q) ∧ spL vs H1 Q E)
section
variable {X : Cx} {CX : CXT} {k i : Nat} {fW : Addr} {fdW : FuncData} {psW psL : List Str} {spW spL : Sp} {q : Str} {params : Arguments} {body : Expr} {scope : Scope} {E : XK} {x : Str} {p pos : Pos} {e : Expr} {es : List Expr} {t : TA}
theorem pe_callY (FW : FnOk X.prog X.w X.K X.mg X.base CX k fW fdW psW spW) (hkW : PySem.W.keepIn X.K (.ref fW) = true) (hbW : Binds X.K fdW psW []) (FL : ∀ f c', LOk X.prog X.w X.K X.mg X.base CX k f c' q params body scope psL spL) (hr : Room k X.A) (hNz : X.N[i]? = some x) (hvz : Vis X.env.scope x) (hxz : Passes CX X E) (ha : PA X (e :: es) t)
    (hdbz : (x == ("__debug__" : Str)) = false := by decide) (hcdz : (x == ("__classdict__" : Str)) = false := by decide)
    (he : starEach (e :: es) X.env = (false, eval e X.env) :: starEach es X.env := by rfl) (hpl : (backTo pos (starEach es X.env)).any (·.1) = false := by rfl) : PE X (.Call (.Name x p) (e :: es) [] pos) (tCallY i fW q params body scope spW spL E t) := by
  refine ⟨fun pins s σ H Q Iz h => ?_⟩
  obtain ⟨f, hs, ⟨rfl, ht⟩ | ⟨c', hf, ht⟩⟩ := h
  · refine (pe_callL (i := i) (f := f) (sp := spW) (dvs := []) (E := E) FW hr hNz hvz hkW hbW .nil hxz ha hdbz hcdz he hpl).run pins s σ H Q Iz ⟨hs, ?_⟩
    have e0 : (fun (vs : List V) (H1 : Hp) => spW (vs ++ []) H1 Q E) = fun vs H1 => spW vs H1 Q E := by
      funext vs H1
      rw [List.append_nil]
    show t σ H (fun vs H1 => spW (vs ++ []) H1 Q E)
    rw [e0]
    exact ht
  · refine wpAny_Call_Name_kw (thn ((pe_var (pos := p) hNz hvz hdbz hcdz).run pins s σ H (fun v H1 => v = .ref f ∧ H1 = H) Iz ⟨.ref f, hs, rfl, rfl⟩) fun u s1 ⟨v, H1, I1z, r1z, q1⟩ => ?_)
    obtain ⟨ev, eH⟩ := q1
    subst ev
    rw [eH] at I1z
    obtain rfl : u = Value.ref f := r1z
    have fa : ∀ {s2 : Shared} {H2 : Hp}, Inv X pins σ H2 s2 → H2 f = some (LamO f q params body scope c') → PySem.W.FnAt f s2.heap := fun I2z e => by
      obtain ⟨pmz, ctvz, hoz⟩ := lamO_at I2z.hok e
      exact ⟨_, _, _, _, hoz⟩
    refine PySem.W.callWith_F (first := []) (fa I1z hf) (thn (ha.run pos pins s1 σ H _ I1z ht) fun us s2 ⟨vs, H2, I2z, r, h1, h2, q⟩ => ⟨fa I2z h1, ?_⟩) he hpl
    show wpAny _ _ (call (Value.ref f) us) _ _ _
    refine wpAny_call (codeAny_mono ((FL f c').run X.A X.stack s2 H2 us vs Q E hr I2z.env0 h1 h2 r q) fun r s' hqz => ?_)
    cases r with
    | error e => exact hxz pins σ H2 s2 e s' I2z hqz
    | ok fl =>
      cases fl with
      | ret u => exact I2z.after hqz
      | next => exact False.elim hqz
      | brk => exact False.elim hqz
      | cont => exact False.elim hqz
end
end Rg
namespace Rg
open PySem PySem.Spec PyProof.Rows L2 LamX
/-! ### sorted(lots, key=lambda lot: min(lot)), lots lists of ints -/
def mnI : List Int → Int
  | [] => 0
  | [a] => a
  | a :: b :: l => if a ≤ mnI (b :: l) then a else mnI (b :: l)
theorem mnI_mem : ∀ {l : List Int}, l ≠ [] → mnI l ∈ l
  | [], h => absurd rfl h
  | [a], _ => List.mem_singleton.mpr rfl
  | a :: b :: l, _ => by
    unfold mnI
    split
    · exact List.mem_cons_self ..
    · exact List.mem_cons_of_mem _ (mnI_mem (by simp))
theorem mnI_le : ∀ {l : List Int} {x : Int}, x ∈ l → mnI l ≤ x
  | [], _, h => nomatch h
  | [a], x, h => by rw [List.mem_singleton.mp h]; exact Int.le_refl _
  | a :: b :: l, x, h => by
    unfold mnI
    rcases (List.mem_cons.mp h) with rfl | h
    · split <;> omega
    · have := mnI_le h
      split <;> omega
theorem mnI_eq {l : List Int} {m : Int} (hm : m ∈ l) (h : ∀ y ∈ l, m ≤ y) : m = mnI l :=
  Int.le_antisymm (h _ (mnI_mem fun z => by rw [z] at hm; cases hm)) (mnI_le hm)
section
variable {prog : Program} {w : World} {A : Around} {s : Shared} {h : Heap}
theorem minkey_turn {tk : Nat} {f c' t : Addr} {q y : Str} {params : Arguments} {scope : Scope} {pm ctv : Value} {p1 p2 p3 : Pos} {mg mb : Str → Option Value} {ns : List Int} {its : List Value}
    (hroom : A.depth < recursionLimit) (hhd : A.handled = none)
    (hf : h.get? f = some (PySem.W.kla_obj "<lambda>" q params (.Call (.Name "min" p1) [.Name y p2] [] p3) scope [] pm c' ctv))
    (hco : scope.isCoroutine = false) (hgen : scope.isGenerator = false) (hk : scope.kind = .function) -- plain
    (hcell : ∀ x ∈ scope.names, x.2 ≠ .cell) (hy : scope.names.lookup y = some .local) (hlen : scope.names.lookup ("min" : Str) = some .globalImplicit)
    (hbind : ∀ v : Value, bindArgs (PySem.W.kla_fn "<lambda>" q params (.Call (.Name "min" p1) [.Name y p2] [] p3) scope [] pm (.ref c') ctv) ⟨[v], []⟩ = pure [(y, v)])
    (hcd : h.CodeRec (.ref c') q) (hg : h.Ns mainGlobals mg) (hm : mg ("min" : Str) = none) (hb : h.Ns builtinsNs mb) (hmb : mb ("min" : Str) = some (.builtin "min")) (hnl : h.NoLimit)
    (ht : h.IsList t its.toArray) (hi : IntsAre its ns) (hne : 0 < ns.length) (hyd : (y == ("__debug__" : Str)) = false) :
    wpAny (model prog w) A (call (.ref f) [.ref t]) (PySem.W.KeyPure (.int (mnI ns)) { s with heap := h, toks := tk }) (fun _ _ => False) { s with heap := h, toks := tk } := by
  refine wpAny_call (PySem.W.kla_callFunE hroom hf rfl hco hgen rfl hcd ?_)
  rw [hbind]
  refine wpAny_pure (wpAny_newFunctionEnv hcell (fun z hz => by rw [List.mem_singleton.mp hz]; exact hy) (fun h₁ hns hsb => ⟨hnl.fresh _ hsb, ?_⟩) hk)
  have kp : ∀ b o, h.get? b = some o → h₁.get? b = some o := fun b o e => hsb.extBut b o (Nat.ne_of_lt (Heap.lt_size e)) (Heap.get?_push_of_some _ e)
  show codeAny _ _ (.expr _ (PySem.W.envX q scope h.objs.size f (.ref c') [])) _ _
  refine PySem.W.kla_codeExpr ?_
  have rd : ∀ (A' : Around) (tk' : Nat) (pos : Pos) (Q : Value → Shared → Prop) (E : Value → Shared → Prop), Q (.ref t) { s with heap := h₁, toks := tk' } → wpAny (model prog w) A' (eval (.Name y pos) (PySem.W.envX q scope h.objs.size f (.ref c') [])) Q E { s with heap := h₁, toks := tk' } := fun A' tk' pos Q E hQ =>
    wpAny_Name (wpAny_loadName_local hk hy hns (by show ([(y, Value.ref t)].reverse).lookup y = _; simp) hQ) hyd
  refine wpAny_Call_Name_kw (Calls.Name_function_global hk hlen (Calls.loadGlobal_builtin (hg.keeps kp) hm (hb.keeps kp) hmb ?_))
  refine PyProof.Rows.callWith_builtin1 (Calls.spliced_cons (rd _ _ _ _ _ (Calls.spliced_nil ?_))) rfl rfl
  refine L2.min_raw hhd (let ⟨o, ho, r⟩ := ht; ⟨o, kp _ _ ho, r⟩) hi hne fun h' tk' M t' hk' h1 h2 => ?_
  refine ⟨h', tk', rfl, fun b o e => hk' b o (kp b o e), ?_⟩
  rw [← mnI_eq h1 h2]
  exact .int _ _
end
section
variable {X : Cx}
/-- sorted(e, key=lambda lot: min(lot)) -/
def tSortMin (K : PySem.W.Frag) (T : List (Addr × Str)) (te : TE) : TE := fun σ H Q => te σ H fun v H1 => ∃ (a : Addr) (xs : List V) (k : V → List Int), v = .ref a ∧ SqL K H1 a xs ∧ (∀ x ∈ xs, ∃ t, x = V.ref t ∧ H1 t = some (.lst ((k x).map V.int)) ∧ k x ≠ []) ∧ Tabs T H1 ∧
  ∀ (H2 : Hp) (p : Addr) (ys : List V), ExtN H1 H2 → Tabs T H2 → ys.Perm xs → (ys.Pairwise fun u v => mnI (k u) ≤ mnI (k v)) → H2 p = none → Q (.ref p) (upd H2 p (.lst ys))
theorem pe_sortMin {T : List (Addr × Str)} {c P : Addr} {y : Str} {params : Arguments} {scope : Scope} {p p1 p2 p3 lpos kpos pos : Pos} {e : Expr} {te : TE}
    (hcm : X.calm = true) (hdp : X.A.depth < recursionLimit) (hu : X.A.units + 64 < cLine) (hgS : Gl X ("sorted" : Str)) (hmS : X.mg ("sorted" : Str) = none) (hmL : X.mg ("min" : Str) = none) (he : PE X e te)
    (TB : TabB X.base X.mg c P) (hcode : X.env.code = .ref c) (hmT : (P, X.env.qual ++ "<lambda>") ∈ T) (huT : ∀ p ∈ T, p.1 = P → p.2 = X.env.qual ++ "<lambda>")
    (hdef : defaultsOf params X.env = ([], [])) (hco : scope.isCoroutine = false) (hgen : scope.isGenerator = false) (hk : scope.kind = .function)
    (hcell : ∀ x ∈ scope.names, x.2 ≠ .cell ∧ x.2 ≠ .free) (hy : scope.names.lookup y = some .local) (hlen : scope.names.lookup ("min" : Str) = some .globalImplicit) (hclo : cloFrom X.env.cells scope.names [] = [])
    (hbind : ∀ (q : Str) (pm cv ctv v : Value), bindArgs (PySem.W.kla_fn "<lambda>" q params (.Call (.Name "min" p1) [.Name y p2] [] p3) scope [] pm cv ctv) ⟨[v], []⟩ = pure [(y, v)])
    (hyd : (y == ("__debug__" : Str)) = false := by decide)
    (hes : backTo pos (starEach [e] X.env) = [(false, eval e X.env)] := by rfl) :
    PE X (.Call (.Name "sorted" p) [e] [⟨some "key", .Lambda params (.Call (.Name "min" p1) [.Name y p2] [] p3) scope lpos, kpos⟩] pos) (tSortMin X.K T te) := by
  refine .mk (fun pins s σ H Q I h => ?_)
  refine wpAny_Call_Name_kw (ld_blt I hgS hmS (u := .builtin "sorted") (by decide +kernel) ?_ (by decide) (by decide))
  refine PyProof.Rows.callWith_kw ?_ hes (by rw [hes]; rfl) rfl rfl
  rw [hes]
  refine Calls.spliced_cons (thn (he.run pins s σ H _ I h) fun u s1 ⟨v, H1, I1, r1, q1⟩ => Calls.spliced_nil ?_)
  obtain ⟨a, xs, k, rfl, hs, hx, hT, q⟩ := q1
  obtain rfl : u = .ref a := r1
  show wpAny _ _ (evalAll [do let v ← eval (.Lambda params (.Call (.Name "min" p1) [.Name y p2] [] p3) scope lpos) X.env; standAt pos; pure v]) _ _ _
  refine wpAny_evalAll_cons (wpAny_bind ?_)
  refine lam_make2 I1 TB hcode hmT huT hT hdef (fun z hz ef => absurd ef (hcell z hz).2) fun f c' pm ctv H2 s2 I2 eN T2 hf hfn hfr hco2 => ?_
  rw [hclo] at hf
  refine wpAny_bind (wpAny_standAt (wpAny_pure (?_)))
  refine wpAny_evalAll_nil ?_
  show wpAny _ _ (call (.builtin "sorted") [.ref a] [(Str.ofString "key", .ref f)]) _ _ s2
  have hs2 : SqL X.K H2 a xs := by
    rcases hs with (hs | ⟨o, hs⟩) | hs
    · exact .inl (.inl (eN _ _ hs (fun _ z => nomatch z)))
    · exact .inl (.inr ⟨o, eN _ _ hs (fun _ z => nomatch z)⟩)
    · exact .inr hs
  obtain ⟨its, rv, hl, hsz⟩ := I2.list hs2
  have hx2 : ∀ x ∈ xs, ∃ t, x = V.ref t ∧ H2 t = some (.lst ((k x).map V.int)) ∧ k x ≠ [] := fun x m => let ⟨t, e1, e2, e3⟩ := hx x m; ⟨t, e1, eN _ _ e2 (fun _ z => nomatch z), e3⟩
  obtain ⟨⟨oc, cvs, ct, hoc, hdc, hvc⟩, _, _⟩ := I2.hok c' _ hco2
  obtain ⟨mb, hb1, hb2⟩ := I2.mod.blt
  refine PySem.W.sorted_key_data (β := V) (R := fun u x => RelV x u) (fun x => PyData.int (mnI (k x))) hl.isList (vals_each rv) (PySem.W.AllAlike.of fun b b' => by simp [PySem.W.alike]) (PySem.W.Sortable.others fun b => ⟨(fun z => nomatch z), fun _ z => nomatch z⟩) hsz
    (fun x _ => by show _ + PyData.depth (.int _) < _; simp only [PyData.depth]; omega) (PyProof.Rows.ksk_s1 _ _) (fun _ => PyProof.Rows.ksk_l1 _ _) (fun x => PyProof.Rows.ksk_t1 f x) ?_ ?_
  · intro v x hR hxm h' tk' hk'
    obtain ⟨t, rfl, ht, hne⟩ := hx2 x hxm
    obtain rfl : v = Value.ref t := hR
    obtain ⟨jts, rj, lj, hz⟩ := I2.list (SqL.of ht)
    refine minkey_turn (hroom := hdp) (I2.ok.hd hcm) (hk' _ _ hf) hco hgen hk (fun z hz => (hcell z hz).1) hy hlen (fun v => hbind _ _ _ _ v) ⟨c', oc, cvs, ct, rfl, hk' _ _ hoc, hdc, hvc⟩
      ((I2.mod.glob.keeps I2.bk).keeps hk') hmL ((hb1.keeps I2.bk).keeps hk') ((hb2 _ (by decide)).trans (by decide +kernel)) (I2.nolimit.keeps hk') (let ⟨o, ho, r⟩ := lj.isList; ⟨o, hk' _ _ ho, r⟩) rj.ints (List.length_pos_iff.mpr hne) hyd
  · intro out cc h' tk' hk' hfr' hnew hol heach
    have hpm : (xs.mergeSort (PySem.W.dataLe false fun x => PyData.int (mnI (k x)))).Perm xs := List.mergeSort_perm ..
    refine ⟨.ref (s2.heap.objs.size + 1), upd H2 (s2.heap.objs.size + 1) (.lst (xs.mergeSort (PySem.W.dataLe false fun x => PyData.int (mnI (k x))))), I2.laid (t' := tk') hk' (Nat.le_succ _) ?_, rfl, ?_⟩
    · exact ⟨by rw [hpm.length_eq]; exact hsz, out, cc, each_vals heach, hnew⟩
    · have nf : H2 (s2.heap.objs.size + 1) = none := I2.hok.fresh (Nat.le_succ _)
      refine q _ _ _ eN T2 hpm ?_ nf
      have z := PySem.W.sortLe_total (listOrd itemOrd) false (fun x : V => PySem.W.keyToks (PyData.int (mnI (k x))))
      have pw := List.pairwise_mergeSort (le := PySem.W.dataLe false fun x => PyData.int (mnI (k x))) (fun a b c => z.trans a b c) (fun a b => Bool.or_eq_true _ _ |>.mpr (z.total a b)) xs
      refine pw.imp fun {u v} h => ?_
      have h2 : (!PySem.W.dataLt (.int (mnI (k v))) (.int (mnI (k u)))) = true := h
      rw [PySem.W.dataLt_int] at h2
      simp at h2
      exact h2
end
end Rg
/-! a list comprehension whose element may raise -/
namespace Rg
open PySem PySem.Spec PyProof.Rows L2
open PySem.Sem (wp)
section
variable {M : Model} {A : Around} {env : Env} {s : Shared} {E : Value → Shared → Prop}
/-- behind the block; an exception goes on from the block's own env -/
def postX (M : Model) (A : Around) (E : Value → Shared → Prop) (Qq : Value → Shared → Prop) (acc : Value) (C : Addr) (ce : Env) (r : Result) (t : Shared) : Prop :=
  match r with
  | .ok _ => ∃ mm, t.heap.Ns C mm ∧ ∀ hh, Heap.SameBut C t.heap hh → Qq acc { t with heap := hh }
  | .error x => ∃ mm, t.heap.Ns C mm ∧ ∀ hh, Heap.SameBut C t.heap hh → wpAny M A (passOn "comprehension.variables-let-go" x ce : Sem Value) (fun _ _ => False) E { t with heap := hh }
theorem comp_freeX {e : Expr} {scope : Scope} {pos : Pos} {newAcc first : Sem Value} {g : Comprehension} {gs : List Comprehension} {cl : List (Str × Addr)} {Qq : Value → Shared → Prop}
    (hcl : clausesOf e = g :: gs) (hs : ∀ x, foldedSetIterable g.iter env x = pure x) (hclos : closureFor scope env = pure cl) (hkind : scope.kind = .function) (hnames : ∀ x ∈ scope.names, x.2 = .local → scope.names.lookup x.1 = some .local)
    (h : wpAny M A first (fun x s1 => wpAny M A (pyIter x) (fun it s2 => wpAny M A newAcc (fun acc s3 => wpAny M A (newFunctionEnv scope env.globals cl [] env.qual none .none (some env)) (fun cenv s4 =>
        codeAny M A (.compStart e 0 it acc { cenv with scope := relabel scope env }) (postX M A E Qq acc cenv.locals { cenv with scope := relabel scope env }) s4) E s3) E s2) E s1) E s) :
    wpAny M A (comprehension e scope env pos newAcc false first none) Qq E s := by
  unfold comprehension
  rw [hclos, hcl]
  refine wpAny_bind (wpAny_mono h (fun x s1 q1 => wpAny_bind (wpAny_standAt (wpAny_bind (wpAny_of_eq (hs x) (wpAny_bind (wpAny_holding (wpAny_mono q1 (fun it s2 q2 =>
    wpAny_standIf (wpAny_bind (wpAny_mono q2 (fun acc s3 q3 => wpAny_bind (wpAny_pure (wpAny_bind (wpAny_mono q3 (fun cenv s4 q4 => ?_) fun _ _ z => z)))) fun _ _ z => z)))
      fun _ _ z => z))))))) fun _ _ z => z)
  dsimp only
  have hv : ∀ x ∈ (scope.names.filter fun x => (x.2 == .local || x.2 == .cell) && x.1 != (".0" : Str)).reverse, x.2 = .local → Env.kindOf { cenv with scope := relabel scope env } x.1 = some .local := fun x hx hl =>
    lookup_relabel_local (hnames x (List.mem_filter.mp (List.mem_reverse.mp hx)).1 hl)
  refine wpAny_holding (wpAny_bind (wpAny_attempt (wpAny_holding (wpAny_run (codeAny_mono q4 fun r t hr => ?_)))))
  cases r with
  | ok f =>
    obtain ⟨mm, hn, hr⟩ := hr
    exact wpAny_bind (wpAny_holding (wpAny_comp_letGo (cenv := { cenv with scope := relabel scope env }) hkind _ t mm hv hn fun hh m2 _ sb => wpAny_pure (hr hh sb)))
  | error x =>
    obtain ⟨mm, hn, hr⟩ := hr
    exact wpAny_bind (wpAny_holding (wpAny_comp_letGo (cenv := { cenv with scope := relabel scope env }) hkind _ t mm hv hn fun hh m2 _ sb => wpAny_mono (hr hh sb) (fun _ _ f => f.elim) fun _ _ y => y))
end
theorem frames_at {base base2 h h2 : Heap} : ∀ {l : List Env}, h.FunFrames base l → (∀ L ∈ frs l, base2.get? L = none ∧ ∀ o, h.get? L = some o → ∃ sl, h2.get? L = some { o with slots := sl }) → h2.FunFrames base2 l
  | [], _, _ => trivial
  | env :: l, hh, hn => by
    obtain ⟨hk, ⟨L, o, hf, _, ho, hd⟩, hr⟩ := hh
    obtain ⟨n, k⟩ := hn L (List.mem_filterMap.mpr ⟨env, List.mem_cons_self, hf⟩)
    obtain ⟨sl, q⟩ := k o ho
    exact ⟨hk, ⟨L, _, hf, n, q, hd⟩, frames_at hr fun b hb => by
      obtain ⟨e2, he2, q2⟩ := List.mem_filterMap.mp hb
      exact hn b (List.mem_filterMap.mpr ⟨e2, List.mem_cons_of_mem _ he2, q2⟩)⟩
section
variable {X : Cx}
theorem lc_raise {pins pins9 : List (Addr × Obj)} {σ σ9 : L2.St} {H3 H9 : Hp} {s3 s9 t : Shared} {scope : Scope} {ce : Env} {fp : List Addr} {Ex : XK} {Qq : Value → Shared → Prop} {acc u : Value}
    (hst : X.stack = X.env :: X.outer) (hf : X.env.frame = some X.env.locals) (tk : Takes X fun cls d _ H => Ex cls d H) (I3 : Inv X pins σ H3 s3) (f3 : ∀ b ∈ fp, FpOk X pins H3 b ∧ b < s3.heap.objs.size)
    (I9 : Inv (X.blk s3 H3 scope ce fp) pins9 σ9 H9 s9) (cL : ce.locals = s3.heap.objs.size) (cF : ce.frame = X.env.frame) (c : L2.CX X.prog X.w X.stack H9 s9 Ex u t) :
    notedBy (model X.prog X.w) X.A ce (fun e t2 => postX (model X.prog X.w) X.A X.xe Qq acc s3.heap.objs.size ce (.error e) t2) u t := by
  obtain ⟨a, B, H2, cls, d, rfl, fl, hok, ub, na, os, ag, hE⟩ := c
  have hfr : X.A.frames = some (X.env :: X.outer) := by rw [I3.ok.frames, hst]
  have nCfr : s3.heap.objs.size ∉ frs X.stack := fun z => by
    rcases List.mem_cons.mp (I3.stkSub _ z) with e | e
    · have h1 := I3.lt
      rw [← e] at h1
      exact Nat.lt_irrefl _ h1
    · exact I3.nofs (Nat.le_refl _) e
  obtain ⟨mm, hn, _⟩ := I9.loc
  have hn : s9.heap.Ns ce.locals mm := hn
  rw [cL] at hn
  have fC : H9 s3.heap.objs.size = none := by
    have z : H9 ce.locals = none := I9.free
    rw [cL] at z
    exact z
  obtain ⟨oC, es, ep, hoC, rC⟩ := hn
  have hBC : B.get? s3.heap.objs.size = some oC := ub.keep _ oC hoC fC nCfr
  generalize hCC : s3.heap.objs.size = C at hoC fC nCfr hBC cL ⊢
  have ne : ∀ b, B.get? b = none → b ≠ C := fun b e z => by rw [z, hBC] at e; cases e
  have u9 : Un (frs X.stack) fp H3 H9 s3.heap s9.heap := I9.base
  have lo : ∀ b o, s3.heap.get? b = some o → b ≠ C := fun b o e z => by
    have := Heap.lt_size e
    rw [z, ← hCC] at this
    exact Nat.lt_irrefl _ this
  have en : noteFrame (.ref a) ce = noteFrame (.ref a) X.env := by
    unfold PySem.noteFrame PySem.frameOf
    rw [cF]
  show wpAny _ _ (noteFrame (.ref a) ce) _ _ t
  rw [en]
  have fl0 := fl
  rw [hst] at fl
  refine HandSPX.looks_onZ Zc.steady hfr hf fl fun h1 held up1 => ?_
  obtain ⟨hk, hen, hl, oe, vs, T, oT, ts, he, hz, hd, hv1, hnT, hTe, hT, hdT, ht3⟩ := held
  refine ⟨mm, ⟨oC, es, ep, hk _ _ hBC, rC⟩, fun h2 sb => ?_⟩
  obtain ⟨B2, b1, b2⟩ := restrict h2 fun b => (B.get? b).isSome
  have bB : ∀ b o, B2.get? b = some o → h2.get? b = some o ∧ (B.get? b).isSome = true := fun b o e => by
    cases q : (B.get? b).isSome with
    | false => rw [b2 b q] at e; cases e
    | true =>
      rw [b1 b q] at e
      exact ⟨e, rfl⟩
  have B2of : ∀ b o, b ≠ C → B.get? b = some o → B2.get? b = some o := fun b o nb e => by
    rw [b1 b (by simp [e]), sb.2 b nb]
    exact hk b o e
  have B2no : ∀ b, B.get? b = none → B2.get? b = none := fun b e => b2 b (by simp [e])
  have frN : ∀ L ∈ frs (X.env :: X.outer), B.get? L = none := fun L hL => (hl.mem hL).1
  have held2 : HandSPX.HeldZ B2 (X.env :: X.outer) a (Zc cls d) X.env.locals h2 :=
    ⟨fun b o e => (bB b o e).1, B2no a hen, frames_at hl (fun L hL => ⟨B2no L (frN L hL), fun o ho => ⟨o.slots, by rw [sb.2 L (ne L (frN L hL))]; exact ho⟩⟩), oe, vs, T, oT, ts,
      by rw [sb.2 a (ne a hen)]; exact he, hz, hd, hv1, B2no T hnT, hTe, by rw [sb.2 T (ne T hnT)]; exact hT, hdT, ht3⟩
  have hea2 : h2.get? a = some oe := by rw [sb.2 a (ne a hen)]; exact he
  unfold PySem.passOn
  refine wpAny_bind (wpAny_field hea2 hd hv1 ?_)
  rw [if_neg (by simp : ¬ ((Value.ref T == Value.none) = true))]
  have goOn : wpAny (model X.prog X.w) X.A (setFlight (.ref a) ce.frame) (fun _ s7 => wpAny (model X.prog X.w) X.A (throw (.ref a) : Sem Value) (fun _ _ => False) X.xe s7) X.xe { t with heap := h2 } := by
    rw [cF, hf]
    refine HandSPX.setFlight_onZ held2 fun h4 held4 up4 => wpAny_throw (tk _ _ ?_)
    obtain ⟨G, g1, g2⟩ := restrict h4 fun b => (B2.get? b).isSome || decide (b ∈ frs X.stack)
    have gB : ∀ b o, B2.get? b = some o → G.get? b = some o := fun b o e => by
      rw [g1 b (by simp [e])]
      exact held4.1 b o e
    have gF : ∀ b, b ∈ frs X.stack → G.get? b = h4.get? b := fun b hb => g1 b (by simp [hb])
    have og : ∀ b o, G.get? b = some o → h4.get? b = some o ∧ ((B2.get? b).isSome = true ∨ b ∈ frs X.stack) := fun b o e => by
      cases q : ((B2.get? b).isSome || decide (b ∈ frs X.stack)) with
      | false => cases ((g2 b q).symm.trans e)
      | true =>
        rw [g1 b q] at e
        exact And.intro e (by simpa [Bool.or_eq_true] using q)
    have frame : ∀ b ∈ frs X.stack, ∀ o, s9.heap.get? b = some o → ∃ sl, G.get? b = some { o with slots := sl } := fun b hb o e => by
      obtain ⟨sl, e1⟩ := ub.slot b o e hb
      obtain ⟨nB, o', e', nf⟩ := fl0.2.2.1.mem hb
      rw [e1] at e'
      cases e'
      obtain ⟨sl2, e2⟩ := up1 b _ e1 nf
      have e3 : h2.get? b = h1.get? b := sb.2 b (ne b nB)
      rw [e2] at e3
      obtain ⟨sl4, e4⟩ := up4 b _ e3 nf
      exact ⟨sl4, by rw [gF b hb]; exact e4⟩
    have un : Un (frs X.stack) fp H3 H2 s3.heap G := by
      refine ⟨fun b o e n hb hx => ?_, fun b o e n hb hx => ?_, fun b o e n hx => ?_, fun b o e hx => ?_, fun b xs e => ub.tups b xs (u9.tups b xs e), fun b o x e => ub.frzs b o x (u9.frzs b o x e), fun b ps e => ?_⟩
      · exact gB b o (B2of b o (lo b o e) (ub.keep b o (u9.keep b o e n hb hx) (u9.free b o e n hx) hb))
      · obtain ⟨sl, e1⟩ := u9.slot b o e n hb hx
        obtain ⟨sl2, e2⟩ := frame b hb _ e1
        exact ⟨sl2, e2⟩
      · obtain ⟨o', e1⟩ := u9.there b o e hx
        exact ub.free b o' e1 (u9.free b o e n hx)
      · obtain ⟨o', e1⟩ := u9.there b o e hx
        by_cases hb : b ∈ frs X.stack
        · obtain ⟨sl, e2⟩ := frame b hb _ e1
          exact ⟨_, e2⟩
        · obtain ⟨o2, e2⟩ := ub.there b o' e1 hb
          exact ⟨o2, gB b o2 (B2of b o2 (lo b o e) e2)⟩
      · obtain ⟨m1, e1⟩ := u9.tbls b ps e
        obtain ⟨mz, ez⟩ := ub.tbls b _ e1
        exact ⟨m1 ++ mz, by rw [ez, Array.append_assoc]⟩
    have fC2 : H2 C = none := ub.free C oC hoC fC
    have hokG : HOk X.prog X.w H2 G := fun b o q => (hok b o q).stay (fun c v hc r => gB c v (B2of c v (fun z => by
      rcases hc with hc | hc
      · rw [← hc, z, fC2] at q
        cases q
      · rw [z, fC2] at hc
        cases hc) r)) (fun _ r => r) fun _ _ r => r
    have J : Inv X pins σ H2 { s3 with heap := G, gens := t.gens, drawn := t.drawn, toks := t.toks } :=
      I3.call (ch := fp) un hokG ag fun b hb => ⟨(f3 b hb).1.2.2.2.1, (f3 b hb).1.2.1, (f3 b hb).1.2.2.2.2.1, (f3 b hb).1.2.2.2.2.2⟩
    have os3 : t.os = s3.os := os.trans I9.os
    refine ⟨a, B2, _, pins, σ, H2, cls, d, rfl, J, fun b o e hb => ?_, Heap.UpToSlots.of_keeps fun b o e => (og b o e).1, .inr (.inr (by rw [hst]; exact held4)), na, os3, ag, hE⟩
    obtain ⟨e', hh⟩ := og b o e
    rcases hh with hh | hh
    · obtain ⟨o', q⟩ := Option.isSome_iff_exists.mp hh
      have z := held4.1 b o' q
      rw [e'] at z
      cases z
      exact q
    · exact absurd hh hb
  first
    | exact (wpAny_bind (wpAny_pure (wpAny_bind goOn)))
    | exact wpAny_bind goOn
/-- [elt for target in iter if ..], elt may raise what Ex tells -/
theorem pe_lcX {Ex : XK} {elt tg iter : Expr} {ifs : List Expr} {scope : Scope} {own : List (Str × Nat)} {pos : Pos} {wi : TI} {g : TG} {tt : TT} {te : TE} (hst : X.stack = X.env :: X.outer) (hf : X.env.frame = some X.env.locals) (tk : Takes X fun cls d _ H => Ex cls d H)
    (hc : X.calm = true) (hN : X.N.Nodup) (hi : PI X tg iter wi) (ok : BlkOk X.N X.env.scope scope own) (hg : ∀ (s : Shared) (H : Hp) (C : Addr) (cl : List (Str × Addr)) (fp : List Addr), PG (X.blk s H scope (compEnvC scope cl C X.env) fp) tg g)
    (ht : ∀ (s : Shared) (H : Hp) (C : Addr) (cl : List (Str × Addr)) (fp : List Addr), PTs (X.blk s H scope (compEnvC scope cl C X.env) fp) ifs tt)
    (he : ∀ (s : Shared) (H : Hp) (C : Addr) (cl : List (Str × Addr)) (fp : List Addr) (E : Value → Shared → Prop), (∀ (pins : List (Addr × Obj)) (σ : L2.St) (H1 : Hp) (s1 : Shared) (u : Value) (s2 : Shared), Inv (X.blk s H scope (compEnvC scope cl C X.env) fp) pins σ H1 s1 → L2.CX X.prog X.w X.stack H1 s1 Ex u s2 → E u s2) →
      PE ((X.blk s H scope (compEnvC scope cl C X.env) fp).wish E) elt te) (hs : ∀ x, foldedSetIterable iter X.env x = pure x := by intro _; rfl) :
    PE X (.ListComp elt [⟨tg, iter, ifs, 0⟩] scope pos) (tLc wi g tt te (own.map (·.2))) := by -- as a value
  refine .mk (fun pins s σ H Q I h => ?_)
  rw [eval_ListComp]
  have hfq : ∀ y ∈ scope.names, y.2 = .free → ∃ c, X.env.cells.lookup y.1 = some c := fun y hy e => by
    exact (ok.free y hy e).elim (fun k => I.ok.has _ (.inl k)) fun k => I.ok.has _ (.inr k)
  refine comp_freeX rfl hs (closure_ok hfq) ok.kind (fun y hy e => by rw [ok.uniq y hy, e])
    (thn (hi.run pins s σ H _ I h) fun xw sa hxx => thn hxx fun itw sB hh2 => ?_)
  obtain ⟨it, fpp, tnn, Jt, Hb, e, Ib, Tt, stb, fb, q⟩ := hh2
  subst e
  refine wpAny_newObj_type (newEnv_comp (?_)) (by show 0 ≤ sizeLine; decide)
  generalize hDa : sB.heap.objs.size = D
  have hDnn : Hb D = none := Ib.hok.fresh (Nat.le_of_eq hDa)
  obtain ⟨Wm, ⟨m00, wa⟩, trn⟩ := q D hDnn
  generalize hs3a : ({ sB with heap := sB.heap.push { cls := .type "list", data := .seq ([] : List Value).toArray } } : Shared) = sc
  have Ic : Inv X pins σ (upd Hb D (.lst [])) sc := by
    rw [← hs3a]
    refine Ib.laid (t' := sB.toks) (fun b o e => Heap.get?_push_of_some _ e) (Nat.le_of_eq hDa) ⟨Nat.zero_le _, [], 0, .nil, ?_⟩
    rw [← hDa]
    exact (Heap.get?_push_size _ rfl)
  have hh3 : sc.heap = sB.heap.push { cls := .type "list", data := .seq ([] : List Value).toArray } := by rw [← hs3a]
  have szz : ∀ b ∈ fpp, b < sB.heap.objs.size := fun b hb => by
    obtain ⟨o, e, _⟩ := Tt.obj _ _ stb b hb
    exact Heap.lt_size e
  have fc : ∀ b ∈ fpp, FpOk X pins (upd Hb D (.lst [])) b ∧ b < sc.heap.objs.size := fun b hb => by
    have hlt := szz b hb
    refine ⟨⟨?_, (fb b hb).2⟩, by rw [hh3, Heap.size_push]; exact Nat.lt_succ_of_lt hlt⟩
    rw [upd_ne (by rw [← hDa]; exact Nat.ne_of_lt hlt)]
    exact (fb b hb).1
  have stc : tnn 0 sc.heap := Tt.keep _ _ _ stb fun b _ o e => by rw [hh3]; exact Heap.get?_push_of_some _ e
  have Id := block_start Ic ok hN fc
  have pgg := hg sc (upd Hb D (.lst [])) sc.heap.objs.size (cellsFrom (sc.heap.objs.size + 1) scope.names (cloFrom X.env.cells scope.names [])) fpp
  have ptt := ht sc (upd Hb D (.lst [])) sc.heap.objs.size (cellsFrom (sc.heap.objs.size + 1) scope.names (cloFrom X.env.cells scope.names [])) fpp
  have pee := he sc (upd Hb D (.lst [])) sc.heap.objs.size (cellsFrom (sc.heap.objs.size + 1) scope.names (cloFrom X.env.cells scope.names [])) fpp
  show codeAny _ _ (.compStart (.ListComp elt [⟨tg, iter, ifs, 0⟩] scope pos) 0 (.ref it) (.ref D) (compEnvC scope (cellsFrom (sc.heap.objs.size + 1) scope.names (cloFrom X.env.cells scope.names [])) sc.heap.objs.size X.env)) (postX (model X.prog X.w) X.A X.xe (EP X pins σ Q) (.ref D) sc.heap.objs.size (compEnvC scope (cellsFrom (sc.heap.objs.size + 1) scope.names (cloFrom X.env.cells scope.names [])) sc.heap.objs.size X.env)) { sc with heap := pushCells (sc.heap.push { cls := .type "dict", data := .dict #[] }) scope.names }
  have nfq : ∀ b ∈ fpp, (upd Hb D (.lst [])) b = none := fun b hb => (fc b hb).1.1
  generalize hcee : compEnvC scope (cellsFrom (sc.heap.objs.size + 1) scope.names (cloFrom X.env.cells scope.names [])) sc.heap.objs.size X.env = cen at Id pgg ptt pee ⊢
  have cLl : cen.locals = sc.heap.objs.size := by subst hcee; rfl
  have cFf : cen.frame = X.env.frame := by subst hcee; rfl
  generalize hHc : upd Hb D (.lst []) = Hc at Ic Id pgg ptt pee wa nfq fc
  generalize hs4a : ({ sc with heap := pushCells (sc.heap.push { cls := .type "dict", data := .dict #[] }) scope.names } : Shared) = sd at Id ⊢
  have std : tnn 0 sd.heap := Tt.keep _ _ _ stc fun b _ o e => by rw [← hs4a]; exact pushCells_keeps _ _ _ _ (Heap.get?_push_of_some _ e)
  have stt : ∀ {σ' : L2.St} {H' : Hp} {s' : Shared}, Inv (X.blk sc Hc scope cen fpp) [] σ' H' s' → (∀ b ∈ fpp, H' b = none) → ∀ b ∈ fpp, FpOk (X.blk sc Hc scope cen fpp) [] H' b := fun {σ' H' s'} I' hn b hb =>
    ⟨hn b hb, (I'.ok.exf b hb).1, (I'.ok.exfs b hb), .inl hb, fun x c e => (I'.ok.exf b hb).2 x c e, fun p hp => absurd (show p ∈ ([] : List (Addr × Obj)) ++ [] from hp) (by simp)⟩
  have lpp : codeAny (model X.prog X.w) X.A (.compLoop (.ListComp elt [⟨tg, iter, ifs, 0⟩] scope pos) 0 (.ref it) (.ref D) cen) (postX (model X.prog X.w) X.A X.xe (EP X pins σ Q) (.ref D) sc.heap.objs.size cen) sd := by
    refine compLoop_any (fun n s' => ∃ i H', Inv (X.blk sc Hc scope cen fpp) [] (wipe σ (own.map (·.2))) H' s' ∧ tnn i s'.heap ∧ (∀ b ∈ fpp, H' b = none) ∧ Wm i n H') ?_ m00 ⟨0, Hc, Id, std, nfq, wa⟩
    rintro n se ⟨i, He, Ie, ste, n5a, w5a⟩
    rcases trn i n He w5a with ⟨stpp, qq⟩ | ⟨goo, Nxx, hNxx, stp⟩
    · have tdd := Tt.done (X.blk sc Hc scope cen fpp) rfl rfl rfl hc i [] se _ He (fun _ _ => False) Ie (stt Ie n5a) ste stpp
      refine thnF tdd fun r sf ⟨hr, Ig⟩ => ?_
      subst hr
      have Ih : Inv X pins σ He sf := Ic.call' (ch := fpp) Ig.os Ig.base Ig.hok Ig.bare fun b hb => ⟨(fc b hb).1.2.2.2.1, (fc b hb).1.2.1, (fc b hb).1.2.2.2.2.1, (fc b hb).1.2.2.2.2.2⟩
      have nC : He sc.heap.objs.size = none := by
        have z : He cen.locals = none := Ig.free
        rw [cLl] at z
        exact z
      obtain ⟨m, hn, _⟩ := Ig.loc
      have hn : sf.heap.Ns cen.locals m := hn
      rw [cLl] at hn
      refine ⟨m, hn, fun hz sb => ?_⟩
      obtain ⟨z0, z1, z2, z3, z4, z5⟩ := Ic.fpOk (Nat.le_refl _) nC
      exact ⟨.ref D, He, Ih.turned (t' := sf.toks) (fun b o hb e => (sb.2 b hb).trans e) z0 z1 z3 z4 z5, rfl, qq⟩
    · have tii := Tt.item (X.blk sc Hc scope cen fpp) rfl rfl rfl hc i [] se _ He (fun _ _ => False) Ie (stt Ie n5a) ste goo
      refine thnF tii fun r sf ⟨u, hr, h6⟩ => ?_
      subst hr
      refine thnF h6 fun _ sg ⟨x, Hg, Ih, r7a, y7a, stg, n7a⟩ => ?_
      have Ihp := Ih.pinned (stt Ih n7a) (Tt.obj _ _ stg)
      refine thnF (pgg.run _ sg _ Hg x u _ Ihp r7a (stp x Hg y7a)) fun _ sh ⟨σh, Hh, Ij, hwx, q8a⟩ => ?_
      refine thnF (ptt.run _ sh σh Hh _ Ij q8a) fun b si ⟨Hi, Ik, q9a⟩ => ?_
      have fnn : ∀ {s' : Shared} {H' : Hp}, Inv (X.blk sc Hc scope cen fpp) ([] ++ pinsAt fpp sg.heap) σh H' s' → Nxx H' → ∃ m, m < n ∧ ∃ i H', Inv (X.blk sc Hc scope cen fpp) [] (wipe σ (own.map (·.2))) H' s' ∧ tnn i s'.heap ∧ (∀ b ∈ fpp, H' b = none) ∧ Wm i m H' := fun {s' H'} I' nxx => by
        obtain ⟨m', hm, w'⟩ := hNxx H' nxx
        have pinq : ∀ b ∈ fpp, ∀ o, sg.heap.get? b = some o → s'.heap.get? b = some o ∧ H' b = none := fun b hb o e =>
          let z := (I'.pin (b, o) (List.mem_append_right _ (List.mem_append_right _ (mem_pinsAt hb e))))
          ⟨z.1, z.2.1⟩
        have hll : (wipe σ (own.map (·.2))).length = σh.length := by rw [← hwx, wipe_length]
        refine ⟨m', hm, i + 1, H', (I'.unpinned (pins := [])).weak hll (fun j v e => ?_), Tt.keep _ _ _ stg fun b hb o e => (pinq b hb o e).1, fun b hb => ?_, w'⟩
        · rw [← hwx] at e
          exact (wipe_some e).1
        · obtain ⟨o, e, _⟩ := Tt.obj _ _ stg b hb
          exact (pinq b hb o e).2
      cases b with
      | false =>
        simp only [Bool.false_eq_true, if_false] at q9a ⊢
        exact fnn Ik q9a
      | true =>
        simp only [if_true] at q9a ⊢
        refine wpAny_mono ((pee (fun u t => ∃ pz σz Hz tz, Inv (X.blk sc Hc scope cen fpp) pz σz Hz tz ∧ L2.CX X.prog X.w X.stack Hz tz Ex u t) fun pz σz Hz tz u t J c => ⟨pz, σz, Hz, tz, J, c⟩).run _ si σh Hi _ (Ik.wish _) q9a) (fun z sj hq => ?_) fun u t ⟨pz, σz, Hz, tz, Jz, cz⟩ => lc_raise hst hf tk Ic fc Jz cLl cFf cz
        obtain ⟨yvv, Hj, Il', r10a, accx, hDz, hzz, nxx⟩ := hq
        have Il := Il'.unwish
        exact app_ok (X := X.blk sc Hc scope cen fpp) Il hDz hzz r10a fun sk Im => fnn Im nxx
  exact codeAny_compStart_list lpp (Tt.self X.A 0 _ _ _ std lpp)
end
end Rg
namespace K
open PySem L2 Rg LamX
open Evl (pss_cut)
/-! ### tables -/
abbrev qCo : Str := "_law_choices.<locals>.<lambda>"
abbrev qRr : Str := "_law_refused_right.<locals>.<lambda>"
abbrev T2 (P0 P1 : Addr) : List (Addr × Str) := [(P0, qCo), (P1, qRr)]
structure Bi2 (mg : Str → Option Value) : Prop where
  zip : mg "zip" = none
  min : mg "min" = none
  repr : mg "repr" = none
theorem extn_mut {H H' : Hp} {D : Addr} {o : HO} (e : ExtN H H') (n : H D = none) : ExtN H (upd H' D o) := fun b u h t => by
  rw [upd_ne (fun z => by rw [z, n] at h; cases h)]
  exact e b u h t
theorem extn_free {H H' : Hp} {D : Addr} (e : ExtN H H') (n : H' D = none) (nt : ∀ ps, H D ≠ some (.tbl ps)) : H D = none := by
  cases h : H D with
  | none => rfl
  | some o =>
    have := e D o h (fun ps z => nt ps (by rw [h, z]))
    rw [n] at this
    cases this
theorem tabS_but {h : Addr} {xs : List V} {H H' : Hp} {P : Addr} {q : Str} (t : TabS H P q) (b : But h H H') (hh : H h = some (.lst xs)) : TabS H' P q := by
  obtain ⟨ps, h1, h2, h3⟩ := t
  refine ⟨ps, b _ _ (fun e => ?_) h1, h2, fun pos cv hc => ?_⟩
  · rw [e, hh] at h1
    cases h1
  · obtain ⟨c, e1, e2⟩ := h3 pos cv hc
    refine ⟨c, e1, b _ _ (fun e => ?_) e2⟩
    rw [e, hh] at e2
    cases e2
theorem tabs_but {h : Addr} {xs : List V} {H H' : Hp} {T : List (Addr × Str)} (t : Tabs T H) (b : But h H H') (hh : H h = some (.lst xs)) : Tabs T H' := fun p hp => tabS_but (t p hp) b hh
theorem tabs_mut {D : Addr} {us ws : List V} {H : Hp} {T : List (Addr × Str)} (t : Tabs T H) (hh : H D = some (.lst us)) : Tabs T (upd H D (.lst ws)) := tabs_but t (fun b o n e => by rw [upd_ne n]; exact e) hh
theorem LStN.ext {N : Addr → Prop} {H H' : Hp} {v : V} {q : Strd} (h : LStN N H v q) (s : ExtN H H') : LStN N H' v q := let ⟨a, xs, e, n, z, p⟩ := h; ⟨a, xs, e, n, s _ _ z (fun _ q => nomatch q), par_imp (fun _ _ ⟨a, e, z⟩ => ⟨a, e, s _ _ z (fun _ q => nomatch q)⟩) p⟩
theorem LWyN.ext {N : Addr → Prop} {H H' : Hp} {v : V} {q : List Strd} (h : LWyN N H v q) (s : ExtN H H') : LWyN N H' v q := let ⟨a, xs, e, n, z, p⟩ := h; ⟨a, xs, e, n, s _ _ z (fun _ q => nomatch q), par_imp (fun _ _ k => k.ext s) p⟩
theorem LI.ext {H H' : Hp} {v : V} {l : List Int} (h : LI H v l) (s : ExtN H H') : LI H' v l := let ⟨a, e, z⟩ := h; ⟨a, e, s _ _ z (fun _ q => nomatch q)⟩
theorem li_mut {H : Hp} {D : Addr} {ws : List V} {v : V} {l : List Int} (h : LI H v l) (n : v ≠ .ref D) : LI (L2.upd H D (.lst ws)) v l := LI.upd h n
/-! ### the list at a place -/
def kAt (H : Hp) : V → List Int
  | .ref a => match H a with
    | some (.lst us) => us.map fun u => match u with
      | .int i => i
      | _ => 0
    | _ => []
  | _ => []
theorem LI.k {H : Hp} {v : V} {l : List Int} (h : LI H v l) : kAt H v = l := by
  obtain ⟨a, rfl, e⟩ := h
  unfold kAt
  simp only [e]
  rw [List.map_map]
  exact List.map_id'' (fun _ => rfl) _
theorem par_k {H : Hp} : ∀ {xs : List V} {ol : List (List Int)}, Paired (LI H) xs ol → xs.map (kAt H) = ol
  | _, _, .nil => rfl
  | _, _, .cons h t => by rw [List.map_cons, h.k, par_k t]
theorem par_of {α β : Type} {R : α → β → Prop} {f : α → β} : ∀ {xs : List α}, (∀ x ∈ xs, R x (f x)) → Paired R xs (xs.map f)
  | [], _ => .nil
  | x :: xs, h => .cons (h x (List.mem_cons_self ..)) (par_of fun y m => h y (List.mem_cons_of_mem _ m))
theorem asc_min {l : List Int} (ne : l ≠ []) (a : Asc l) : mnI l = hdL l := by
  cases l with
  | nil => exact absurd rfl ne
  | cons x t =>
    refine (mnI_eq (l := x :: t) (m := x) (List.mem_cons_self ..) fun y hy => ?_).symm
    rcases List.mem_cons.mp hy with rfl | hy
    · exact Int.le_refl _
    · exact (List.pairwise_cons.mp a).1 y hy
theorem asc_uniq {l : List Int} (a : Asc l) {k : List Int} (p : k.Perm l) (b : k.Pairwise (· ≤ ·)) : k = l := sorted_eqI p b a
/-- sorted by first bars, the lots of a parting stand as they stand -/
theorem sort_lots {H : Hp} {m : Nat} {xs ys : List V} {ol : List (List Int)} (c : Cn m ol) (px : Paired (LI H) xs ol) (pm : ys.Perm xs) (pw : ys.Pairwise fun u v => mnI (kAt H u) ≤ mnI (kAt H v)) : Paired (LI H) ys ol := by
  have e := par_k px
  have lx : ∀ x ∈ xs, LI H x (kAt H x) := fun x hx => by
    obtain ⟨l, _, h⟩ := par_mem px hx
    rw [h.k]
    exact h
  have p2 : (ys.map (kAt H)).Perm ol := by rw [← e]; exact pm.map _
  have q : ys.map (kAt H) = ol := c.uniq p2 (List.pairwise_map.mpr (pw.imp_of_mem fun {u v} hu hv h => by
    have mu := p2.mem_iff.mp (List.mem_map.mpr ⟨u, hu, rfl⟩)
    have mv := p2.mem_iff.mp (List.mem_map.mpr ⟨v, hv, rfl⟩)
    rw [asc_min (c.ne _ mu) (c.asc _ mu), asc_min (c.ne _ mv) (c.asc _ mv)] at h
    exact h))
  rw [← q]
  exact par_of fun y hy => lx y (pm.mem_iff.mp hy)
theorem inI_has (z : Int) (ns : List Int) : inV (.int z) (ns.map V.int) = ns.contains z := by
  unfold inV
  rw [List.any_map]
  show (ns.any fun y => decide (y = z)) = _
  induction ns with
  | nil => rfl
  | cons a l ih =>
    rw [List.any_cons, ih, List.contains_cons]
    congr 1
    by_cases e : a = z
    · rw [e]; simp
    · rw [decide_eq_false e, beq_eq_false_iff_ne.mpr (Ne.symm e)]
theorem iif12 {K : PySem.W.Frag} {σ : L2.St} {H : Hp} {R : It → Hp → Prop} (d : Bool) (k : ∀ tp H', Same H H' → H' tp = some (.lst ((if d = true then [1] else [1, -1] : List Int).map V.int)) → R (Itl K tp) H') :
    if d = true then iList K (tLst (tCons (tC (.int 1)) tNil)) σ H R else iList K (tLst (tCons (tC (.int 1)) (tCons (tUn (rU fun i => .int (-i)) (tC (.int 1))) tNil))) σ H R := by
  cases d with
  | true =>
    rw [if_pos rfl]
    exact ⟨(by show 1 ≤ sizeLine; decide), fun tp ntp => ⟨tp, rfl, ⟨_, SqL.of upd_same⟩, k tp _ ((Same.refl H).new ntp) upd_same⟩⟩
  | false =>
    rw [if_neg Bool.false_ne_true]
    exact ⟨_, rfl, (by show 2 ≤ sizeLine; decide), fun tp ntp => ⟨tp, rfl, ⟨_, SqL.of upd_same⟩, k tp _ ((Same.refl H).new ntp) upd_same⟩⟩
theorem rows_len (F : List Int) (j : Nat) (h : j ≤ 8) : (rowsF F j).length ≤ 256 := by
  rw [rows_eq, List.length_map, sgnR_length]
  have l : (restF F j).length ≤ j := by
    unfold restF
    refine Nat.le_trans (List.length_filter_le ..) ?_
    rw [rngI_len]
    exact Nat.le_refl _
  exact Nat.pow_le_pow_right (n := 2) (by decide) (Nat.le_trans l h)
section
variable {P : Program} {w : World} {K : PySem.W.Frag} {mg : Str → Option Value} {base : Heap}
/-! ### _law_choices -/
def spCO (K : PySem.W.Frag) (T : List (Addr × Str)) : Sp := fun vs H Q _ => ∃ (a : Addr) (xs : List V) (ol : List (List Int)) (m : Nat), vs = [.ref a] ∧ H a = some (.lst xs) ∧ Paired (LI H) xs ol ∧ Cn m ol ∧ 1 ≤ m ∧ m ≤ 8 ∧ Tabs T H ∧
  ∀ p ys H', ExtN H H' → Tabs T H' → H p = none → H' p = some (.lst ys) → Paired (LWyN (fun a => ∃ o, H a = some o ∧ ∀ ps, o ≠ .tbl ps) H') ys (waysC m ol) → Q (.ref p) H'
abbrev nCO : List Str := ["_law_lots", "_law_rows", "_law_many", "_law_firsts", "_law_bar", "_law_longer", "_law_row", "_law_sign", "_law_lot"]
theorem scCO : FnScope nCO ["_law_lots"] (defScope sLwChoices) := ⟨rfl, rfl, rfl, by decide +kernel, rfl, by decide +kernel, by decide +kernel⟩
def scCO1 : Scope := { kind := .function, names := [(Str.ofString ".0", .local), (Str.ofString "_law_row", .cell), (Str.ofString "sorted", .globalImplicit), (Str.ofString "_law_lots", .free)], isGenerator := false, isCoroutine := false }
def scCO2 : Scope := { kind := .function, names := [(Str.ofString ".0", .local), (Str.ofString "_law_lot", .local), (Str.ofString "sorted", .globalImplicit), (Str.ofString "_law_row", .free)], isGenerator := false, isCoroutine := false }
abbrev teD2 (K : PySem.W.Frag) : TE := tTup (tCons (tVar 4) (tCons (tOp (rIxL K) (tVar 6) (tVar 4)) tNil))
abbrev teD1 (K : PySem.W.Frag) : TE := tLc (iList K (tCB (rSortedI K) (tCons (tVar 8) tNil))) (gName 4) tYes (teD2 K) [4]
theorem ok_co {cd P0 P1 f : Addr} {fd : FuncData} (F : FunC K "_law_choices" "_law_choices" sLwChoices f fd cd) (T : Bi mg) (B2 : Bi2 mg) (TB : TabB base mg cd P0) (hmT : (P0, qCo) ∈ T2 P0 P1) (hu : ∀ p ∈ T2 P0 P1, p.1 = P0 → p.2 = qCo) : FnOk P w K mg base CX0 1 f fd ["_law_lots"] (spCO K (T2 P0 P1)) := by
  refine F.ok scCO (fun vs H Q E h => ?_) (fun A outer s H vs Q E hr h => ?_)
  · obtain ⟨a, xs, ol, m, rfl, _⟩ := h
    rfl
  · have nd := scCO.nd
    refine ⟨_, pss_cons (ps_par (i := 1) (j := 2) (by rfl) nd rfl rfl (by decide) rfl rfl (pa_cons (pe_lst (pa_cons (pe_lst pa_nil) pa_nil)) (pa_cons (pe_callB (cr_sum rfl) (by rfl) T.sum (by decide +kernel) (pa_cons (pe_lc (own := [("_law_lot", 8)]) (g := gName 8) (tt := tYes) (te := tCB (rLenS K) (tCons (tVar 8) tNil)) rfl nd (pi_list (pv 0)) (blkOk_by (N := nCO) (sc := defScope sLwChoices) (by decide +kernel)) (fun _ _ _ _ _ => pg_name (i := 8) nd rfl (Or.inl rfl)) (fun _ _ _ _ _ => pts_nil) (fun _ _ _ _ _ => pe_callB (r := rLenS K) call_len_seq (by rfl) T.len PySem.boot_len (pa_cons (pv 8) pa_nil))) pa_nil)) pa_nil)) (by rfl))
      (pss_cons (ps_setLc (i := 3) (own := [("_law_lot", 8)]) (g := gName 8) (tt := tYes) (te := tCB (rMin K) (tCons (tVar 8) tNil)) rfl nd rfl rfl (sw_true rfl rfl rfl (by decide +kernel)) (pi_list (pv 0)) (blkOk_by (N := nCO) (sc := defScope sLwChoices) (by decide +kernel)) (fun _ _ _ _ _ => pg_name (i := 8) nd rfl (Or.inl rfl)) (fun _ _ _ _ _ => pts_nil) (fun _ _ _ _ _ => pe_callB (cr_min rfl) (by rfl) B2.min (by decide +kernel) (pa_cons (pv 8) pa_nil)))
      (pss_cons (ps_for PassesOwn.never rfl (pi_range1 (by rfl) T.range (pa_cons (pv 2) pa_nil)) (pg_name (i := 4) nd rfl (Or.inl rfl))
        (pss_cons (ps_set (i := 5) nd rfl (Or.inl rfl) (pe_lst pa_nil))
        (pss_cons (ps_for PassesOwn.never rfl (pi_list (pv 1)) (pg_name (i := 6) nd rfl (Or.inr rfl))
          (pss_one (ps_expr (pe_bm PySem.F.plainAttrs_list PySem.F.slot_list_extend PySem.F.type_list_extend mt_extend (pv 5) (pa_cons (pe_lc (own := [("_law_sign", 7)]) (g := gName 7) (tt := tYes) (te := tOp rCat (tVar 6) (tLst (tCons (tVar 7) tNil))) rfl nd (pi_ifExp (pt_cmpR op_in_seq (pv 4) (pv 3) (by rfl)) (pi_list (pe_lst (pa_cons pe_int pa_nil))) (pi_list (pe_lst (pa_cons pe_int (pa_cons (pe_un un_neg pe_int) pa_nil))))) (blkOk_by (N := nCO) (sc := defScope sLwChoices) (by decide +kernel)) (fun _ _ _ _ _ => pg_name (i := 7) nd rfl (Or.inl rfl)) (fun _ _ _ _ _ => pts_nil) (fun _ _ _ _ _ => pe_op op_cat (pv 6) (pe_lst (pa_cons (pv 7) pa_nil)))) pa_nil)))))
        (pss_one (ps_set (i := 1) nd rfl (Or.inl rfl) (pv 5))))))
      (pss_one (ps_ret (pe_lc (own := [("_law_row", 6)]) (g := gName 6) (tt := tYes) (te := tLc (iList K (tSortMin K (T2 P0 P1) (tVar 0))) (gName 8) tYes (teD1 K) [8]) rfl nd (pi_list (pv 1)) (blkOk_by (N := nCO) (sc := defScope sLwChoices) (by decide +kernel)) (fun _ _ _ _ _ => pg_name (i := 6) nd rfl (Or.inr rfl)) (fun _ _ _ _ _ => pts_nil)
        (fun _ _ _ _ _ => pe_lc (own := [("_law_lot", 8)]) (g := gName 8) (tt := tYes) (te := teD1 K) rfl nd (pi_list (pe_sortMin rfl hr.depth hr.units (by rfl) T.sorted B2.min (pv 0) TB rfl hmT hu rfl rfl rfl rfl (by decide +kernel) rfl rfl rfl (fun _ _ _ _ _ => rfl))) (blkOk_by (N := nCO) (sc := relS scCO1 (defScope sLwChoices)) (by decide +kernel)) (fun _ _ _ _ _ => pg_name (i := 8) nd rfl (Or.inl rfl)) (fun _ _ _ _ _ => pts_nil)
          (fun _ _ _ _ _ => pe_lc (own := [("_law_bar", 4)]) (g := gName 4) (tt := tYes) (te := teD2 K) rfl nd (pi_list (pe_callB cr_sortedI (by rfl) T.sorted (by decide +kernel) (pa_cons (pv 8) pa_nil))) (blkOk_by (N := nCO) (sc := relS scCO2 (relS scCO1 (defScope sLwChoices))) (by decide +kernel)) (fun _ _ _ _ _ => pg_name (i := 4) nd rfl (Or.inl rfl)) (fun _ _ _ _ _ => pts_nil)
            (fun _ _ _ _ _ => pe_tup (pa_cons (pv 4) (pa_cons (pe_ix (r := rIxL K) ix_list (pv 6) (pv 4) (fun _ _ => rfl)) pa_nil)))))))))), ?_⟩
    obtain ⟨a, xs, ol, m, rfl, ha, px, c, m1, m8, tab, k⟩ := h
    have xl : xs.length = ol.length := par_len px
    have cl := c.len
    -- [[]]
    refine ⟨(by show 0 ≤ sizeLine; decide), fun r0 nr0 => ⟨(by show 1 ≤ sizeLine; decide), fun rp nrp => ?_⟩⟩
    have s1 : Same H (upd H r0 (.lst [])) := (Same.refl H).new nr0
    have h0 : upd H r0 (.lst []) r0 = some (.lst []) := upd_same
    generalize upd H r0 (.lst []) = H1 at s1 h0 nrp ⊢
    have s2 : Same H1 (upd H1 rp (.lst [.ref r0])) := (Same.refl H1).new nrp
    have hrp : upd H1 rp (.lst [.ref r0]) rp = some (.lst [.ref r0]) := upd_same
    generalize upd H1 rp (.lst [.ref r0]) = H2 at s2 hrp ⊢
    have h02 := s2 _ _ h0
    have s02 := s1.trans s2
    -- how many
    refine ⟨_, rfl, a, rfl, ⟨_, SqL.of (s02 _ _ ha)⟩, fun D hD => ?_⟩
    refine lc_list (K := K) (a := a) (xs := xs) (fun j H' => Same H2 H' ∧ H' D = some (.lst (((ol.take j).map fun l => (l.length : Int)).map V.int))) ⟨(Same.refl H2).new hD, upd_same⟩ (fun j H' _ q => SqL.of (q.1 _ _ (s02 _ _ ha))) ?_ ?_
    · rintro j y H' hj ⟨s3, h3⟩
      obtain ⟨l, hl, b, rfl, hb⟩ := par_get px hj
      refine ⟨rfl, _, rfl, b, _, rfl, .inl (SqL.of (s3 _ _ (s02 _ _ hb))), _, h3, ?_, s3.mut hD, ?_⟩
      · rw [List.length_map, List.length_map, List.length_take]
        exact sm (by omega)
      · rw [upd_same, ← take_snoc hl, List.map_append, List.map_append, List.length_map]
        rfl
    rintro H3 ⟨s3, h3⟩
    rw [xl, List.take_length] at h3
    refine ⟨D, _, rfl, SqL.of h3, ?_⟩
    have summ : (ol.map fun l => (l.length : Int)).sum = (m : Nat) := by
      have e : (ol.flatMap id).length = m := by rw [c.pm.length_eq, rngI_len]
      rw [← e]
      clear e h3 px xl k
      induction ol with
      | nil => rfl
      | cons l ol ih =>
        have ih' : ∀ L : List (List Int), (L.map fun l => (l.length : Int)).sum = ((L.flatMap id).length : Nat) := fun L => by
          induction L with
          | nil => rfl
          | cons x L ihL =>
            rw [List.map_cons, List.sum_cons, ihL, List.flatMap_cons, List.length_append]
            show (x.length : Int) + _ = ((x.length + _ : Nat) : Int)
            omega
        exact ih' (l :: ol)
    rw [summ]
    refine ⟨_, _, rfl, ?_⟩
    -- the first bars
    have s03 := s02.trans s3
    have ha3 := s03 _ _ ha
    refine ⟨_, rfl, a, rfl, ⟨_, SqL.of ha3⟩, fun DF hDF => ?_⟩
    refine lc_list (K := K) (a := a) (xs := xs) (fun j H' => Same H3 H' ∧ H' DF = some (.lst (((ol.take j).map hdL).map V.int))) ⟨(Same.refl H3).new hDF, upd_same⟩ (fun j H' _ q => SqL.of (q.1 _ _ ha3)) ?_ ?_
    · rintro j y H' hj ⟨s4, h4⟩
      obtain ⟨l, hl, b, rfl, hb⟩ := par_get px hj
      have lm := List.mem_of_getElem? hl
      refine ⟨rfl, _, rfl, b, l, rfl, SqL.of (s4 _ _ (s03 _ _ hb)), List.length_pos_iff.mpr (c.ne l lm), fun M hm hle => ?_⟩
      have eM : M = hdL l := (mnI_eq hm hle).trans (asc_min (c.ne l lm) (c.asc l lm))
      subst eM
      refine ⟨_, h4, ?_, s4.mut hDF, ?_⟩
      · rw [List.length_map, List.length_map, List.length_take]
        exact sm (by omega)
      · rw [upd_same, ← take_snoc hl, List.map_append, List.map_append]
        rfl
    rintro H4 ⟨s4, h4⟩
    rw [xl, List.take_length] at h4
    have s04 := s03.trans s4
    have s24 := s3.trans s4
    refine ⟨_, rfl, _, rfl, by omega, by omega, ?_⟩
    refine for_range (lo := 0) (n := ((m : Nat) : Int).toNat) (fun i σ H' => ∃ (rl : Addr) (rs : List V) (z4 z5 z6 : Option V), σ = [some (.ref a), some (.ref rl), some (.int (m : Nat)), some (.ref DF), z4, z5, z6, none, none] ∧ Same H H' ∧ H' DF = some (.lst ((ol.map hdL).map V.int)) ∧ H' rl = some (.lst rs) ∧ Paired (LI H') rs (rowsF (ol.map hdL) i))
      ⟨rp, [.ref r0], none, none, none, rfl, s04, h4, s24 _ _ hrp, .cons ⟨r0, rfl, s24 _ _ h02⟩ .nil⟩ ?_ ?_
    · rintro i σ H5 hi ⟨rl, rs, z4, z5, z6, rfl, s5, hF5, h5, prs⟩
      have him : i < m := by omega
      have rsl : rs.length ≤ 256 := by
        rw [par_len prs]
        exact rows_len _ _ (by omega)
      rw [Int.zero_add]
      refine ⟨(by show 0 ≤ sizeLine; decide), fun g ng => ?_⟩
      have fg : H g = none := s5.free ng
      have s6 : Same H5 (upd H5 g (.lst [])) := (Same.refl H5).new ng
      have hg : upd H5 g (.lst []) g = some (.lst []) := upd_same
      generalize upd H5 g (.lst []) = H6 at s6 hg ⊢
      refine ⟨_, rfl, rl, rfl, ⟨_, SqL.of (s6 _ _ h5)⟩, ?_⟩
      refine for_list (K := K) (a := rl) (xs := rs) (fun j σ H' => ∃ (us : List V) (z6 : Option V), σ = [some (.ref a), some (.ref rl), some (.int (m : Nat)), some (.ref DF), some (.int (i : Nat)), some (.ref g), z6, none, none] ∧ Same H5 H' ∧ H' g = some (.lst us) ∧ Paired (fun v l => LI H' v l ∧ v ≠ .ref g) us (((rowsF (ol.map hdL) i).take j).flatMap fun r => (if (ol.map hdL).contains (i : Int) = true then [1] else [1, -1]).map fun s => r ++ [s]))
        ⟨[], _, rfl, s6, hg, .nil⟩ (fun j σ H' _ ⟨_, _, _, q, _⟩ => SqL.of (q _ _ h5)) ?_ ?_
      · rintro j x σ H7 hj ⟨us, z6, rfl, s7, hg7, pus⟩
        obtain ⟨r, hr', rr, rfl, hrr⟩ := par_get prs hj
        have hjl : j < rs.length := (List.getElem?_eq_some_iff.mp hj).1
        have rl8 : r.length = i := by
          have mm := List.mem_of_getElem? hr'
          rw [rows_eq] at mm
          obtain ⟨t, _, rfl⟩ := List.mem_map.mp mm
          exact fullF_len _ _ _
        have usl : us.length ≤ 512 := by
          rw [par_len pus]
          have z : ∀ L : List (List Int), (L.flatMap fun r => (if (ol.map hdL).contains (i : Int) = true then [1] else [1, -1]).map fun s => r ++ [s]).length ≤ 2 * L.length := fun L => by
            induction L with
            | nil => exact Nat.le_refl _
            | cons x L ih =>
              rw [List.flatMap_cons, List.length_append, List.length_cons, List.length_map]
              have : (if (ol.map hdL).contains (i : Int) = true then [1] else [1, -1] : List Int).length ≤ 2 := by split <;> decide
              omega
          have z2 := z ((rowsF (ol.map hdL) i).take j)
          rw [List.length_take] at z2
          omega
        refine ⟨_, rfl, .inl ⟨rfl, _, SqL.of hg7⟩, _, rfl, _, rfl, DF, _, rfl, .inl (SqL.of (s7 _ _ hF5)), rfl, flat_ints _, _, rfl, ?_⟩
        show (if (inV (.int (i : Int)) ((ol.map hdL).map V.int)) = true then _ else _)
        rw [inI_has]
        refine iif12 _ fun tp H8 s8 htp => fun D8 hD8 => ?_
        have s58 := s7.trans s8
        generalize hS : (if (ol.map hdL).contains (i : Int) = true then [1] else [1, -1] : List Int) = S at htp pus ⊢
        have Sl : S.length ≤ 2 := by rw [← hS]; split <;> decide
        have hrr8 := s58 _ _ hrr
        refine lc_list (K := K) (a := tp) (xs := S.map V.int) (fun n H' => Same H8 H' ∧ ∃ ws, H' D8 = some (.lst ws) ∧ Paired (fun v l => LI H' v l ∧ v ≠ .ref D8 ∧ ∀ q, v = .ref q → H8 q = none) ws ((S.take n).map fun s => r ++ [s])) ⟨(Same.refl H8).new hD8, [], upd_same, .nil⟩ (fun n H' _ q => SqL.of (q.1 _ _ htp)) ?_ ?_
        · rintro n y H9 hn ⟨s9, ws, h9, pws⟩
          obtain ⟨sg, hsg, rfl⟩ := int_at hn
          have nl : n < S.length := (List.getElem?_eq_some_iff.mp hsg).1
          refine ⟨rfl, _, rfl, _, rfl, (by show 1 ≤ sizeLine; decide), fun b nb => ?_⟩
          have s10 : Same H9 (upd H9 b (.lst [.int sg])) := (Same.refl H9).new nb
          have hb : upd H9 b (.lst [.int sg]) b = some (.lst [.int sg]) := upd_same
          generalize upd H9 b (.lst [.int sg]) = H10 at s10 hb ⊢
          refine ⟨rr, b, _, _, rfl, rfl, (s9.trans s10) _ _ hrr8, hb, (by rw [List.length_map]; show r.length + 1 ≤ sizeLine; exact Nat.le_of_lt (sm (by omega))), fun q nq => ?_⟩
          have s11 : Same H10 (upd H10 q (.lst (r.map V.int ++ [.int sg]))) := (Same.refl H10).new nq
          have hq : upd H10 q (.lst (r.map V.int ++ [.int sg])) q = some (.lst (r.map V.int ++ [.int sg])) := upd_same
          generalize upd H10 q (.lst (r.map V.int ++ [.int sg])) = H11 at s11 hq ⊢
          have s911 := s10.trans s11
          have h11 := s911 _ _ h9
          have qD : q ≠ D8 := fun z => by rw [z, s10 _ _ h9] at nq; cases nq
          have qf : H8 q = none := (s9.trans s10).free nq
          refine ⟨ws, h11, ?_, (s9.trans s911).mut hD8, _, upd_same, ?_⟩
          · rw [par_len pws, List.length_map, List.length_take]
            exact sm (by omega)
          · rw [← take_snoc hsg, List.map_append]
            refine par_app (par_imp (fun v l ⟨z1, z2, z3⟩ => ⟨li_mut (z1.same s911) z2, z2, z3⟩) pws) (.cons ⟨li_mut ⟨q, rfl, by rw [hq, List.map_append]; rfl⟩ (fun z => qD (V.ref.inj z)), fun z => qD (V.ref.inj z), fun q' e => by rw [← V.ref.inj e]; exact qf⟩ .nil)
        · rintro H9 ⟨s9, ws, h9, pws⟩
          rw [List.length_map, List.take_length] at pws
          have hg9 := (s8.trans s9) _ _ hg7
          have gD : g ≠ D8 := fun z => by rw [← z, s8 _ _ hg7] at hD8; cases hD8
          refine ⟨g, D8, us, ws, rfl, rfl, hg9, h9, ?_, ?_⟩
          · rw [par_len pws, List.length_map]
            exact Nat.le_of_lt (sm (by omega))
          · refine ⟨_, _, rfl, (s58.trans s9).mut ng, upd_same, ?_⟩
            rw [← take_snoc hr', List.flatMap_append]
            refine par_app (par_imp (fun v l ⟨z1, z2⟩ => ⟨li_mut (z1.same (s8.trans s9)) z2, z2⟩) pus) ?_
            rw [List.flatMap_cons, List.flatMap_nil, List.append_nil]
            refine par_imp (fun v l ⟨z1, z2, z3⟩ => ?_) pws
            have vg : v ≠ .ref g := fun z => by
              have := z3 g z
              rw [s8 _ _ hg7] at this
              cases this
            exact ⟨li_mut z1 vg, vg⟩
      · rintro σ H7 ⟨us, z6, rfl, s7, hg7, pus⟩
        rw [par_len prs, List.take_length] at pus
        exact ⟨_, rfl, g, us, _, _, _, rfl, s5.trans s7, s7 _ _ hF5, hg7, par_imp (fun _ _ z => z.1) pus⟩
    · rintro σ H5 ⟨rl, rs, z4, z5, z6, rfl, s5, hF5, h5, prs⟩
      rw [Int.toNat_natCast] at prs
      have rsl : rs.length ≤ 256 := by
        rw [par_len prs]
        exact rows_len _ _ m8
      rw [rows_eq] at prs
      have lt := c.part m1 m8
      have tab5 := tab.ext s5
      have ha5 := s5 _ _ ha
      have px5 := par_imp (fun _ _ z => LI.same z s5) px
      -- the strands of each row
      refine ⟨_, rfl, rl, rfl, ⟨_, SqL.of h5⟩, fun D6 hD6 => ?_⟩
      refine lc_list (K := K) (a := rl) (xs := rs) (fun j H' => ExtN H5 H' ∧ Tabs (T2 P0 P1) H' ∧ ∃ us, H' D6 = some (.lst us) ∧ Paired (LWyN (fun a => a = D6 ∨ ∃ o, H5 a = some o ∧ ∀ ps, o ≠ .tbl ps) H') us ((waysC m ol).take j)) ⟨ExtN.of ((Same.refl H5).new hD6), tab5.ext ((Same.refl H5).new hD6), [], upd_same, .nil⟩ (fun j H' _ q => SqL.of (q.1 _ _ h5 (fun _ z => nomatch z))) ?_ ?_
      · rintro j x H6 hj ⟨e6, tab6, us, h6, pu⟩
        have hjl : j < rs.length := (List.getElem?_eq_some_iff.mp hj).1
        obtain ⟨st, hst, rr, rfl, hrr⟩ := par_get prs hj
        rw [List.getElem?_map] at hst
        obtain ⟨r, hr', rfl⟩ : ∃ r, (sgnR (restF (ol.map hdL) m).length)[j]? = some r ∧ fullF (ol.map hdL) m r = st := by
          cases q : (sgnR (restF (ol.map hdL) m).length)[j]? with
          | none => rw [q] at hst; cases hst
          | some r => rw [q] at hst; exact ⟨r, rfl, Option.some.inj hst⟩
        have hrm := List.mem_of_getElem? hr'
        have rlen := (sgnR_mem.mp hrm).1
        have hw0 : (waysC m ol)[j]? = some (wayG ol (rowG ol (restF (ol.map hdL) m) r)) := by
          unfold waysC waysG
          rw [List.getElem?_map, hr']
          rfl
        have ha6 := e6 _ _ ha5 (fun _ z => nomatch z)
        have px6 := par_imp (fun _ _ z => LI.ext z e6) px5
        refine ⟨rfl, _, rfl, a, xs, kAt H6, rfl, SqL.of ha6, fun x hx => ?_, tab6, fun H7 p7 ys e7 tab7 pm pw np7 => ?_⟩
        · obtain ⟨l, hl, z⟩ := par_mem px6 hx
          rw [z.k]
          obtain ⟨t, e1, e2⟩ := z
          exact ⟨t, e1, e2, c.ne l hl⟩
        have py := sort_lots c px6 pm pw
        have e8 : ExtN H7 (upd H7 p7 (.lst ys)) := ExtN.of ((Same.refl H7).new np7)
        have tab8 : Tabs (T2 P0 P1) (upd H7 p7 (.lst ys)) := tab7.ext ((Same.refl H7).new np7)
        have hp8 : upd H7 p7 (.lst ys) p7 = some (.lst ys) := upd_same
        generalize upd H7 p7 (.lst ys) = H8 at e8 tab8 hp8 ⊢
        have e68 := e7.trans e8
        have py8 := par_imp (fun _ _ z => LI.ext z e68) py
        have yl := par_len py8
        have h68 := e68 _ _ h6 (fun _ z => nomatch z)
        have hrr8 := (e6.trans e68) _ _ hrr (fun _ z => nomatch z)
        refine ⟨p7, rfl, ⟨_, SqL.of hp8⟩, fun D7 hD7 => ?_⟩
        have n67 : D7 ≠ D6 := fun z => by rw [z, h68] at hD7; cases hD7
        have tl8 : ol.length ≤ 8 := lt.le
        refine lc_list (K := K) (a := p7) (xs := ys) (fun i H' => Same H8 H' ∧ ∃ vs, H' D7 = some (.lst vs) ∧ Paired (LStN (fun a => (a = D6 ∨ ∃ o, H5 a = some o ∧ ∀ ps, o ≠ .tbl ps) ∨ a = D7) H') vs ((wayG ol (rowG ol (restF (ol.map hdL) m) r)).take i)) ⟨(Same.refl H8).new hD7, [], upd_same, .nil⟩ (fun i H' _ q => q.1.seq (SqL.of hp8)) ?_ ?_
        · rintro i y H9 hi ⟨s9, vs, h9, pvs⟩
          obtain ⟨l, hl, b, rfl, hb⟩ := par_get py8 hi
          have hst2 : (wayG ol (rowG ol (restF (ol.map hdL) m) r))[i]? = some (l.map fun b => (b, sgG (rowG ol (restF (ol.map hdL) m) r) b)) := by
            unfold wayG
            rw [List.getElem?_map, hl]
            rfl
          have lm := List.mem_of_getElem? hl
          have st8 := lt.l8 l lm
          have hb9 := s9 _ _ hb
          refine ⟨rfl, _, rfl, b, l, rfl, SqL.of hb9, fun l' q' pm' od' nq' => ?_⟩
          have el : l' = l := asc_uniq (c.asc l lm) pm' od'
          subst el
          have s10 : Same H9 (upd H9 q' (.lst (l'.map V.int))) := (Same.refl H9).new nq'
          have hq : upd H9 q' (.lst (l'.map V.int)) q' = some (.lst (l'.map V.int)) := upd_same
          generalize upd H9 q' (.lst (l'.map V.int)) = H10 at s10 hq ⊢
          refine ⟨q', rfl, ⟨_, SqL.of hq⟩, fun D8 hD8 => ?_⟩
          have h910 := s10 _ _ h9
          have n78 : D8 ≠ D7 := fun z => by rw [z, h910] at hD8; cases hD8
          have n68 : D8 ≠ D6 := fun z => by rw [z, (s9.trans s10) _ _ h68] at hD8; cases hD8
          refine lc_list (K := K) (a := q') (xs := l'.map V.int) (fun n H' => Same H10 H' ∧ ∃ ws, H' D8 = some (.lst ws) ∧ Paired (SPat H') ws ((l'.map fun b => (b, sgG (rowG ol (restF (ol.map hdL) m) r) b)).take n)) ⟨(Same.refl H10).new hD8, [], upd_same, .nil⟩ (fun n H' _ q => SqL.of (q.1 _ _ hq)) ?_ ?_
          · rintro n z H11 hn ⟨s11, ws, h11, pws⟩
            obtain ⟨zz, hz, rfl⟩ := int_at hn
            have bz := c.mem lm (List.mem_of_getElem? hz)
            have sg := sg_full c rlen bz
            have nl : n < l'.length := (List.getElem?_eq_some_iff.mp hz).1
            refine ⟨rfl, _, rfl, _, rfl, _, rfl, rr, _, zz, _, rfl, rfl, SqL.of (((s9.trans s10).trans s11) _ _ hrr8), at_of (j := zz.toNat) (by omega) (by rw [List.getElem?_map, sg]; rfl), (by show 2 ≤ sizeLine; decide), fun tt ntt => ?_⟩
            have hD8' : upd H11 tt (.tup [.int zz, .int (sgG (rowG ol (restF (ol.map hdL) m) r) zz)]) D8 = some (.lst ws) := by rw [upd_ne (ne_of_none h11 ntt)]; exact h11
            refine ⟨ws, hD8', ?_, (s11.new ntt).mut hD8, _, upd_same, ?_⟩
            · rw [par_len pws, List.length_take, List.length_map]
              exact sm (by omega)
            · rw [← take_snoc (z := (zz, sgG (rowG ol (restF (ol.map hdL) m) r) zz)) (by rw [List.getElem?_map, hz]; rfl)]
              have sp : SPat (upd H11 tt (.tup [.int zz, .int (sgG (rowG ol (restF (ol.map hdL) m) r) zz)])) (.ref tt) (zz, sgG (rowG ol (restF (ol.map hdL) m) r) zz) := ⟨tt, rfl, upd_same⟩
              exact par_app (par_imp (fun _ _ z => (z.same ((Same.refl H11).new ntt)).mut hD8') pws) (.cons (sp.mut hD8') .nil)
          · rintro H11 ⟨s11, ws, h11, pws⟩
            rw [show (l'.map V.int).length = (l'.map fun b => (b, sgG (rowG ol (restF (ol.map hdL) m) r) b)).length by rw [List.length_map, List.length_map], List.take_length] at pws
            have h711 := s11 _ _ h910
            refine ⟨vs, h711, ?_, ((s9.trans s10).trans s11).mut hD7, _, upd_same, ?_⟩
            · rw [par_len pvs, List.length_take]
              exact sm (by unfold wayG; rw [List.length_map]; omega)
            · rw [← take_snoc hst2]
              have f8 : ∀ o, H5 D8 = some o → (∀ ps, o ≠ .tbl ps) → False := fun o q t => by
                have := (s9.trans s10) _ _ ((e6.trans e68) _ _ q t)
                rw [hD8] at this
                cases this
              have sN : LStN (fun a => (a = D6 ∨ ∃ o, H5 a = some o ∧ ∀ ps, o ≠ .tbl ps) ∨ a = D7) H11 (.ref D8) (l'.map fun b => (b, sgG (rowG ol (restF (ol.map hdL) m) r) b)) := ⟨D8, ws, rfl, fun q => q.elim (fun q => q.elim n68 fun ⟨o, q, t⟩ => f8 o q t) n78, h11, pws⟩
              exact par_app (par_imp (fun _ _ z => (z.same (s10.trans s11)).mut (.inr rfl) h711) pvs) (.cons (sN.mut (.inr rfl) h711) .nil)
        · rintro H9 ⟨s9, vs, h9, pvs⟩
          rw [show ys.length = (wayG ol (rowG ol (restF (ol.map hdL) m) r)).length by unfold wayG; rw [yl, List.length_map], List.take_length] at pvs
          have h69 := s9 _ _ h68
          refine ⟨us, h69, ?_, extn_mut ((e6.trans e68).trans (ExtN.of s9)) hD6, tabs_mut (tab8.ext s9) h69, _, upd_same, ?_⟩
          · rw [par_len pu, List.length_take]
            exact sm (by omega)
          · rw [← take_snoc hw0]
            have f7 : ∀ o, H5 D7 = some o → (∀ ps, o ≠ .tbl ps) → False := fun o q t => by
              have := (e6.trans e68) _ _ q t
              rw [hD7] at this
              cases this
            have wN : LWyN (fun a => a = D6 ∨ ∃ o, H5 a = some o ∧ ∀ ps, o ≠ .tbl ps) H9 (.ref D7) (wayG ol (rowG ol (restF (ol.map hdL) m) r)) := ⟨D7, vs, rfl, fun q => q.elim n67 fun ⟨o, q, t⟩ => f7 o q t, h9, par_imp (fun _ _ z => z.imp fun a e => .inl e) pvs⟩
            exact par_app (par_imp (fun _ _ z => ((z.ext e68).same s9).mut (.inl rfl) h69) pu) (.cons (wN.mut (.inl rfl) h69) .nil)
      · rintro H6 ⟨e6, tab6, us, h6, pu⟩
        have wl : rs.length = (waysC m ol).length := by
          unfold waysC waysG
          rw [par_len prs, List.length_map, List.length_map]
        rw [wl, List.take_length] at pu
        exact k D6 us H6 ((ExtN.of s5).trans e6) tab6 (s5.free hD6) h6 (par_imp (fun _ _ z => z.imp fun a ⟨o, e, t⟩ => .inr ⟨o, s5 _ _ e, t⟩) pu)
end
end K
namespace K
open PySem L2 Rg LamX
theorem filter_only {α : Type} {p : α → Bool} : ∀ {l : List α} {k : Nat} {x : α}, l[k]? = some x → (∀ (j : Nat) y, l[j]? = some y → (p y = true ↔ j = k)) → l.filter p = [x]
  | [], k, x, h, _ => by simp at h
  | a :: l, 0, x, h, n => by
    cases h
    rw [List.filter_cons_of_pos ((n 0 a rfl).mpr rfl), List.filter_eq_nil_iff.mpr fun y hy => ?_]
    intro z
    obtain ⟨j, hj⟩ := List.mem_iff_getElem?.mp hy
    have := (n (j + 1) y (by simpa using hj)).mp z
    omega
  | a :: l, k + 1, x, h, n => by
    have na : ¬ p a = true := fun z => by
      have := (n 0 a rfl).mp z
      omega
    rw [List.filter_cons_of_neg na]
    exact filter_only (by simpa using h) fun j y hj => by
      rw [n (j + 1) y (by simpa using hj)]
      omega
section
variable {m : Nat} {ol : List (List Int)}
theorem Cn.lt (c : Cn m ol) {l : List Int} (hl : l ∈ ol) : l.Pairwise (· < ·) := by
  have nd : (ol.flatMap id).Nodup := c.pm.nodup_iff.mpr (rngI_nd m)
  have nl : l.Nodup := by
    have s : l.Sublist (ol.flatMap id) := by
      have q : ∀ L : List (List Int), l ∈ L → l.Sublist (L.flatMap id) := fun L => by
        induction L with
        | nil => exact fun z => nomatch z
        | cons x L ih =>
          intro h
          rw [List.flatMap_cons]
          rcases List.mem_cons.mp h with rfl | h
          · exact List.sublist_append_left _ _
          · exact (ih h).trans (List.sublist_append_right _ _)
      exact q ol hl
    exact nd.sublist s
  exact (c.asc l hl |>.and nl).imp fun ⟨a, b⟩ => by
    have : _ ≠ _ := b
    omega
theorem sg_head (c : Cn m ol) {T r : List Int} (hl : l ∈ ol) : sgG (rowG ol T r) (hdL l) = 1 := by
  have ef : (fsG ol).map (·.1) = ol.map hdL := by
    unfold fsG
    rw [List.map_map]
    rfl
  have mm : hdL l ∈ ol.map hdL := List.mem_map.mpr ⟨l, hl, rfl⟩
  unfold rowG sgG
  rw [look_app (by rw [ef]; exact mm)]
  have q : ∀ (L : List (List Int)), hdL l ∈ L.map hdL → ((fsG L).lookup (hdL l)).getD 0 = 1 := fun L h => by
    induction L with
    | nil => cases h
    | cons x L ih =>
      show (List.lookup (hdL l) ((hdL x, (1 : Int)) :: fsG L)).getD 0 = 1
      rw [List.lookup_cons]
      by_cases e : (hdL l == hdL x) = true
      · rw [e]
        rfl
      · rw [show (hdL l == hdL x) = false from Bool.eq_false_iff.mpr e]
        rw [List.map_cons, List.mem_cons] at h
        exact ih (h.resolve_left fun z => e (beq_iff_eq.mpr z))
  exact q ol mm
theorem asS_id {l : List Int} {f : Int → Int} (ne : l ≠ []) (lt : l.Pairwise (· < ·)) (h1 : f (hdL l) = 1) : asS (l.map fun b => (b, f b)) = l.map fun b => (b, f b) := by
  have e : srtQ (l.map fun b => (b, f b)) = l.map fun b => (b, f b) := by
    refine (srtQ_uniq (List.Perm.refl _) (List.pairwise_map.mpr (lt.imp fun {a b} h => ?_))).symm
    rw [lexLe_iff]
    exact .inl h
  have s : sg0 (l.map fun b => (b, f b)) = 1 := by
    unfold sg0
    rw [e]
    cases l with
    | nil => exact absurd rfl ne
    | cons a t => exact h1
  unfold asS
  rw [e, s]
  have q : ∀ st : Strd, st.map (fun q => (q.1, q.2 * 1)) = st := fun st => by
    induction st with
    | nil => rfl
    | cons x st ih => rw [List.map_cons, ih, Int.mul_one]
  exact q _
theorem data_lt {a b : Strd} {x y : Int × Int} (h : x.1 < y.1) : PySem.W.dataLe false strdD (x :: a) (y :: b) = true := by
  show (!PySem.W.dataLt (strdD (y :: b)) (strdD (x :: a))) = true
  rw [Bool.not_eq_true']
  show PySem.W.dataLt (.tuple (pairD y :: b.map pairD)) (.tuple (pairD x :: a.map pairD)) = false
  rw [PySem.W.dataLt_tuple]
  rw [PySem.W.dataLt_cons (by simp [pairD, PySem.W.alike, PySem.W.alikeAll])]
  have ne : PyData.eqv (pairD y) (pairD x) = false := by
    unfold pairD
    simp only [PyData.eqv, PyData.eqvAll, Bool.and_true]
    rw [Bool.and_eq_false_iff]
    exact .inl (by simp; omega)
  rw [ne, if_neg Bool.false_ne_true]
  unfold pairD
  rw [PySem.W.dataLt_ii]
  exact decide_eq_false (by omega)
theorem due_way (c : Cn m ol) (T r : List Int) : dueW (wayG ol (rowG ol T r)) = wayG ol (rowG ol T r) := by
  have e : (wayG ol (rowG ol T r)).map asS = wayG ol (rowG ol T r) := by
    unfold wayG
    rw [List.map_map]
    refine List.map_congr_left fun l hl => ?_
    exact asS_id (c.ne l hl) (c.lt hl) (sg_head c hl)
  unfold dueW
  rw [e]
  refine (sort_uniq (fun _ _ => strd_toks) (List.Perm.refl _) ?_).symm
  unfold wayG
  refine List.pairwise_map.mpr ?_
  have h : ol.Pairwise fun a b => hdL a < hdL b := List.pairwise_map.mp c.hd
  refine h.imp_of_mem fun {a b} ha hb lt => ?_
  have na := c.ne a ha
  have nb := c.ne b hb
  cases a with
  | nil => exact absurd rfl na
  | cons x a =>
    cases b with
    | nil => exact absurd rfl nb
    | cons y b => exact data_lt lt
theorem way_lots (st : Strd) (ol : List (List Int)) : (wayG ol st).map lotI = ol := by
  unfold wayG lotI
  rw [List.map_map]
  refine (List.map_congr_left fun l _ => ?_).trans (List.map_id _)
  show (l.map fun b => (b, sgG st b)).map (·.1) = l
  rw [List.map_map]
  exact List.map_id'' (fun _ => rfl) _
theorem waysC_mem {w : List Strd} (h : w ∈ waysC m ol) : ∃ r, r.length = (restF (ol.map hdL) m).length ∧ r ∈ sgnR (restF (ol.map hdL) m).length ∧ w = wayG ol (rowG ol (restF (ol.map hdL) m) r) := by
  unfold waysC waysG at h
  obtain ⟨r, hr, rfl⟩ := List.mem_map.mp h
  exact ⟨r, (sgnR_mem.mp hr).1, hr, rfl⟩
theorem Cn.due (c : Cn m ol) {w : List Strd} (h : w ∈ waysC m ol) : dueW w = w := by
  obtain ⟨r, _, _, rfl⟩ := waysC_mem h
  exact due_way c _ r
theorem Cn.good (c : Cn m ol) (m1 : 1 ≤ m) (m8 : m ≤ 8) {w : List Strd} (h : w ∈ waysC m ol) : goodV m w := by
  obtain ⟨r, _, hr, rfl⟩ := waysC_mem h
  exact wayG_good (c.part m1 m8) c.pm hr
theorem Cn.lotsW (c : Cn m ol) {w : List Strd} (h : w ∈ waysC m ol) : w.map lotI = ol := by
  obtain ⟨r, _, _, rfl⟩ := waysC_mem h
  exact way_lots _ _
theorem waysC_len (c : Cn m ol) (m1 : 1 ≤ m) (m8 : m ≤ 8) : 1 ≤ (waysC m ol).length ∧ (waysC m ol).length ≤ 128 := by
  unfold waysC waysG
  rw [List.length_map, sgnR_length]
  have t := (c.part m1 m8).t7
  exact ⟨Nat.one_le_two_pow, Nat.pow_le_pow_right (n := 2) (by decide) t⟩
/-- the strands whose net is greater than all others together -/
def greats (ls : List Int) (w : List Strd) : List (List Int) := (w.filter fun st => decide ((netsW ls w).sum - absI (net ls st) < absI (net ls st))).map lotI
theorem greats_one {ls : List Int} (c : Cn m ol) {w : List Strd} (h : w ∈ waysC m ol) (nh : hadW ls w = false) : greats ls w = [greatOf ls w] := by
  unfold greats greatOf
  rw [c.due h]
  obtain ⟨lt, g⟩ := atN_lt nh
  have nl : (netsW ls w).length = w.length := by
    unfold netsW
    rw [List.length_map]
  have hk : w[atN (netsW ls w)]? = some (w.getD (atN (netsW ls w)) []) := getD_at (by omega)
  rw [filter_only hk fun j y hj => ?_]
  · rfl
  · rw [decide_eq_true_eq]
    refine at_only (netsW_nn ls w) nh ?_
    unfold netsW
    rw [List.getElem?_map, hj]
    rfl
end
end K
namespace K
open PySem L2 Rg LamX
open Evl (pss_cut)
theorem LG.ext {H H' : Hp} {v : V} {l : List Int} (h : LG H v l) (s : ExtN H H') : LG H' v l := let ⟨a, e, z⟩ := h; ⟨a, e, s _ _ z (fun _ q => nomatch q)⟩
section
variable {P : Program} {w : World} {K : PySem.W.Frag} {mg : Str → Option Value} {base : Heap}
/-! ### _law_great -/
def spGR (K : PySem.W.Frag) : Sp := fun vs H Q _ => ∃ (la : Addr) (v : V) (ls : List Int) (way : List Strd), vs = [.ref la, v] ∧ H la = some (.lst (ls.map V.int)) ∧ LWy H v way ∧ fitW ls.length way ∧
  ∀ p us H', Same H H' → H p = none → H' p = some (.lst us) → Paired (LG H') us (greats ls way) → Q (.ref p) H'
abbrev nGR : List Str := ["_law_lengths_here", "_law_strands", "_law_nets", "_law_strand", "_law_bar", "_law_sign", "_law_net", "_law_found"]
theorem scGR : FnScope nGR ["_law_lengths_here", "_law_strands"] (defScope sLwGreat) := ⟨rfl, rfl, rfl, by decide +kernel, rfl, by decide +kernel, by decide +kernel⟩
theorem ok_gr {f : Addr} {fd : FuncData} (F : Fun K "_law_great" "_law_great" sLwGreat f fd) (T : Bi mg) (B2 : Bi2 mg) : FnOk P w K mg base CX0 1 f fd ["_law_lengths_here", "_law_strands"] (spGR K) := by
  refine F.ok scGR (fun vs H Q E h => ?_) (fun cdv A outer s H vs Q E hr h => ?_)
  · obtain ⟨la, v, ls, way, rfl, _⟩ := h
    rfl
  · have nd := scGR.nd
    refine ⟨_, (pss_cons (ps_par (i := 2) (j := 7) (by rfl) nd rfl rfl (by decide) rfl rfl (pa_cons (pe_lc (own := [("_law_strand", 3)]) (g := (gName 3)) (tt := tYes) (te := teIH K)  rfl nd (pi_list (pv 1))
          (blkOk_by (N := nGR) (sc := defScope sLwGreat) (by decide +kernel)) (fun _ _ _ _ _ => (pg_name (i := 3) nd rfl (Or.inl rfl))) (fun _ _ _ _ _ => pts_nil) (fun _ _ _ _ _ => (pe_callB call_abs (by rfl) T.abs (by decide +kernel) (pa_cons (pe_callB (cr_sum rfl) (by rfl) T.sum (by decide +kernel) (pa_cons (pe_lc (own := [("_law_bar", 4), ("_law_sign", 5)]) (g := (gTup K 2 (gCons (gName 4) (gCons (gName 5) gNil)))) (tt := tYes) (te := tOp (rI CMul fun i j => .int (i * j)) (tOp (rIxL K) (tVar 0) (tVar 4)) (tVar 5))  rfl nd (pi_list (pv 3))
          (blkOk_by (N := nGR) (sc := relS scIHo (defScope sLwGreat)) (by decide +kernel)) (fun _ _ _ _ _ => (pg_tup rfl (pgs_cons (pg_name (i := 4) nd rfl (Or.inl rfl)) (pgs_cons (pg_name (i := 5) nd rfl (Or.inl rfl)) pgs_nil)))) (fun _ _ _ _ _ => pts_nil) (fun _ _ _ _ _ => (pe_op op_mul (pe_ix (r := rIxL K) ix_list (pv 0) (pv 4) (fun _ _ => rfl)) (pv 5)))) pa_nil)) pa_nil)))) (pa_cons (pe_lst pa_nil) pa_nil)) (by rfl))
      (pss_cons (ps_for PassesOwn.never rfl (pi_zip (by rfl) B2.zip (pa_cons (pv 2) (pa_cons (pv 1) pa_nil))) (pg_tup (by rfl) (pgs_cons (pg_name (i := 6) nd rfl (Or.inl rfl)) (pgs_cons (pg_name (i := 3) nd rfl (Or.inl rfl)) pgs_nil)))
        (pss_one (ps_if (pt_cmpR op_gt (pv 6) (pe_op op_sub (pe_callB (cr_sum rfl) (by rfl) T.sum (by decide +kernel) (pa_cons (pv 2) pa_nil)) (pv 6)) (nomark _))
          (pss_one (ps_expr (pe_bm PySem.F.plainAttrs_list PySem.F.slot_list_append PySem.F.type_list_append mt_append (pv 7) (pa_cons (pe_callTy (r := rTupOf K) call_tuple_of (by rfl) T.tuple (by decide +kernel) (pa_cons (pe_lc (own := [("_law_bar", 4), ("_law_sign", 5)]) (g := (gTup K 2 (gCons (gName 4) (gCons (gName 5) gNil)))) (tt := tYes) (te := tVar 4) rfl nd (pi_list (pv 3))
            (blkOk_by (N := nGR) (sc := defScope sLwGreat) (by decide +kernel)) (fun _ _ _ _ _ => (pg_tup rfl (pgs_cons (pg_name (i := 4) nd rfl (Or.inl rfl)) (pgs_cons (pg_name (i := 5) nd rfl (Or.inl rfl)) pgs_nil)))) (fun _ _ _ _ _ => pts_nil) (fun _ _ _ _ _ => pv 4)) pa_nil)) pa_nil)))) pss_nil)))
      (pss_one (ps_ret (pv 7))))), ?_⟩
    obtain ⟨la, v, ls, way, rfl, hla, ⟨a, xs, rfl, ha, px⟩, ⟨w8, fit⟩, k⟩ := h
    have xl : xs.length = way.length := par_len px
    refine ⟨_, rfl, a, rfl, ⟨_, SqL.of ha⟩, fun D hD => ?_⟩
    refine lc_list (K := K) (a := a) (xs := xs) (fun j H' => Same H H' ∧ H' D = some (.lst ((netsW ls (way.take j)).map V.int))) ⟨(Same.refl H).new hD, upd_same⟩ (fun j H' _ q => SqL.of (q.1 _ _ ha)) ?_ ?_
    · rintro j y H' hj ⟨s1, h1⟩
      obtain ⟨st, hst, rs⟩ := par_get px hj
      have hm := fit st (List.mem_of_getElem? hst)
      obtain ⟨b, zs, rfl, hb, pz⟩ := rs.same s1
      have zl : zs.length = st.length := par_len pz
      refine ⟨rfl, _, rfl, b, rfl, ⟨_, SqL.of hb⟩, fun D3 hD3 => ?_⟩
      refine lc_list (K := K) (a := b) (xs := zs) (fun i G => Same H' G ∧ G D3 = some (.lst (((st.take i).map fun q => ls.getD q.1.toNat 0 * q.2).map V.int))) ⟨(Same.refl H').new hD3, upd_same⟩ (fun i G _ q => SqL.of (q.1 _ _ hb)) ?_ ?_
      · rintro i z G hi ⟨s7, h7⟩
        have hil : i < zs.length := (List.getElem?_eq_some_iff.mp hi).1
        obtain ⟨q, hq, c, rfl, hc⟩ := par_get pz hi
        have hqb := hm.2 q (List.mem_of_getElem? hq)
        have s17 := s1.trans s7
        refine ⟨c, _, rfl, .inl (.inl (s7 _ _ hc)), rfl, _, _, rfl, _, _, rfl, rfl, rfl, ?_⟩
        refine ⟨_, rfl, _, rfl, la, _, q.1, _, rfl, rfl, SqL.of (s17 _ _ hla), get_lenX hqb.1 hqb.2.1, _, rfl, _, _, rfl, rfl, .inr ⟨?_, ?_⟩, _, h7, ?_, s7.mut hD3, ?_⟩
        · have z := hqb.2.2
          omega
        · have z := hqb.2.2
          omega
        · rw [List.length_map, List.length_map, List.length_take]
          exact sm (by omega)
        · rw [upd_same, ← take_snoc hq, List.map_append, List.map_append]
          rfl
      rintro G1 ⟨s7, h7⟩
      rw [zl, List.take_length] at h7
      have s8 := s1.trans s7
      refine ⟨D3, _, rfl, SqL.of h7, _, rfl, ?_⟩
      refine ⟨_, s7 _ _ h1, ?_, s8.mut hD, ?_⟩
      · unfold netsW
        rw [List.length_map, List.length_map, List.length_take]
        exact sm (by omega)
      · rw [upd_same, ← take_snoc hst]
        unfold netsW
        rw [List.map_append, List.map_append]
        rfl
    rintro H6 ⟨s6, h6⟩
    rw [xl, List.take_length] at h6
    have nl : (netsW ls way).length = way.length := by unfold netsW; rw [List.length_map]
    refine ⟨(by show 0 ≤ sizeLine; decide), fun g ng => ?_⟩
    have fg : H g = none := s6.free ng
    have s7 : Same H6 (upd H6 g (.lst [])) := (Same.refl H6).new ng
    have hg : upd H6 g (.lst []) g = some (.lst []) := upd_same
    generalize upd H6 g (.lst []) = H7 at s7 hg ⊢
    have h67 := s7 _ _ h6
    have ha7 := (s6.trans s7) _ _ ha
    refine ⟨_, _, rfl, ?_⟩
    refine ⟨_, rfl, _, rfl, D, a, _, xs, rfl, SqL.of h67, SqL.of ha7, ?_⟩
    have mn : way.length = min ((netsW ls way).map V.int).length xs.length := by rw [List.length_map]; omega
    refine for_it (walk_zip mn) (fun i σ H' => ∃ (us : List V) (z6 z3 : Option V), σ = [some (.ref la), some (.ref a), some (.ref D), z3, none, none, z6, some (.ref g)] ∧ Same H H' ∧ H' D = some (.lst ((netsW ls way).map V.int)) ∧ H' a = some (.lst xs) ∧ H' g = some (.lst us) ∧ Paired (fun v l => LG H' v l) us (((way.take i).filter fun st => decide ((netsW ls way).sum - absI (net ls st) < absI (net ls st))).map lotI))
      ⟨[], none, none, rfl, s6.trans s7, h67, ha7, hg, .nil⟩ (fun i σ H' _ ⟨_, _, _, _, _, q1, q2, _⟩ => ⟨SqL.of q1, SqL.of q2⟩) ?_ ?_
    · rintro i x σ H8 H9 hi ⟨us, z6, z3, rfl, s8, hD8, ha8, hg8, pus⟩ ⟨U, x1, x2, rfl, hU, rfl, e1, e2⟩
      obtain ⟨st, hst, rs⟩ := par_get px e2
      have hm := fit st (List.mem_of_getElem? hst)
      obtain ⟨nn, hn, rfl⟩ := int_at e1
      have en : nn = absI (net ls st) := by
        unfold netsW at hn
        rw [List.getElem?_map, hst] at hn
        exact (Option.some.inj hn).symm
      subst en
      have s9 : Same H8 (upd H8 U (.tup [.int (absI (net ls st)), x2])) := (Same.refl H8).new hU
      have hUt : upd H8 U (.tup [.int (absI (net ls st)), x2]) U = some (.tup [.int (absI (net ls st)), x2]) := upd_same
      generalize upd H8 U (.tup [.int (absI (net ls st)), x2]) = H9 at s9 hUt ⊢
      have s09 := s8.trans s9
      refine ⟨U, _, rfl, .inl (.inl hUt), rfl, _, _, rfl, _, _, rfl, rfl, _, rfl, _, rfl, D, _, rfl, SqL.of (s9 _ _ hD8), _, rfl, _, _, rfl, rfl, _, _, rfl, rfl, _, rfl, ?_⟩
      have ul : us.length ≤ 8 := by
        rw [par_len pus, List.length_map]
        refine Nat.le_trans (List.length_filter_le ..) ?_
        rw [List.length_take]
        omega
      have pus9 := par_imp (fun _ _ z => LG.same z s9) pus
      rw [← take_snoc hst, List.filter_append]
      by_cases c : (netsW ls way).sum - absI (net ls st) < absI (net ls st)
      · refine iteDT c ?_
        obtain ⟨b, zs, rfl, hb, pz⟩ := rs.same s09
        have zl : zs.length = st.length := par_len pz
        have hg9 := s9 _ _ hg8
        refine ⟨_, rfl, .inl ⟨rfl, _, SqL.of hg9⟩, _, rfl, b, rfl, ⟨_, SqL.of hb⟩, fun D3 hD3 => ?_⟩
        refine lc_list (K := K) (a := b) (xs := zs) (fun i G => Same H9 G ∧ G D3 = some (.lst ((lotI (st.take i)).map V.int))) ⟨(Same.refl H9).new hD3, upd_same⟩ (fun i G _ q => SqL.of (q.1 _ _ hb)) ?_ ?_
        · rintro n z G hn ⟨s7, h7⟩
          have hil : n < zs.length := (List.getElem?_eq_some_iff.mp hn).1
          obtain ⟨q, hq, c, rfl, hc⟩ := par_get pz hn
          refine ⟨c, _, rfl, .inl (.inl (s7 _ _ hc)), rfl, _, _, rfl, _, _, rfl, rfl, rfl, _, rfl, _, h7, ?_, s7.mut hD3, ?_⟩
          · unfold lotI
            rw [List.length_map, List.length_map, List.length_take]
            exact sm (by omega)
          · rw [upd_same, ← take_snoc hq]
            unfold lotI
            rw [List.map_append, List.map_append]
            rfl
        rintro G1 ⟨s10, h10⟩
        rw [zl, List.take_length] at h10
        refine ⟨D3, _, rfl, .inl ⟨SqL.of h10, fun t nt => ?_⟩⟩
        have s11 : Same G1 (upd G1 t (.tup ((lotI st).map V.int))) := (Same.refl G1).new nt
        have ht : upd G1 t (.tup ((lotI st).map V.int)) t = some (.tup ((lotI st).map V.int)) := upd_same
        generalize upd G1 t (.tup ((lotI st).map V.int)) = G2 at s11 ht ⊢
        have s911 := s10.trans s11
        have hg2 := s911 _ _ hg9
        refine ⟨g, us, _, rfl, rfl, hg2, szl (by omega), ?_⟩
        have Dg : D ≠ g := fun z => by rw [← z, h6] at ng; cases ng
        have ag : a ≠ g := fun z => by rw [← z, s6 _ _ ha] at ng; cases ng
        refine ⟨_, _, _, rfl, (s09.trans s911).mut fg, by rw [upd_ne Dg]; exact (s9.trans s911) _ _ hD8, by rw [upd_ne ag]; exact (s9.trans s911) _ _ ha8, upd_same, ?_⟩
        rw [List.filter_cons_of_pos (by simpa using c), List.map_append]
        refine par_app (par_imp (fun _ _ z => (LG.same z s911).mut hg2) pus9) (.cons (LG.mut ⟨t, rfl, ht⟩ hg2) .nil)
      · refine iteDF c ?_
        refine ⟨us, _, _, rfl, s09, s9 _ _ hD8, s9 _ _ ha8, s9 _ _ hg8, ?_⟩
        rw [List.filter_cons_of_neg (by simpa using c), List.filter_nil, List.append_nil]
        exact pus9
    · rintro σ H8 ⟨us, z6, z3, rfl, s8, hD8, ha8, hg8, pus⟩
      rw [List.take_length] at pus
      exact ⟨_, rfl, k g us H8 s8 fg hg8 pus⟩
end
end K
namespace K
open PySem L2 Rg LamX
open Evl (pss_cut)
theorem tl_same {H H' : Hp} {xs : List V} {nss : List (List Int)} (h : TL H xs nss) (s : Same H H') : TL H' xs nss := par_imp (fun _ _ ⟨a, e, z⟩ => ⟨a, e, s _ _ z⟩) h
theorem tl_mut {H : Hp} {D : Addr} {us ws xs : List V} {nss : List (List Int)} (h : TL H xs nss) (hD : H D = some (.lst us)) : TL (upd H D (.lst ws)) xs nss := par_imp (fun _ _ ⟨a, e, z⟩ => ⟨a, e, by rw [upd_ne fun k => by rw [k, hD] at z; cases z]; exact z⟩) h
section
variable {P : Program} {w : World} {K : PySem.W.Frag} {mg : Str → Option Value} {base : Heap}
/-! ### want_lot, what it gives in order -/
def spWSL (K : PySem.W.Frag) (c : Cs) : Sp := fun vs H Q E => ∃ (a : Addr) (xs : List V) (kf : V → String) (many : Int) (part : Str), vs = [.ref a, .int many, .str part] ∧ Knd K H (.ref a) "list" ∧ SqL K H a xs ∧ xs.length ≤ 1000 ∧ (∀ x ∈ xs, Knd K H x (kf x)) ∧
  (((xs.all fun x => decide (kf x = "int")) = false ∧ Errs E c.l "part" (.str part) H) ∨
   ∃ ns, xs = ns.map V.int ∧ (xs.all fun x => decide (kf x = "int")) = true ∧ LotFin E c part H (res many ns) fun ns => ∀ (p : Addr) (ms : List Int) (H' : Hp), ms.Perm ns → ms.Pairwise (· ≤ ·) → Same H H' → H' p = some (.tup (ms.map V.int)) → Q (.ref p) H')
def spWST (K : PySem.W.Frag) (c : Cs) : Sp := fun vs H Q E => ∃ (a : Addr) (ns : List Int) (many : Int) (part : Str), vs = [.ref a, .int many, .str part] ∧ Knd K H (.ref a) "tuple" ∧ SqT K H a (ns.map V.int) ∧ ns.length ≤ 1000 ∧
  LotFin E c part H (res many ns) fun ns => ∀ (p : Addr) (ms : List Int) (H' : Hp), ms.Perm ns → ms.Pairwise (· ≤ ·) → Same H H' → H' p = some (.tup (ms.map V.int)) → Q (.ref p) H'
theorem ok_wsL {f fN fB fT : Addr} {c : Cs} {fL fTI : Addr} {fd fdN fdB fdT fdL fdTI : FuncData} (F : Fun K "want_lot" "want_lot" sWantLot f fd) (T : Bi mg) (N : DefAt P w K mg base CX0 2 "is_numbers" ["value"] (spNumsL K) fN fdN) (B : DefAt P w K mg base (L2.CX P w) 3 "want_bar" ["value", "many"] (spWantBar c.n) fB fdB)
    (Tw : DefAt P w K mg base CX0 3 "first_twice" ["values"] (spTwL K) fT fdT) (L : ErrAt P w K mg base "BadLot" "part" c.l fL fdL) (TI : ErrAt P w K mg base "Twice" "value" c.t fTI fdTI) : FnOk P w K mg base (L2.CX P w) 4 f fd ["value", "many", "part"] (spWSL K c) := by
  refine F.okX scWL (fun vs H Q E h => ?_) (fun cdv A outer s H vs Q E hr h => ?_)
  · obtain ⟨a, xs, kf, many, part, rfl, _⟩ := h
    rfl
  · have nd := scWL.nd
    have hr2 : Room 2 (A.deeper (PyProof.Rows.envOfC "want_lot" (defScope sWantLot) s.heap.objs.size f cdv)) := hr.mono (by decide)
    refine ⟨_, pss_cons (ps_if (pt_not (pt_val (pe_call N.ok hr2 rfl N.g N.kp N.b .nil pass0 (pa_cons (pv 0) pa_nil)))) (pss_one (ps_raise rfl (takes_of rfl rfl rfl rfl) (pmk_oex L.oex L.ic L.ti L.ok hr2 L.b .nil pass0 rfl L.g (pa_cons (pv 2) pa_nil)))) pss_nil)
      (pss_cons (ps_for (passes_of rfl) rfl (pi_list (pv 0)) (pg_name (i := 3) nd rfl (Or.inl rfl)) (pss_one (ps_expr (pe_call B.ok hr rfl B.g B.kp B.b .nil (passes_call (takes_of rfl rfl rfl rfl) (fun _ _ _ _ h => h)) (pa_cons (pv 3) (pa_cons (pv 1) pa_nil))))))
      (pss_cons (ps_set (i := 4) nd rfl (Or.inl rfl) (pe_call Tw.ok hr rfl Tw.g Tw.kp Tw.b .nil pass0 (pa_cons (pv 0) pa_nil)))
      (pss_cons (ps_if (pt_cmpR op_notN (pv 4) pe_non (nomark _)) (pss_one (ps_raise rfl (takes_of rfl rfl rfl rfl) (pmk_oex TI.oex TI.ic TI.ti TI.ok hr2 TI.b .nil pass0 rfl TI.g (pa_cons (pv 4) pa_nil)))) pss_nil)
      (pss_one (ps_ret (pe_callTy call_tuple_of (by rfl) T.tuple (by decide +kernel) (pa_cons (pe_callB cr_sortedI (by rfl) T.sorted (by decide +kernel) (pa_cons (pv 0) pa_nil)) pa_nil))))))), ?_⟩
    obtain ⟨a, xs, kf, many, part, rfl, hk, hs, hl, hx, q⟩ := h
    refine ⟨_, rfl, a, xs, kf, rfl, hk, hs, hl, hx, fun H1 s1 => ⟨_, rfl, ?_⟩⟩
    rcases q with ⟨e, q⟩ | ⟨ns, rfl, e, q⟩
    · rw [e]
      exact iteT ⟨_, rfl, err_made L.oex L.nf (q.later s1)⟩
    · rw [e]
      refine iteF ?_
      refine ⟨_, rfl, a, rfl, ⟨_, s1.seq hs⟩, for_list (K := K) (a := a) (xs := ns.map V.int) (fun i σ H' => ∃ (b : Option V), σ = [some (.ref a), some (.int many), some (.str part), b, none] ∧ Same H H' ∧ ∀ x ∈ ns.take i, isBar many x = true)
        ⟨none, rfl, s1, fun x hx => nomatch hx⟩ (fun i σ H' _ ⟨_, _, s, _⟩ => s.seq hs) ?_ ?_⟩
      · rintro i x σ H' hi ⟨b, rfl, s2, al⟩
        obtain ⟨z, hz, rfl⟩ := int_at hi
        refine ⟨_, rfl, _, rfl, z, many, rfl, ?_⟩
        by_cases c : isBar many z = true
        · obtain ⟨c1, c2⟩ := isBar_iff.mp c
          refine .inl ⟨c1, c2, fun H3 s3 => ⟨_, rfl, s2.trans s3, fun y hy => ?_⟩⟩
          rw [← take_snoc hz] at hy
          rcases List.mem_append.mp hy with m | m
          · exact al y m
          · rw [List.mem_singleton.mp m]
            exact c
        · refine .inr ⟨fun z => c (isBar_iff.mpr z), ?_⟩
          rw [res_bar al hz c] at q
          exact Errs.later q s2
      · rintro σ H' ⟨b, rfl, s2, al⟩
        rw [List.length_map, List.take_length] at al
        rw [res_all al] at q
        rw [List.length_map] at hl
        refine ⟨_, rfl, a, ns, rfl, s2.seq hs, hl, fun H3 s3 => ?_⟩
        have s23 := s2.trans s3
        cases e2 : ft [] ns with
        | some z =>
          rw [e2] at q
          exact ⟨_, rfl, rfl, _, rfl, iteT ⟨_, rfl, err_made TI.oex TI.nf (Errs.later q s23)⟩⟩
        | none =>
          rw [e2] at q
          refine ⟨_, rfl, rfl, _, rfl, iteF ?_⟩
          refine ⟨_, rfl, a, ns, rfl, s23.seq hs, fun ms p pm od hp => ⟨p, _, rfl, .inl ⟨SqL.of upd_same, fun t ht => ?_⟩⟩⟩
          exact q t ms _ pm od ((s23.new hp).new ht) upd_same
theorem ok_wsT {f fN fB fT : Addr} {c : Cs} {fL fTI : Addr} {fd fdN fdB fdT fdL fdTI : FuncData} (F : Fun K "want_lot" "want_lot" sWantLot f fd) (T : Bi mg) (N : DefAt P w K mg base CX0 2 "is_numbers" ["value"] (spNumsT K) fN fdN) (B : DefAt P w K mg base (L2.CX P w) 3 "want_bar" ["value", "many"] (spWantBar c.n) fB fdB)
    (Tw : DefAt P w K mg base CX0 3 "first_twice" ["values"] (spTwT K) fT fdT) (L : ErrAt P w K mg base "BadLot" "part" c.l fL fdL) (TI : ErrAt P w K mg base "Twice" "value" c.t fTI fdTI) : FnOk P w K mg base (L2.CX P w) 4 f fd ["value", "many", "part"] (spWST K c) := by
  refine F.okX scWL (fun vs H Q E h => ?_) (fun cdv A outer s H vs Q E hr h => ?_)
  · obtain ⟨a, ns, many, part, rfl, _⟩ := h
    rfl
  · have nd := scWL.nd
    have hr2 : Room 2 (A.deeper (PyProof.Rows.envOfC "want_lot" (defScope sWantLot) s.heap.objs.size f cdv)) := hr.mono (by decide)
    refine ⟨_, pss_cons (ps_if (pt_not (pt_val (pe_call N.ok hr2 rfl N.g N.kp N.b .nil pass0 (pa_cons (pv 0) pa_nil)))) (pss_one (ps_raise rfl (takes_of rfl rfl rfl rfl) (pmk_oex L.oex L.ic L.ti L.ok hr2 L.b .nil pass0 rfl L.g (pa_cons (pv 2) pa_nil)))) pss_nil)
      (pss_cons (ps_for (passes_of rfl) rfl (pi_tup (pv 0)) (pg_name (i := 3) nd rfl (Or.inl rfl)) (pss_one (ps_expr (pe_call B.ok hr rfl B.g B.kp B.b .nil (passes_call (takes_of rfl rfl rfl rfl) (fun _ _ _ _ h => h)) (pa_cons (pv 3) (pa_cons (pv 1) pa_nil))))))
      (pss_cons (ps_set (i := 4) nd rfl (Or.inl rfl) (pe_call Tw.ok hr rfl Tw.g Tw.kp Tw.b .nil pass0 (pa_cons (pv 0) pa_nil)))
      (pss_cons (ps_if (pt_cmpR op_notN (pv 4) pe_non (nomark _)) (pss_one (ps_raise rfl (takes_of rfl rfl rfl rfl) (pmk_oex TI.oex TI.ic TI.ti TI.ok hr2 TI.b .nil pass0 rfl TI.g (pa_cons (pv 4) pa_nil)))) pss_nil)
      (pss_one (ps_ret (pe_callTy call_tuple_of (by rfl) T.tuple (by decide +kernel) (pa_cons (pe_callB cr_sortedT (by rfl) T.sorted (by decide +kernel) (pa_cons (pv 0) pa_nil)) pa_nil))))))), ?_⟩
    obtain ⟨a, ns, many, part, rfl, hk, hs, hl, q⟩ := h
    refine ⟨_, rfl, a, _, (fun _ => "int"), rfl, hk, hs, (by rw [List.length_map]; exact hl), (fun x hx => ?_), fun H1 s1 => ⟨_, rfl, ?_⟩⟩
    · obtain ⟨z, _, rfl⟩ := List.mem_map.mp hx
      exact Knd.int
    · have e : ((ns.map V.int).all fun x => decide (("int" : String) = "int")) = true := List.all_eq_true.mpr fun _ _ => rfl
      rw [e]
      refine iteF ?_
      refine ⟨_, rfl, a, rfl, ⟨_, s1.tup hs⟩, for_tup (K := K) (a := a) (xs := ns.map V.int) (fun i σ H' => ∃ (b : Option V), σ = [some (.ref a), some (.int many), some (.str part), b, none] ∧ Same H H' ∧ ∀ x ∈ ns.take i, isBar many x = true)
        ⟨none, rfl, s1, fun x hx => nomatch hx⟩ (fun i σ H' _ ⟨_, _, s, _⟩ => s.tup hs) ?_ ?_⟩
      · rintro i x σ H' hi ⟨b, rfl, s2, al⟩
        obtain ⟨z, hz, rfl⟩ := int_at hi
        refine ⟨_, rfl, _, rfl, z, many, rfl, ?_⟩
        by_cases c : isBar many z = true
        · obtain ⟨c1, c2⟩ := isBar_iff.mp c
          refine .inl ⟨c1, c2, fun H3 s3 => ⟨_, rfl, s2.trans s3, fun y hy => ?_⟩⟩
          rw [← take_snoc hz] at hy
          rcases List.mem_append.mp hy with m | m
          · exact al y m
          · rw [List.mem_singleton.mp m]
            exact c
        · refine .inr ⟨fun z => c (isBar_iff.mpr z), ?_⟩
          rw [res_bar al hz c] at q
          exact Errs.later q s2
      · rintro σ H' ⟨b, rfl, s2, al⟩
        rw [List.length_map, List.take_length] at al
        rw [res_all al] at q
        refine ⟨_, rfl, a, ns, rfl, s2.tup hs, hl, fun H3 s3 => ?_⟩
        have s23 := s2.trans s3
        cases e2 : ft [] ns with
        | some z =>
          rw [e2] at q
          exact ⟨_, rfl, rfl, _, rfl, iteT ⟨_, rfl, err_made TI.oex TI.nf (Errs.later q s23)⟩⟩
        | none =>
          rw [e2] at q
          refine ⟨_, rfl, rfl, _, rfl, iteF ?_⟩
          refine ⟨_, rfl, a, ns, rfl, s23.tup hs, fun ms p pm od hp => ⟨p, _, rfl, .inl ⟨SqL.of upd_same, fun t ht => ?_⟩⟩⟩
          exact q t ms _ pm od ((s23.new hp).new ht) upd_same
/-! ### what is told as a lot: some: a list or tuple of ints; none: what is none -/
def TLot (K : PySem.W.Frag) (H : Hp) (v : V) : Option (List Int) → Prop
  | some ns => ns.length ≤ 1000 ∧ ∃ a, v = V.ref a ∧ (H a = some (.lst (ns.map V.int)) ∨ H a = some (.tup (ns.map V.int)))
  | none => (∃ k, Knd K H v k ∧ k ≠ "list" ∧ k ≠ "tuple") ∨ ∃ (a : Addr) (xs : List V) (kf : V → String), v = V.ref a ∧ H a = some (.lst xs) ∧ xs.length ≤ 1000 ∧ (∀ x ∈ xs, Knd K H x (kf x)) ∧ (xs.all fun x => decide (kf x = "int")) = false
theorem TLot.same {H H' : Hp} {v : V} : ∀ {r : Option (List Int)}, TLot K H v r → Same H H' → TLot K H' v r
  | some ns, ⟨l, a, e, z⟩, s => ⟨l, a, e, z.imp (s _ _) (s _ _)⟩
  | none, .inl ⟨k, h, a, b⟩, s => .inl ⟨k, h.same s, a, b⟩
  | none, .inr ⟨a, xs, kf, e, z, l, h, n⟩, s => .inr ⟨a, xs, kf, e, s _ _ z, l, fun x m => (h x m).same s, n⟩
theorem SqT.of {H : Hp} {a : Addr} {xs : List V} (h : H a = some (.tup xs)) : SqT K H a xs := .inl (.inl h)
theorem knd_list {H : Hp} {a : Addr} {xs : List V} (h : H a = some (.lst xs)) : Knd K H (.ref a) "list" := ⟨.base (.lst h), by decide⟩
theorem knd_tup {H : Hp} {a : Addr} {xs : List V} (h : H a = some (.tup xs)) : Knd K H (.ref a) "tuple" := ⟨.base (.tup h), by decide⟩
def spNumsA (K : PySem.W.Frag) : Sp := fun vs H Q _ => ∃ (v : V) (r : Option (List Int)), vs = [v] ∧ TLot K H v r ∧ ∀ H', Same H H' → Q (.bl r.isSome) H'
theorem all_int (l : List Int) : ((l.map V.int).all fun _ => decide (("int" : String) = "int")) = true := List.all_eq_true.mpr fun _ _ => rfl
theorem ok_numsA {k : Nat} {f : Addr} {fd : FuncData} (F1 : FnOk P w K mg base CX0 k f fd ["value"] (spNumsO K)) (F2 : FnOk P w K mg base CX0 k f fd ["value"] (spNumsL K)) (F3 : FnOk P w K mg base CX0 k f fd ["value"] (spNumsT K)) : FnOk P w K mg base CX0 k f fd ["value"] (spNumsA K) :=
  (fn_or F1 (fn_or F2 F3)).imp fun vs H Q E ⟨v, r, ev, t, q⟩ => by
    cases r with
    | none =>
      rcases t with ⟨k, h, a, b⟩ | ⟨a, xs, kf, rfl, h, l, hk, n⟩
      · exact .inl ⟨v, k, ev, h, a, b, q⟩
      · refine .inr (.inl ⟨a, xs, kf, ev, knd_list h, SqL.of h, l, hk, ?_⟩)
        rw [n]
        exact q
    | some ns =>
      obtain ⟨l, a, rfl, h | h⟩ := t
      · refine .inr (.inl ⟨a, _, fun _ => "int", ev, knd_list h, SqL.of h, by rw [List.length_map]; exact l, fun x m => ?_, ?_⟩)
        · obtain ⟨i, _, rfl⟩ := List.mem_map.mp m
          exact Knd.int
        · rw [all_int]
          exact q
      · refine .inr (.inr ⟨a, _, fun _ => "int", ev, knd_tup h, .inl (.inl h), by rw [List.length_map]; exact l, fun x m => ?_, ?_⟩)
        · obtain ⟨i, _, rfl⟩ := List.mem_map.mp m
          exact Knd.int
        · rw [all_int]
          exact q
def spWSA (K : PySem.W.Frag) (c : Cs) : Sp := fun vs H Q E => ∃ (v : V) (ns : List Int) (many : Int) (part : Str), vs = [v, .int many, .str part] ∧ TLot K H v (some ns) ∧
  LotFin E c part H (res many ns) fun ns => ∀ (p : Addr) (ms : List Int) (H' : Hp), ms.Perm ns → ms.Pairwise (· ≤ ·) → Same H H' → H' p = some (.tup (ms.map V.int)) → Q (.ref p) H'
theorem ok_wsA {CX : CXT} {k : Nat} {f : Addr} {fd : FuncData} {c : Cs} (F2 : FnOk P w K mg base CX k f fd ["value", "many", "part"] (spWSL K c)) (F3 : FnOk P w K mg base CX k f fd ["value", "many", "part"] (spWST K c)) : FnOk P w K mg base CX k f fd ["value", "many", "part"] (spWSA K c) :=
  (fn_or F2 F3).imp fun vs H Q E ⟨v, ns, many, part, ev, t, q⟩ => by
    obtain ⟨l, a, rfl, h | h⟩ := t
    · refine .inl ⟨a, _, fun _ => "int", many, part, ev, knd_list h, SqL.of h, by rw [List.length_map]; exact l, fun x m => ?_, .inr ⟨ns, rfl, all_int ns, q⟩⟩
      obtain ⟨i, _, rfl⟩ := List.mem_map.mp m
      exact Knd.int
    · exact .inr ⟨a, ns, many, part, ev, knd_tup h, .inl (.inl h), l, q⟩
/-! ### want_lots -/
/-- what comes of lots that are told -/
def LotsFin (E : XK) (c : Cs) (part : Str) (H : Hp) (many : Int) (nss : List (List Int)) (k : Prop) : Prop :=
  (∃ (i : Nat) (ns : List Int), nss[i]? = some ns ∧ (∀ (j : Nat) ms, j < i → nss[j]? = some ms → res many ms = .ok ms) ∧ ((∃ b, res many ns = .bar b ∧ Errs E c.n "value" (.int b) H) ∨ ∃ b, res many ns = .twice b ∧ Errs E c.t "value" (.int b) H)) ∨
  ((∀ ns ∈ nss, res many ns = .ok ns) ∧ k)
def SortOf (ms ns : List Int) : Prop := ms.Perm ns ∧ ms.Pairwise (· ≤ ·)
def spWLsO (K : PySem.W.Frag) (c : Cs) : Sp := fun vs H Q E => ∃ (v : V) (k : String) (many : Int) (part : Str), vs = [v, .int many, .str part] ∧ Knd K H v k ∧ k ≠ "list" ∧ k ≠ "tuple" ∧ Errs E c.l "part" (.str part) H
def LotsAsk (K : PySem.W.Frag) (c : Cs) (E : XK) (many : Int) (part : Str) (H : Hp) (xs : List V) (rs : List (Option (List Int))) (k : List (List Int) → Prop) : Prop :=
  Paired (TLot K H) xs rs ∧ xs.length ≤ 100 ∧ ((rs.all Option.isSome = false ∧ Errs E c.l "part" (.str part) H) ∨ ∃ nss : List (List Int), rs = nss.map some ∧ LotsFin E c part H many nss (k nss))
abbrev nWLs : List Str := ["value", "many", "part", "lot"]
theorem scWLs : FnScope nWLs ["value", "many", "part"] (defScope sWantLots) := ⟨rfl, rfl, rfl, by decide +kernel, rfl, by decide +kernel, by decide +kernel⟩
theorem ok_wlsO {f fI fN fL : Addr} {c : Cs} {fW fLI : Addr} {fd fdI fdN fdL fdW fdLI : FuncData} (F : Fun K "want_lots" "want_lots" sWantLots f fd) (T : Bi mg) (IL : DefAt P w K mg base CX0 1 "is_list" ["value"] (spIsList K) fI fdI) (N : DefAt P w K mg base CX0 2 "is_numbers" ["value"] (spNumsA K) fN fdN)
    (WL : DefAt P w K mg base (L2.CX P w) 4 "want_lot" ["value", "many", "part"] (spWSA K c) fW fdW) (L : ErrAt P w K mg base "BadLot" "part" c.l fLI fdLI) : FnOk P w K mg base (L2.CX P w) 5 f fd ["value", "many", "part"] (spWLsO K c) := by
  refine F.okX scWLs (fun vs H Q E h => ?_) (fun cdv A outer s H vs Q E hr h => ?_)
  · obtain ⟨v, k, many, part, rfl, _⟩ := h
    rfl
  · have nd := scWLs.nd
    refine ⟨_, pss_cons (ps_if (PW.pt (pw_or (pt_not (pt_val (pe_call IL.ok (hr.mono (by decide)) rfl IL.g IL.kp IL.b .nil pass0 (pa_cons (pv 0) pa_nil)))) (pw_or1 (pt_not (pt_val (pe_callB (cr_all rfl) (by rfl) T.all (by decide +kernel) (pa_cons (pe_lc (own := [("lot", 3)]) (g := gName 3) (tt := tYes) (te := tCall (spNumsA K) [] E0 (tCons (tVar 3) tNil)) rfl nd (pi_list (pv 0))
          (blkOk_by (N := nWLs) (sc := defScope sWantLots) (by decide +kernel)) (fun _ _ _ _ _ => pg_name (i := 3) nd rfl (Or.inl rfl)) (fun _ _ _ _ _ => pts_nil) (fun _ _ _ _ _ => pe_call N.ok (hr.mono (by decide)) rfl N.g N.kp N.b .nil pass0 (pa_cons (pv 3) pa_nil))) pa_nil)))))))
        (pss_one (ps_raise rfl (takes_of rfl rfl rfl rfl) (pmk_oex L.oex L.ic L.ti L.ok (hr.mono (by decide)) L.b .nil pass0 rfl L.g (pa_cons (pv 2) pa_nil)))) pss_nil)
      pss_never, ?_⟩
    obtain ⟨v, k, many, part, rfl, hk, k1, k2, q⟩ := h
    refine ⟨_, rfl, v, k, rfl, hk, fun H1 s1 => ⟨_, rfl, ?_⟩⟩
    rw [show decide (k = "list" ∨ k = "tuple") = false from decide_eq_false fun z => z.elim k1 k2]
    exact iteT ⟨_, rfl, err_made L.oex L.nf (q.later s1)⟩
def spWLsL (K : PySem.W.Frag) (c : Cs) : Sp := fun vs H Q E => ∃ (a : Addr) (xs : List V) (rs : List (Option (List Int))) (many : Int) (part : Str), vs = [.ref a, .int many, .str part] ∧ H a = some (.lst xs) ∧ LotsAsk K c E many part H xs rs fun nss => ∀ (p : Addr) (ys : List V) (mss : List (List Int)) (H' : Hp), Same H H' → H' p = some (.lst ys) → TL H' ys mss → Paired SortOf mss nss → Q (.ref p) H'
theorem ok_wlsL {f fI fN fL : Addr} {c : Cs} {fW fLI : Addr} {fd fdI fdN fdL fdW fdLI : FuncData} (F : Fun K "want_lots" "want_lots" sWantLots f fd) (T : Bi mg) (IL : DefAt P w K mg base CX0 1 "is_list" ["value"] (spIsList K) fI fdI) (N : DefAt P w K mg base CX0 2 "is_numbers" ["value"] (spNumsA K) fN fdN)
    (WL : DefAt P w K mg base (L2.CX P w) 4 "want_lot" ["value", "many", "part"] (spWSA K c) fW fdW) (L : ErrAt P w K mg base "BadLot" "part" c.l fLI fdLI) : FnOk P w K mg base (L2.CX P w) 5 f fd ["value", "many", "part"] (spWLsL K c) := by
  refine F.okX scWLs (fun vs H Q E h => ?_) (fun cdv A outer s H vs Q E hr h => ?_)
  · obtain ⟨a, xs, rs, many, part, rfl, _⟩ := h
    rfl
  · have nd := scWLs.nd
    refine ⟨_, pss_cons (ps_if (PW.pt (pw_or (pt_not (pt_val (pe_call IL.ok (hr.mono (by decide)) rfl IL.g IL.kp IL.b .nil pass0 (pa_cons (pv 0) pa_nil)))) (pw_or1 (pt_not (pt_val (pe_callB (cr_all rfl) (by rfl) T.all (by decide +kernel) (pa_cons (pe_lc (own := [("lot", 3)]) (g := gName 3) (tt := tYes) (te := tCall (spNumsA K) [] E0 (tCons (tVar 3) tNil)) rfl nd (pi_list (pv 0))
          (blkOk_by (N := nWLs) (sc := defScope sWantLots) (by decide +kernel)) (fun _ _ _ _ _ => pg_name (i := 3) nd rfl (Or.inl rfl)) (fun _ _ _ _ _ => pts_nil) (fun _ _ _ _ _ => pe_call N.ok (hr.mono (by decide)) rfl N.g N.kp N.b .nil pass0 (pa_cons (pv 3) pa_nil))) pa_nil)))))))
        (pss_one (ps_raise rfl (takes_of rfl rfl rfl rfl) (pmk_oex L.oex L.ic L.ti L.ok (hr.mono (by decide)) L.b .nil pass0 rfl L.g (pa_cons (pv 2) pa_nil)))) pss_nil)
      (pss_one (ps_ret (pe_lcX (Ex := E) (own := [("lot", 3)]) (g := gName 3) (tt := tYes) (te := tCall (spWSA K c) [] E (tCons (tVar 3) (tCons (tVar 1) (tCons (tVar 2) tNil)))) rfl rfl (takes_of rfl rfl rfl rfl) rfl nd (pi_list (pv 0))
          (blkOk_by (N := nWLs) (sc := defScope sWantLots) (by decide +kernel)) (fun _ _ _ _ _ => pg_name (i := 3) nd rfl (Or.inl rfl)) (fun _ _ _ _ _ => pts_nil) (fun _ _ _ _ _ EE hE => pe_call WL.ok hr rfl WL.g WL.kp WL.b .nil (fun pins σ H1 s1 e s2 I c => hE pins σ H1 s1 e s2 I.unwish c) (pa_cons (pv 3) (pa_cons (pv 1) (pa_cons (pv 2) pa_nil))))))), ?_⟩
    obtain ⟨a, xs, rs, many, part, rfl, ha, px, xl, q⟩ := h
    refine ⟨_, rfl, .ref a, "list", rfl, knd_list ha, fun H1 s1 => ⟨_, rfl, iteF ?_⟩⟩
    have ha1 := s1 _ _ ha
    refine ⟨_, rfl, a, rfl, ⟨_, SqL.of ha1⟩, fun D hD => ?_⟩
    refine lc_list (K := K) (a := a) (xs := xs) (fun j H' => Same H1 H' ∧ H' D = some (.lst ((rs.take j).map fun r => V.bl r.isSome))) ⟨(Same.refl H1).new hD, upd_same⟩ (fun j H' _ q => SqL.of (q.1 _ _ ha1)) ?_ ?_
    · rintro j y H' hj ⟨s2, h2⟩
      obtain ⟨r, hr', t⟩ := par_get px hj
      have jl : j < xs.length := (List.getElem?_eq_some_iff.mp hj).1
      refine ⟨rfl, _, rfl, y, r, rfl, (t.same s1).same s2, fun H3 s3 => ⟨_, s3 _ _ h2, ?_, (s2.trans s3).mut hD, ?_⟩⟩
      · rw [List.length_map, List.length_take]
        exact sm (by omega)
      · rw [upd_same, ← take_snoc hr', List.map_append]
        rfl
    rintro H2 ⟨s2, h2⟩
    rw [par_len px, List.take_length] at h2
    refine ⟨D, (rs.map fun r => r.isSome), rfl, ?_, ?_⟩
    · rw [List.map_map]
      exact SqL.of h2
    have ea : ((rs.map fun r => r.isSome).all id) = rs.all Option.isSome := by
      rw [List.all_map]
      rfl
    rw [ea]
    have s02 := s1.trans s2
    rcases q with ⟨no, er⟩ | ⟨nss, rfl, q⟩
    · rw [no]
      exact ⟨_, rfl, iteT ⟨_, rfl, err_made L.oex L.nf (er.later s02)⟩⟩
    rw [show (nss.map some).all Option.isSome = true from List.all_eq_true.mpr fun x hx => by obtain ⟨y, _, rfl⟩ := List.mem_map.mp hx; rfl]
    refine ⟨_, rfl, iteF ?_⟩
    refine ⟨_, rfl, a, rfl, ⟨_, SqL.of (s2 _ _ ha1)⟩, fun D2 hD2 => ?_⟩
    refine lc_list (K := K) (a := a) (xs := xs) (fun j H' => Same H2 H' ∧ (∀ (i : Nat) ms, i < j → nss[i]? = some ms → res many ms = .ok ms) ∧ ∃ us mss, H' D2 = some (.lst us) ∧ TL H' us mss ∧ Paired SortOf mss (nss.take j)) ⟨(Same.refl H2).new hD2, fun i _ hi => absurd hi (Nat.not_lt_zero _), [], [], upd_same, .nil, .nil⟩ (fun j H' _ q => SqL.of (q.1 _ _ (s2 _ _ ha1))) ?_ ?_
    · rintro j y H3 hj ⟨s3, al, us, mss, h3, tl, so⟩
      obtain ⟨r, hr', t⟩ := par_get px hj
      rw [List.getElem?_map] at hr'
      obtain ⟨ns, hns, rfl⟩ : ∃ ns, nss[j]? = some ns ∧ some ns = r := by
        cases z : nss[j]? with
        | none => rw [z] at hr'; cases hr'
        | some ns => rw [z] at hr'; exact ⟨ns, rfl, Option.some.inj hr'⟩
      have jl : j < xs.length := (List.getElem?_eq_some_iff.mp hj).1
      have s03 := s02.trans s3
      refine ⟨rfl, _, rfl, _, rfl, _, rfl, y, ns, many, part, rfl, t.same s03, ?_⟩
      have go : res many ns = .ok ns → LotFin E c part H3 (res many ns) fun ns => ∀ (p : Addr) (ms : List Int) (H' : Hp), ms.Perm ns → ms.Pairwise (· ≤ ·) → Same H3 H' → H' p = some (.tup (ms.map V.int)) → ∃ acc, H' D2 = some (.lst acc) ∧ acc.length < sizeLine ∧ (Same H2 (upd H' D2 (.lst (acc ++ [.ref p]))) ∧ (∀ (i : Nat) ms, i < j + 1 → nss[i]? = some ms → res many ms = .ok ms) ∧ ∃ us mss, upd H' D2 (.lst (acc ++ [.ref p])) D2 = some (.lst us) ∧ TL (upd H' D2 (.lst (acc ++ [.ref p]))) us mss ∧ Paired SortOf mss (nss.take (j + 1))) := fun e => by
        rw [e]
        intro p ms H4 pm od s4 hp
        have h4 := s4 _ _ h3
        refine ⟨us, h4, ?_, (s3.trans s4).mut hD2, fun i z hi hz => ?_, _, mss ++ [ms], upd_same, ?_, ?_⟩
        · rw [par_len tl, par_len so, List.length_take]
          exact sm (by omega)
        · by_cases ij : i = j
          · subst ij
            rw [hns] at hz
            cases hz
            exact e
          · exact al i z (by omega) hz
        · exact par_app (tl_mut (tl_same tl s4) h4) (.cons ⟨p, rfl, by rw [upd_ne fun z => by rw [z, h4] at hp; cases hp]; exact hp⟩ .nil)
        · rw [← take_snoc hns]
          exact par_app so (.cons ⟨pm, od⟩ .nil)
      rcases q with ⟨i, ns', hi, ali, er⟩ | ⟨all, k⟩
      · by_cases ij : j < i
        · exact go (ali j ns ij hns)
        · have ji : j = i := by
            by_cases z : i < j
            · have w := al i ns' z hi
              rcases er with ⟨b, e, _⟩ | ⟨b, e, _⟩
              · rw [e] at w; cases w
              · rw [e] at w; cases w
            · omega
          subst ji
          rw [hns] at hi
          cases hi
          rcases er with ⟨b, e, er⟩ | ⟨b, e, er⟩
          · rw [e]
            exact Errs.later er s03
          · rw [e]
            exact Errs.later er s03
      · exact go (all ns (List.mem_of_getElem? hns))
    · rintro H3 ⟨s3, al, us, mss, h3, tl, so⟩
      have nl : xs.length = nss.length := by rw [par_len px, List.length_map]
      rw [nl, List.take_length] at so
      rw [nl] at al
      rcases q with ⟨i, ns', hi, ali, er⟩ | ⟨all, k⟩
      · have w := al i ns' (List.getElem?_eq_some_iff.mp hi).1 hi
        rcases er with ⟨b, e, _⟩ | ⟨b, e, _⟩
        · rw [e] at w; cases w
        · rw [e] at w; cases w
      · exact k D2 us mss H3 (s02.trans s3) h3 tl so
def spWLsT (K : PySem.W.Frag) (c : Cs) : Sp := fun vs H Q E => ∃ (a : Addr) (xs : List V) (rs : List (Option (List Int))) (many : Int) (part : Str), vs = [.ref a, .int many, .str part] ∧ H a = some (.tup xs) ∧ LotsAsk K c E many part H xs rs fun nss => ∀ (p : Addr) (ys : List V) (mss : List (List Int)) (H' : Hp), Same H H' → H' p = some (.lst ys) → TL H' ys mss → Paired SortOf mss nss → Q (.ref p) H'
theorem ok_wlsT {f fI fN fL : Addr} {c : Cs} {fW fLI : Addr} {fd fdI fdN fdL fdW fdLI : FuncData} (F : Fun K "want_lots" "want_lots" sWantLots f fd) (T : Bi mg) (IL : DefAt P w K mg base CX0 1 "is_list" ["value"] (spIsList K) fI fdI) (N : DefAt P w K mg base CX0 2 "is_numbers" ["value"] (spNumsA K) fN fdN)
    (WL : DefAt P w K mg base (L2.CX P w) 4 "want_lot" ["value", "many", "part"] (spWSA K c) fW fdW) (L : ErrAt P w K mg base "BadLot" "part" c.l fLI fdLI) : FnOk P w K mg base (L2.CX P w) 5 f fd ["value", "many", "part"] (spWLsT K c) := by
  refine F.okX scWLs (fun vs H Q E h => ?_) (fun cdv A outer s H vs Q E hr h => ?_)
  · obtain ⟨a, xs, rs, many, part, rfl, _⟩ := h
    rfl
  · have nd := scWLs.nd
    refine ⟨_, pss_cons (ps_if (PW.pt (pw_or (pt_not (pt_val (pe_call IL.ok (hr.mono (by decide)) rfl IL.g IL.kp IL.b .nil pass0 (pa_cons (pv 0) pa_nil)))) (pw_or1 (pt_not (pt_val (pe_callB (cr_all rfl) (by rfl) T.all (by decide +kernel) (pa_cons (pe_lc (own := [("lot", 3)]) (g := gName 3) (tt := tYes) (te := tCall (spNumsA K) [] E0 (tCons (tVar 3) tNil)) rfl nd (pi_tup (pv 0))
          (blkOk_by (N := nWLs) (sc := defScope sWantLots) (by decide +kernel)) (fun _ _ _ _ _ => pg_name (i := 3) nd rfl (Or.inl rfl)) (fun _ _ _ _ _ => pts_nil) (fun _ _ _ _ _ => pe_call N.ok (hr.mono (by decide)) rfl N.g N.kp N.b .nil pass0 (pa_cons (pv 3) pa_nil))) pa_nil)))))))
        (pss_one (ps_raise rfl (takes_of rfl rfl rfl rfl) (pmk_oex L.oex L.ic L.ti L.ok (hr.mono (by decide)) L.b .nil pass0 rfl L.g (pa_cons (pv 2) pa_nil)))) pss_nil)
      (pss_one (ps_ret (pe_lcX (Ex := E) (own := [("lot", 3)]) (g := gName 3) (tt := tYes) (te := tCall (spWSA K c) [] E (tCons (tVar 3) (tCons (tVar 1) (tCons (tVar 2) tNil)))) rfl rfl (takes_of rfl rfl rfl rfl) rfl nd (pi_tup (pv 0))
          (blkOk_by (N := nWLs) (sc := defScope sWantLots) (by decide +kernel)) (fun _ _ _ _ _ => pg_name (i := 3) nd rfl (Or.inl rfl)) (fun _ _ _ _ _ => pts_nil) (fun _ _ _ _ _ EE hE => pe_call WL.ok hr rfl WL.g WL.kp WL.b .nil (fun pins σ H1 s1 e s2 I c => hE pins σ H1 s1 e s2 I.unwish c) (pa_cons (pv 3) (pa_cons (pv 1) (pa_cons (pv 2) pa_nil))))))), ?_⟩
    obtain ⟨a, xs, rs, many, part, rfl, ha, px, xl, q⟩ := h
    refine ⟨_, rfl, .ref a, "tuple", rfl, knd_tup ha, fun H1 s1 => ⟨_, rfl, iteF ?_⟩⟩
    have ha1 := s1 _ _ ha
    refine ⟨_, rfl, a, rfl, ⟨_, SqT.of ha1⟩, fun D hD => ?_⟩
    refine lc_tup (K := K) (a := a) (xs := xs) (fun j H' => Same H1 H' ∧ H' D = some (.lst ((rs.take j).map fun r => V.bl r.isSome))) ⟨(Same.refl H1).new hD, upd_same⟩ (fun j H' _ q => SqT.of (q.1 _ _ ha1)) ?_ ?_
    · rintro j y H' hj ⟨s2, h2⟩
      obtain ⟨r, hr', t⟩ := par_get px hj
      have jl : j < xs.length := (List.getElem?_eq_some_iff.mp hj).1
      refine ⟨rfl, _, rfl, y, r, rfl, (t.same s1).same s2, fun H3 s3 => ⟨_, s3 _ _ h2, ?_, (s2.trans s3).mut hD, ?_⟩⟩
      · rw [List.length_map, List.length_take]
        exact sm (by omega)
      · rw [upd_same, ← take_snoc hr', List.map_append]
        rfl
    rintro H2 ⟨s2, h2⟩
    rw [par_len px, List.take_length] at h2
    refine ⟨D, (rs.map fun r => r.isSome), rfl, ?_, ?_⟩
    · rw [List.map_map]
      exact SqL.of h2
    have ea : ((rs.map fun r => r.isSome).all id) = rs.all Option.isSome := by
      rw [List.all_map]
      rfl
    rw [ea]
    have s02 := s1.trans s2
    rcases q with ⟨no, er⟩ | ⟨nss, rfl, q⟩
    · rw [no]
      exact ⟨_, rfl, iteT ⟨_, rfl, err_made L.oex L.nf (er.later s02)⟩⟩
    rw [show (nss.map some).all Option.isSome = true from List.all_eq_true.mpr fun x hx => by obtain ⟨y, _, rfl⟩ := List.mem_map.mp hx; rfl]
    refine ⟨_, rfl, iteF ?_⟩
    refine ⟨_, rfl, a, rfl, ⟨_, SqT.of (s2 _ _ ha1)⟩, fun D2 hD2 => ?_⟩
    refine lc_tup (K := K) (a := a) (xs := xs) (fun j H' => Same H2 H' ∧ (∀ (i : Nat) ms, i < j → nss[i]? = some ms → res many ms = .ok ms) ∧ ∃ us mss, H' D2 = some (.lst us) ∧ TL H' us mss ∧ Paired SortOf mss (nss.take j)) ⟨(Same.refl H2).new hD2, fun i _ hi => absurd hi (Nat.not_lt_zero _), [], [], upd_same, .nil, .nil⟩ (fun j H' _ q => SqT.of (q.1 _ _ (s2 _ _ ha1))) ?_ ?_
    · rintro j y H3 hj ⟨s3, al, us, mss, h3, tl, so⟩
      obtain ⟨r, hr', t⟩ := par_get px hj
      rw [List.getElem?_map] at hr'
      obtain ⟨ns, hns, rfl⟩ : ∃ ns, nss[j]? = some ns ∧ some ns = r := by
        cases z : nss[j]? with
        | none => rw [z] at hr'; cases hr'
        | some ns => rw [z] at hr'; exact ⟨ns, rfl, Option.some.inj hr'⟩
      have jl : j < xs.length := (List.getElem?_eq_some_iff.mp hj).1
      have s03 := s02.trans s3
      refine ⟨rfl, _, rfl, _, rfl, _, rfl, y, ns, many, part, rfl, t.same s03, ?_⟩
      have go : res many ns = .ok ns → LotFin E c part H3 (res many ns) fun ns => ∀ (p : Addr) (ms : List Int) (H' : Hp), ms.Perm ns → ms.Pairwise (· ≤ ·) → Same H3 H' → H' p = some (.tup (ms.map V.int)) → ∃ acc, H' D2 = some (.lst acc) ∧ acc.length < sizeLine ∧ (Same H2 (upd H' D2 (.lst (acc ++ [.ref p]))) ∧ (∀ (i : Nat) ms, i < j + 1 → nss[i]? = some ms → res many ms = .ok ms) ∧ ∃ us mss, upd H' D2 (.lst (acc ++ [.ref p])) D2 = some (.lst us) ∧ TL (upd H' D2 (.lst (acc ++ [.ref p]))) us mss ∧ Paired SortOf mss (nss.take (j + 1))) := fun e => by
        rw [e]
        intro p ms H4 pm od s4 hp
        have h4 := s4 _ _ h3
        refine ⟨us, h4, ?_, (s3.trans s4).mut hD2, fun i z hi hz => ?_, _, mss ++ [ms], upd_same, ?_, ?_⟩
        · rw [par_len tl, par_len so, List.length_take]
          exact sm (by omega)
        · by_cases ij : i = j
          · subst ij
            rw [hns] at hz
            cases hz
            exact e
          · exact al i z (by omega) hz
        · exact par_app (tl_mut (tl_same tl s4) h4) (.cons ⟨p, rfl, by rw [upd_ne fun z => by rw [z, h4] at hp; cases hp]; exact hp⟩ .nil)
        · rw [← take_snoc hns]
          exact par_app so (.cons ⟨pm, od⟩ .nil)
      rcases q with ⟨i, ns', hi, ali, er⟩ | ⟨all, k⟩
      · by_cases ij : j < i
        · exact go (ali j ns ij hns)
        · have ji : j = i := by
            by_cases z : i < j
            · have w := al i ns' z hi
              rcases er with ⟨b, e, _⟩ | ⟨b, e, _⟩
              · rw [e] at w; cases w
              · rw [e] at w; cases w
            · omega
          subst ji
          rw [hns] at hi
          cases hi
          rcases er with ⟨b, e, er⟩ | ⟨b, e, er⟩
          · rw [e]
            exact Errs.later er s03
          · rw [e]
            exact Errs.later er s03
      · exact go (all ns (List.mem_of_getElem? hns))
    · rintro H3 ⟨s3, al, us, mss, h3, tl, so⟩
      have nl : xs.length = nss.length := by rw [par_len px, List.length_map]
      rw [nl, List.take_length] at so
      rw [nl] at al
      rcases q with ⟨i, ns', hi, ali, er⟩ | ⟨all, k⟩
      · have w := al i ns' (List.getElem?_eq_some_iff.mp hi).1 hi
        rcases er with ⟨b, e, _⟩ | ⟨b, e, _⟩
        · rw [e] at w; cases w
        · rw [e] at w; cases w
      · exact k D2 us mss H3 (s02.trans s3) h3 tl so
end
end K
/-! sorted(..) of tuples of ints, empty ones among them -/
namespace Rg
open PySem PySem.Spec PySem.Calls PyProof.Rows L2 PySem.W PySem.SeqAt
section
variable {prog : Program} {w : World} {A : Around} {s : Shared} {E : Value → Shared → Prop}
theorem call_tup_lt {Qq : Value → Shared → Prop} {l b : Addr} {its jts : Array Value} {eq lt : Nat → Bool} (hl : s.heap.IsTuple l its) (hb : s.heap.IsTuple b jts)
    (he : ∀ j (h1 : j < its.size) (h2 : j < jts.size), EqAt A.in1 s its[j] jts[j] (eq j)) (hr : ∀ j (h1 : j < its.size) (h2 : j < jts.size), eq j = false → RcLt A.in1 s its[j] jts[j] (lt j))
    (h : Qq (.bool (firstLt eq lt (decide (its.size < jts.size)) (List.range (min its.size jts.size)))) s) : wpAny (model prog w) A (call (.builtin "tuple.__lt__") [.ref l, .ref b]) Qq E s := by
  obtain ⟨⟨ca, da, ta, sa⟩, ho, hc, n, hd⟩ := id hl
  obtain ⟨⟨cb, db, tb, sb⟩, hp, hq, m, he2⟩ := id hb
  simp only at hc hd hq he2
  subst hc hd hq he2
  exact call_meets F.slot_tuple_lt ⟨_, ho, rfl⟩ F.entry_tuple_lt (F.args_tuple_lt_2 _ _) (tuple_ltAt l b its jts n m da db sa sb eq lt) ⟨ho, hp, he, hr, h⟩
theorem one_lt_tup {xs ys : List PyData} {a b : Value} {as bs : List Addr} {Qq : Bool → Shared → Prop} (ra : Reads s.heap a (.tuple xs) as) (rb : Reads s.heap b (.tuple ys) bs) (h : alike (.tuple xs) (.tuple ys) = true)
    (hu : A.units + min (PyData.tuple xs).depth (PyData.tuple ys).depth < cLine) (hq : Qq (dataLt (.tuple xs) (.tuple ys)) s) : wpAny (model prog w) A (oneLt' true a b) Qq E s := by
  have hal : alikeAll xs ys = true := by simpa [alike] using h
  cases ra with
  | @tuple l o vs n _ as1 h1 h2 h3 h4 =>
    cases rb with
    | @tuple l' o' vs' n' _ bs1 k1 k2 k3 k4 =>
      have n1 : vs.size = xs.length := by simpa using ReadsAll.length _ _ _ h4
      have n2 : vs'.size = ys.length := by simpa using ReadsAll.length _ _ _ k4
      rw [dataLt_tuple, ← firstLt_toks xs ys hal, ← n1, ← n2] at hq
      rw [oneLt'_eq]
      simp only [if_true]
      refine wpAny_bind (wpAny_cRoomFor (room_here hu) ?_)
      refine wpAny_bind (wpAny_callSpecialIfBound?_slot (T := "tuple") ⟨_, h1, h2⟩ F.slot_tuple_lt (call_tup_lt (eq := pairEq xs ys) (lt := fun j => dataLt (xs.getD j .none) (ys.getD j .none)) ⟨_, h1, h2, _, h3⟩ ⟨_, k1, k2, _, k3⟩ (fun j j1 j2 => ?_) (fun j j1 j2 hj => ?_) ?_))
      · have z := eqAt_alikeAll xs ys A.in1 s vs.toList vs'.toList _ _ h4 k4 hal (room_in hu) j (by simpa using j1) (by simpa using j2)
        simpa using z
      · have z := rcLt_alikeAll xs ys A.in1 s vs.toList vs'.toList _ _ h4 k4 hal (room_in hu) j (by simpa using j1) (by simpa using j2) hj
        simpa using z
      · exact wpAny_truthy_bool hq
def fullD : PyData → Bool
  | .tuple [] => false
  | _ => true
theorem firsts_any {M : Model} {B : Around} : ∀ {vs : List Value} {ds : List PyData}, EachIs (fun v d => ∃ as, Reads s.heap v d as) vs ds → (∀ d ∈ ds, ∃ xs, d = .tuple xs) →
    ∃ fs : List (Option Value), fs.map (·.isSome) = ds.map fullD ∧ ∀ (E : Value → Shared → Prop) (Qq : List (Option Value) → Shared → Prop), Qq fs s → wpAny M B (vs.mapM firstOfTuple') Qq E s
  | _, _, .nil, _ => ⟨[], rfl, fun E Qq h => by rw [List.mapM_nil]; exact wpAny_pure h⟩
  | _, _, .cons (b := d) ⟨as, r⟩ t, ht => by
    obtain ⟨fs, h1, h2⟩ := firsts_any (M := M) (B := B) t fun x hx => ht x (List.mem_cons_of_mem _ hx)
    obtain ⟨xs, rfl⟩ := ht d (List.mem_cons_self ..)
    cases r with
    | @tuple a o its n _ _ ho hc hd hr =>
      refine ⟨its[0]? :: fs, ?_, fun E Qq h => ?_⟩
      · rw [List.map_cons, List.map_cons, h1]
        congr 1
        have len : its.toList.length = xs.length := ReadsAll.length _ _ _ hr
        rw [Array.length_toList] at len
        cases xs with
        | nil =>
          have z : its[0]? = none := Array.getElem?_eq_none (by rw [len]; exact Nat.le_refl _)
          rw [z]
          rfl
        | cons x xr =>
          have z : 0 < its.size := by rw [len]; exact Nat.succ_pos _
          rw [Array.getElem?_eq_getElem z]
          rfl
      · rw [List.mapM_cons]
        refine wpAny_bind ?_
        rw [kas_first_eq]
        refine wpAny_bind (Looks.here (show Looks M s.heap (typeOf (.ref a)) o.cls from (Looks.ld ho).andThen .now) ?_)
        rw [hc, if_neg (by first | decide | simp)]
        refine wpAny_bind (listItems_at ho hd (wpAny_pure (wpAny_bind (h2 E _ (wpAny_pure h)))))
theorem keyLt_gen (x y : Value) : keyLt' general' x y = oneLt' false x y := rfl
theorem sorts_any {vs : List Value} {ds : List PyData} (e : EachIs (fun v d => ∃ as, Reads s.heap v d as) vs ds) (hal : AllAlike ds) (ht : ∀ d ∈ ds, ∃ xs, d = .tuple xs) (hu : ∀ d, d ∈ ds → A.units + d.depth < cLine) : SortsAt prog w A s (dataKind s.heap ds) vs := by
  have room : ∀ {d d' : PyData}, d ∈ ds → A.units + min d.depth d'.depth < cLine := fun {d d'} hd => Nat.lt_of_le_of_lt (Nat.add_le_add_left (Nat.min_le_left _ _) _) (hu d hd)
  by_cases al : ∀ d ∈ ds, ∃ x r, d = .tuple (x :: r)
  · exact SortsAt.data e hal (.inl al) hu
  refine ⟨fun v hv => ?_, ?_⟩
  · obtain ⟨d, hd, as, r⟩ := e.left v hv
    exact ⟨_, dataKind_some hal hd r⟩
  have some_nil : PyData.tuple [] ∈ ds := Classical.byContradiction fun hn => al fun d hd => by
    obtain ⟨xs, rfl⟩ := ht d hd
    cases xs with
    | nil => exact absurd hd hn
    | cons x r => exact ⟨x, r, rfl⟩
  obtain ⟨fs, f1, f2⟩ := firsts_any (M := model prog w) (B := A) e ht
  have nall : ¬ (fs.toArray.all fun x => x.isSome) = true := fun z => by
    rw [List.all_toArray] at z
    have q : (fs.map (·.isSome)).all id = true := by rw [List.all_map]; exact z
    rw [f1, List.all_map] at q
    have := List.all_eq_true.mp q _ some_nil
    cases this
  cases ds with
  | nil => cases some_nil
  | cons d0 ds0 =>
    cases fs with
    | nil => cases f1
    | cons f0 fr =>
      have fh : f0.isSome = fullD d0 := by
        have := congrArg List.head? f1
        simpa using this
      by_cases c : d0 = .tuple []
      · refine ⟨oneType', ?_, fun h2 E Q hq => ?_⟩
        · intro E x y a b Q ha hb hq
          obtain ⟨d, as, hd, ra, rfl⟩ := dataKind_inv ha
          obtain ⟨d', as', hd', rb, rfl⟩ := dataKind_inv hb
          obtain ⟨xs, rfl⟩ := ht d hd
          obtain ⟨ys, rfl⟩ := ht d' hd'
          rw [keyLt'_oneType]
          exact one_lt_tup ra rb (hal _ hd _ hd') (room hd) hq
        · rw [keyKind'_eq, List.mapM_toArray, map_eq_pure_bind]
          refine wpAny_bind (wpAny_bind (f2 E _ (wpAny_pure ?_)))
          have f0n : f0 = none := by
            cases f0 with
            | none => rfl
            | some z =>
              rw [c] at fh
              cases fh
          subst f0n
          rw [if_neg nall, if_neg (by simp)]
          rw [oneTypeOnly'_eq, List.mapM_toArray, map_eq_pure_bind]
          refine wpAny_bind (wpAny_bind (wpAny_bind (kas_mapM (r := Value.type "tuple") _ (fun v hv Q' hq => ?_) (wpAny_pure ?_))))
          · obtain ⟨d, hd, as, r⟩ := e.left v hv
            obtain ⟨xs, rfl⟩ := ht d hd
            exact (looks_reads r).here hq
          · cases vs with
            | nil => exact absurd h2 (by simp)
            | cons v0 vr =>
              have hall : ((List.map (fun _ => Value.type "tuple") (v0 :: vr)).toArray.all fun x => x == Value.type "tuple") = true := by
                rw [List.all_toArray, List.all_map, List.all_eq_true]
                intro _ _
                simp
              have h0 : (List.map (fun _ => Value.type "tuple") (v0 :: vr)).toArray[0]? = some (Value.type "tuple") := by simp
              rw [h0]
              simp only [hall, if_true]
              exact wpAny_pure (wpAny_pure hq)
      · refine ⟨general', ?_, fun h2 E Q hq => ?_⟩
        · intro E x y a b Q ha hb hq
          obtain ⟨d, as, hd, ra, rfl⟩ := dataKind_inv ha
          obtain ⟨d', as', hd', rb, rfl⟩ := dataKind_inv hb
          obtain ⟨xs, rfl⟩ := ht d hd
          rw [keyLt_gen]
          exact oneLt_alike (fun z => nomatch z) ra rb (hal _ hd _ hd') (fun z => nomatch z) (room hd) hq
        · rw [keyKind'_eq, List.mapM_toArray, map_eq_pure_bind]
          refine wpAny_bind (wpAny_bind (f2 E _ (wpAny_pure ?_)))
          rw [if_neg nall, if_pos]
          · exact wpAny_pure hq
          · have z : f0.isSome = true := by
              rw [fh]
              obtain ⟨xs, rfl⟩ := ht d0 (List.mem_cons_self ..)
              cases xs with
              | nil => exact absurd rfl c
              | cons _ _ => rfl
            cases f0 with
            | none => cases z
            | some x => simp
theorem sorted_any {β : Type} {vs : List Value} {bs : List β} {enc : β → PyData} {R : Value → β → Prop} {l : Addr} {Qq : Value → Shared → Prop} (hl : s.heap.IsList l vs.toArray) (e : EachIs R vs bs) (er : EachIs (fun v b => ∃ as, Reads s.heap v (enc b) as) vs bs) (hal : AllAlike (bs.map enc))
    (ht : ∀ d ∈ bs.map enc, ∃ xs, d = .tuple xs) (hL : bs.length ≤ sizeLine) (hu : ∀ b, b ∈ bs → A.units + 2 + (enc b).depth < cLine) (h : ∀ out, out.length = bs.length → EachIs R out (bs.mergeSort (dataLe false enc)) → Qq (.ref (s.heap.objs.size + 1)) { s with heap := sortedAll s.heap vs (List.toArray out) }) :
    wpAny (model prog w) A (call (.builtin "sorted") [.ref l]) Qq E s := by
  have er2 : EachIs (fun v b => ∃ as, Reads (sortingHeap (copyHeap s.heap vs) (s.heap.objs.size + 1) vs) v (enc b) as) vs bs := er.mono fun _ _ ⟨as, r⟩ => ⟨as, PyProof.Rows.Reads.keeps (fun _ _ => sorting_copy_old) r⟩
  refine sorted_vals hl (sorts_any (s := { s with heap := sortingHeap (copyHeap s.heap vs) (s.heap.objs.size + 1) vs }) (each_map (R := fun v d => ∃ as, Reads (sortingHeap (copyHeap s.heap vs) (s.heap.objs.size + 1) vs) v d as) enc er2) hal ht (bound_map hu)) (by rw [e.length]; exact hL) ?_
  exact h _ (by rw [sortVals_length false rfl]; exact e.length) (sortVals_data false e er2 hal)
end
section
theorem each_readsE {X : Cx} {pns : List (Addr × Obj)} {σs : L2.St} {Hh : Hp} {s : Shared} (Iv : L2.Inv X pns σs Hh s) {k : V → List Int} : ∀ {ys : List V} {out : List Value}, Vals ys out → (∀ x ∈ ys, ∃ t, x = V.ref t ∧ Hh t = some (.tup ((k x).map V.int))) →
    EachIs (fun v b => ∃ as, Reads s.heap v (PyData.tuple ((k b).map .int)) as) out ys
  | _, _, .nil, _ => .nil
  | y :: ys, u :: out, .cons r t, h => by
    refine .cons ?_ (each_readsE Iv t fun x hx => h x (List.mem_cons_of_mem _ hx))
    obtain ⟨b, e, hb⟩ := h y (List.mem_cons_self ..)
    obtain ⟨hz, its, ri, ti⟩ := Iv.hok b _ hb
    subst e
    cases r
    obtain ⟨o, ho, hc, n, hd⟩ := ti
    exact ⟨_, Reads.tuple ho hc hd (reads_intsN ri.ints)⟩
/-- sorted(xs) of tuples of ints -/
def rSortedE (K : PySem.W.Frag) : List V → Hp → VK → Prop := fun vxs Hh Qq => ∃ (a : Addr) (xs : List V) (k : V → List Int), vxs = [.ref a] ∧ SqL K Hh a xs ∧ (∀ x ∈ xs, ∃ t, x = V.ref t ∧ Hh t = some (.tup ((k x).map V.int))) ∧
  ∀ p ys, ys.Perm xs → (ys.Pairwise fun u v => PySem.W.dataLt (.tuple ((k v).map .int)) (.tuple ((k u).map .int)) = false) → Hh p = none → Qq (.ref p) (upd Hh p (.lst ys))
theorem cr_sortedE {X : Cx} (hu : X.A.units + 64 < cLine) : CallR X (.builtin "sorted") (rSortedE X.K) := by
  intro pns s σs Hh vxs uvs Qq Iv r h
  obtain ⟨a, xs, k, rfl, hs, hx, qq⟩ := h
  obtain ⟨its, rv, hl, hsz⟩ := Iv.list hs
  rw [Vals.ref1 r]
  refine sorted_any (β := V) (R := fun u x => RelV x u) (enc := fun x => .tuple ((k x).map .int)) hl.isList (vals_each rv) (each_readsE Iv rv hx) (AllAlike.of fun b b' => by simp [alike, alike_ints]) (fun d hd => ?_) hsz (fun x _ => ?_) fun out ho heach => ?_
  · obtain ⟨x, _, rfl⟩ := List.mem_map.mp hd
    exact ⟨_, rfl⟩
  · have := depth_lotKey (k x)
    simp only [lotKey, PyData.depth, PyData.depthAll] at this ⊢
    omega
  · have hpm : (xs.mergeSort (dataLe false fun x => PyData.tuple ((k x).map .int))).Perm xs := List.mergeSort_perm ..
    obtain ⟨n, hnn⟩ := PyProof.Rows.sortedAll_at s.heap its out.toArray
    have nf := Iv.hok.fresh (Nat.le_succ s.heap.objs.size)
    refine ⟨.ref _, upd Hh (s.heap.objs.size + 1) (.lst (xs.mergeSort (dataLe false fun x => PyData.tuple ((k x).map .int)))), Iv.laid (t' := s.toks) (fun _ _ => PyProof.Rows.sortedAll_old) (Nat.le_succ _) ⟨by rw [hpm.length_eq]; exact hsz, out, n, each_vals heach, hnn⟩, rfl, qq _ _ hpm ?_ nf⟩
    have z := sortLe_total (PyProof.Rows.listOrd PyProof.Rows.itemOrd) false (fun x : V => keyToks (PyData.tuple ((k x).map .int)))
    have pw := List.pairwise_mergeSort (le := dataLe false fun x => PyData.tuple ((k x).map .int)) (fun a b c => z.trans a b c) (fun a b => Bool.or_eq_true _ _ |>.mpr (z.total a b)) xs
    refine pw.imp fun {u v} h => ?_
    have h2 : (!dataLt (PyData.tuple ((k v).map .int)) (PyData.tuple ((k u).map .int))) = true := h
    simpa using h2
end
end Rg
namespace K
open PySem L2 Rg LamX
open Evl (pss_cut)
def lotD (l : List Int) : PyData := .tuple (l.map PyData.int)
def lotsD (L : List (List Int)) : PyData := .tuple (L.map lotD)
/-- the tuple at a place -/
def kT (H : Hp) : V → List Int
  | .ref a => match H a with
    | some (.tup us) => us.map fun u => match u with
      | .int i => i
      | _ => 0
    | _ => []
  | _ => []
theorem kT_at {H : Hp} {v : V} {l : List Int} (h : ∃ a, v = V.ref a ∧ H a = some (.tup (l.map V.int))) : kT H v = l := by
  obtain ⟨a, rfl, e⟩ := h
  unfold kT
  simp only [e]
  rw [List.map_map]
  exact List.map_id'' (fun _ => rfl) _
theorem tl_k {H : Hp} : ∀ {xs : List V} {ol : List (List Int)}, TL H xs ol → xs.map (kT H) = ol
  | _, _, .nil => rfl
  | _, _, .cons h t => by rw [List.map_cons, kT_at h, tl_k t]
def Parts (n : Nat) (nss : List (List Int)) : Prop := (∀ l ∈ nss, l ≠ []) ∧ (nss.flatMap id).Perm (rngI n)
/-- what is told, as the lots ol, in any order -/
def LotsOf (nss ol : List (List Int)) : Prop := ∃ os : List (List Int), os.Perm ol ∧ Paired (fun ns l => ns.Perm l) nss os
theorem flat_par : ∀ {mss nss : List (List Int)}, Paired SortOf mss nss → (mss.flatMap id).Perm (nss.flatMap id)
  | _, _, .nil => List.Perm.refl _
  | _, _, .cons h t => by
    rw [List.flatMap_cons, List.flatMap_cons]
    exact h.1.append (flat_par t)
theorem ne_par : ∀ {mss nss : List (List Int)}, Paired SortOf mss nss → ((∀ l ∈ mss, l ≠ []) ↔ ∀ l ∈ nss, l ≠ [])
  | _, _, .nil => Iff.rfl
  | a :: _, b :: _, .cons h t => by
    rw [List.forall_mem_cons, List.forall_mem_cons, ne_par t]
    have e : a ≠ [] ↔ b ≠ [] := not_congr ⟨fun z => by rw [z] at h; exact List.nil_perm.mp h.1, fun z => by rw [z] at h; exact List.perm_nil.mp h.1⟩
    rw [e]
theorem parts_perm {n : Nat} {L mss nss : List (List Int)} (p : L.Perm mss) (s : Paired SortOf mss nss) : Parts n L ↔ Parts n nss := by
  unfold Parts
  refine and_congr ?_ ?_
  · rw [← ne_par s]
    exact ⟨fun h l m => h l (p.mem_iff.mpr m), fun h l m => h l (p.mem_iff.mp m)⟩
  · have q : (L.flatMap id).Perm (nss.flatMap id) := (p.flatMap_right id).trans (flat_par s)
    exact ⟨fun h => q.symm.trans h, fun h => q.trans h⟩
theorem lots_of_asc {n : Nat} {ol : List (List Int)} (c : Cn n ol) : ∀ {mss nss os : List (List Int)}, Paired SortOf mss nss → Paired (fun ns l => ns.Perm l) nss os → (∀ l ∈ os, l ∈ ol) → mss = os
  | _, _, _, .nil, .nil, _ => rfl
  | _, _, _, .cons h t, .cons k u, m => by
    rw [lots_of_asc c t u fun l hl => m l (List.mem_cons_of_mem _ hl)]
    congr 1
    exact asc_uniq (c.asc _ (m _ (List.mem_cons_self ..))) (h.1.trans k) h.2
theorem parts_of {n : Nat} {nss ol : List (List Int)} (c : Cn n ol) (h : LotsOf nss ol) : Parts n nss := by
  obtain ⟨os, p, q⟩ := h
  have f : (nss.flatMap id).Perm (os.flatMap id) := by
    clear p
    induction q with
    | nil => exact List.Perm.refl _
    | cons h _ ih =>
      rw [List.flatMap_cons, List.flatMap_cons]
      exact h.append ih
  refine ⟨fun l m z => ?_, f.trans ((p.flatMap_right id).trans c.pm)⟩
  obtain ⟨l2, m2, k⟩ := par_mem q m
  rw [z] at k
  exact c.ne l2 (p.mem_iff.mp m2) (List.nil_perm.mp k)
theorem hd_sorted {L : List (List Int)} (h : L.Pairwise fun u v => PySem.W.dataLt (.tuple (v.map .int)) (.tuple (u.map .int)) = false) (ne : ∀ l ∈ L, l ≠ []) : L.Pairwise fun a b => hdL a ≤ hdL b := by
  refine h.imp_of_mem fun {u v} hu hv e => ?_
  have nu := ne u hu
  have nv := ne v hv
  cases u with
  | nil => exact absurd rfl nu
  | cons x s =>
    cases v with
    | nil => exact absurd rfl nv
    | cons y t =>
      rw [PySem.W.dataLt_tuple] at e
      have e2 : PySem.W.rowLt ((y :: t).map .int) ((x :: s).map .int) = false := e
      rw [PySem.W.dataLt_ints] at e2
      have e3 := of_decide_eq_false e2
      show x ≤ y
      have : ¬ y < x := fun z => e3 (List.cons_lt_cons_iff.mpr (.inl z))
      omega
section
variable {P : Program} {w : World} {K : PySem.W.Frag} {mg : Str → Option Value} {base : Heap}
/-- what is asked of lots that part the bars of a ring -/
def AskL (K : PySem.W.Frag) (c : Cs) (cL : Addr) (E : XK) (n : Nat) (H : Hp) (v : V) (q : List (List Int) → Prop) : Prop :=
  (∃ k : String, Knd K H v k ∧ k ≠ "list" ∧ k ≠ "tuple" ∧ Errs E c.l "part" (.str "lots") H) ∨
  ∃ (a : Addr) (xs : List V) (rs : List (Option (List Int))), v = V.ref a ∧ (H a = some (.lst xs) ∨ H a = some (.tup xs)) ∧ LotsAsk K c E (n : Nat) "lots" H xs rs fun nss =>
    (¬ Parts n nss ∧ (∀ l ∈ nss, l.length ≤ 50) ∧ nss.length ≤ 50 ∧ Errs E cL "part" (.str "lots") H) ∨ ∃ ol, Cn n ol ∧ LotsOf nss ol ∧ q ol
def AskP (K : PySem.W.Frag) (CR cR : Addr) (c : Cs) (cL : Addr) (E : XK) (H : Hp) (v u : V) (q : Addr → List Int → List (List Int) → Prop) : Prop :=
  (NoR K CR H v ∧ Errs E cR "part" (.str "ring") H) ∨ ∃ (r : Addr) (ls : List Int), v = .ref r ∧ RingAt K CR H r ls ∧ 3 ≤ ls.length ∧ ls.length ≤ 8 ∧ AskL K c cL E ls.length H u fun ol => q r ls ol
def spWLsA (K : PySem.W.Frag) (c : Cs) : Sp := fun vs H Q E => spWLsO K c vs H Q E ∨ spWLsL K c vs H Q E ∨ spWLsT K c vs H Q E
def spWP (K : PySem.W.Frag) (CR cR : Addr) (c : Cs) (cL : Addr) : Sp := fun vs H Q E => ∃ v u : V, vs = [v, u] ∧ AskP K CR cR c cL E H v u fun _ _ ol => ∀ p ys H', Same H H' → H' p = some (.lst ys) → TL H' ys ol → Q (.ref p) H'
abbrev nWP : List Str := ["ring", "lots", "told", "bars", "lot", "bar"]
theorem scWP : FnScope nWP ["ring", "lots"] (defScope sWantParted) := ⟨rfl, rfl, rfl, by decide +kernel, rfl, by decide +kernel, by decide +kernel⟩
theorem any_nil (L : List (List Int)) : ((L.map lotD).any fun z => PyData.eqv z (.tuple [])) = L.any List.isEmpty := by
  rw [List.any_map]
  congr 1
  funext l
  cases l <;> simp [lotD, PyData.eqv, PyData.eqvAll]
theorem tl_dp {H : Hp} : ∀ {xs : List V} {L : List (List Int)}, TL H xs L → DpAll K H xs (L.map lotD)
  | _, _, .nil => .nil
  | _, _, .cons ⟨a, e, h⟩ t => .cons (by rw [e]; exact .tup (.inl (.inl h)) (dp_ints _)) (tl_dp t)
theorem lots_lay : ∀ L : List (List Int), PyData.canLayAll0 (L.map lotD) = true
  | [] => by simp [PyData.canLayAll0]
  | l :: L => by
    rw [List.map_cons, PyData.canLayAll0, lots_lay L]
    simp [lotD, PyData.canLay0, lay_ints]
theorem lots_deep : ∀ L : List (List Int), PyData.depthAll (L.map lotD) ≤ 1
  | [] => by simp [PyData.depthAll]
  | l :: L => by
    have ih := lots_deep L
    have : (lotD l).depth ≤ 1 := by
      unfold lotD
      have d : PyData.depthAll (l.map PyData.int) = 0 := by
        induction l with
        | nil => simp [PyData.depthAll]
        | cons x l ihl => simp only [List.map_cons, PyData.depthAll, PyData.depth, ihl]; rfl
      simp only [PyData.depth, d]
      omega
    simp only [List.map_cons, PyData.depthAll]
    omega
theorem shaped_lots (L : List (List Int)) : SeqAt.shaped (.list (L.map lotD)) = true := by
  have := lots_deep L
  simp [SeqAt.shaped, PyData.canLay0, lots_lay L, PyData.depth]
  omega
theorem shaped_lotsT (L : List (List Int)) : SeqAt.shaped (lotsD L) = true := by
  have := lots_deep L
  simp [lotsD, SeqAt.shaped, PyData.canLay0, lots_lay L, PyData.depth]
  omega
theorem ask_wls {c : Cs} {cL : Addr} {E : XK} {n : Nat} {H : Hp} {u : V} {q : List (List Int) → Prop} {Q : VK} (ask : AskL K c cL E n H u q)
    (h : ∀ nss : List (List Int), nss.length ≤ 100 → ((¬ Parts n nss ∧ (∀ l ∈ nss, l.length ≤ 50) ∧ nss.length ≤ 50 ∧ Errs E cL "part" (.str "lots") H) ∨ ∃ ol, Cn n ol ∧ LotsOf nss ol ∧ q ol) →
      ∀ (p : Addr) (ys : List V) (mss : List (List Int)) (H' : Hp), Same H H' → H' p = some (.lst ys) → TL H' ys mss → Paired SortOf mss nss → Q (.ref p) H') : spWLsA K c [u, .int (n : Nat), .str "lots"] H Q E := by
  rcases ask with ⟨k, hk, k1, k2, er⟩ | ⟨a, xs, rs, rfl, ha, px, xl, ask⟩
  · exact .inl ⟨u, k, _, "lots", rfl, hk, k1, k2, er⟩
  rcases ask with ⟨no, er⟩ | ⟨nss, rfl, fin⟩
  · rcases ha with ha | ha
    · exact .inr (.inl ⟨a, xs, rs, _, "lots", rfl, ha, px, xl, .inl ⟨no, er⟩⟩)
    · exact .inr (.inr ⟨a, xs, rs, _, "lots", rfl, ha, px, xl, .inl ⟨no, er⟩⟩)
  have nl : nss.length ≤ 100 := by
    have := par_len px
    rw [List.length_map] at this
    omega
  have fin2 := fin.imp id fun ⟨h1, h2⟩ => And.intro h1 (h nss nl h2)
  rcases ha with ha | ha
  · exact .inr (.inl ⟨a, xs, _, _, "lots", rfl, ha, px, xl, .inr ⟨nss, rfl, fin2⟩⟩)
  · exact .inr (.inr ⟨a, xs, _, _, "lots", rfl, ha, px, xl, .inr ⟨nss, rfl, fin2⟩⟩)
theorem ok_wp {CR cR cL : Addr} {c : Cs} {f fN fR fW fLI : Addr} {fd fdN fdR fdW fdLI : FuncData} (F : Fun K "want_parted" "want_parted" sWantParted f fd) (T : Bi mg)
    (NM : Meth K CR "__len__" fN) (NL : FnOk P w K mg base CX0 1 fN fdN ["self"] (spRLen K CR)) (NB : Binds K fdN ["self"] []) (WR : DefAt P w K mg base (L2.CX P w) 3 "want_ring" ["value", "part"] (spWantR K CR cR) fR fdR)
    (WLs : DefAt P w K mg base (L2.CX P w) 5 "want_lots" ["value", "many", "part"] (spWLsA K c) fW fdW) (B : ErrAt P w K mg base "BadLineUp" "part" cL fLI fdLI) : FnOk P w K mg base (L2.CX P w) 6 f fd ["ring", "lots"] (spWP K CR cR c cL) := by
  refine F.okX scWP (fun vs H Q E h => ?_) (fun cdv A outer s H vs Q E hr h => ?_)
  · obtain ⟨v, u, rfl, _⟩ := h
    rfl
  · have nd := scWP.nd
    have hu65 : (A.deeper (PyProof.Rows.envOfC "want_parted" (defScope sWantParted) s.heap.objs.size f cdv)).units + 65 < cLine := by have := hr.un; omega
    refine ⟨_, pss_cons (ps_expr (pe_call WR.ok (hr.mono (by decide)) rfl WR.g WR.kp WR.b .nil (passes_call (takes_of rfl rfl rfl rfl) (fun _ _ _ _ h => h)) (pa_cons (pv 0) (pa_cons pe_str pa_nil))))
      (pss_cons (ps_set (i := 2) nd rfl (Or.inl rfl) (pe_callB (cr_sortedE hr.units) (by rfl) T.sorted (by decide +kernel) (pa_cons (pe_call WLs.ok (hr.mono (by decide)) rfl WLs.g WLs.kp WLs.b .nil (passes_call (takes_of rfl rfl rfl rfl) (fun _ _ _ _ h => h)) (pa_cons (pv 1) (pa_cons (pe_callB (call_lenO NL (hr.mono (by decide)) NB) (by rfl) T.len PySem.boot_len (pa_cons (pv 0) pa_nil)) (pa_cons pe_str pa_nil)))) pa_nil)))
      (pss_cons (ps_set (i := 3) nd rfl (Or.inl rfl) (pe_callB cr_sortedI (by rfl) T.sorted (by decide +kernel) (pa_cons (pe_lc2 (own := [("lot", 4), ("bar", 5)]) (vs1 := [5]) (g := gName 4) (g1 := gName 5) (tt := tYes) (tt1 := tYes) (wi1 := iTup K (tVar 4)) (te := tVar 5) rfl nd (pi_list (pv 2)) (blkOk_by (N := nWP) (sc := defScope sWantParted) (by decide +kernel)) (by decide)
            (fun _ _ _ _ _ => pg_name (i := 4) nd rfl (Or.inl rfl)) (fun _ _ _ _ _ => pts_nil) (fun _ _ _ _ _ => pi_tup (pv 4)) (fun _ _ _ _ _ => pg_name (i := 5) nd rfl (Or.inl rfl)) (fun _ _ _ _ _ => pts_nil) (fun _ _ _ _ _ => pv 5)) pa_nil)))
      (pss_cons (ps_if (PW.pt (pw_or (pt_cmpR (op_inD hu65) (pe_tup pa_nil) (pv 2) (by rfl)) (pw_or1 (pt_cmpR (op_neD hr.units) (pv 3) (pe_listRg rfl (by rfl) T.list (prg_1 (by rfl) T.range (pe_callB (call_lenO NL (hr.mono (by decide)) NB) (by rfl) T.len PySem.boot_len (pa_cons (pv 0) pa_nil)))) (nomark _)))))
        (pss_one (ps_raise rfl (takes_of rfl rfl rfl rfl) (pmk_oex B.oex B.ic B.ti B.ok (hr.mono (by decide)) B.b .nil pass0 rfl B.g (pa_cons pe_str pa_nil)))) pss_nil)
      (pss_one (ps_ret (pv 2)))))), ?_⟩
    obtain ⟨v, u, rfl, ⟨no, er⟩ | ⟨r, ls, rfl, ra, l3, l8, ask⟩⟩ := h
    · exact ⟨_, rfl, v, "ring", rfl, .inr ⟨no, er⟩⟩
    refine ⟨_, rfl, _, "ring", rfl, .inl ⟨r, ls, rfl, ra.weak, ?_⟩⟩
    obtain ⟨dx, t, hr0, _⟩ := id ra.weak
    refine ⟨_, rfl, _, rfl, r, CR, dx, _, rfl, hr0, NM.at_, NM.fn, r, ls, rfl, ra.weak, _, rfl, by omega, by omega, ?_⟩
    refine ask_wls ask fun nss nl ask p ys mss H1 s1 hp tl so => ?_
    -- in order
    dsimp only [tNil]
    have e1 := tl_k tl
    have at1 : ∀ x ∈ ys, ∃ t, x = V.ref t ∧ H1 t = some (.tup ((kT H1 x).map V.int)) := fun x hx => by
      obtain ⟨l, _, h⟩ := par_mem tl hx
      rw [kT_at h]
      exact h
    refine ⟨p, ys, kT H1, rfl, SqL.of hp, at1, fun p2 zs pm pw np2 => ?_⟩
    have pL : (zs.map (kT H1)).Perm mss := by rw [← e1]; exact pm.map _
    have pwL : (zs.map (kT H1)).Pairwise fun u v => PySem.W.dataLt (.tuple (v.map .int)) (.tuple (u.map .int)) = false := List.pairwise_map.mpr pw
    have tlz : TL H1 zs (zs.map (kT H1)) := par_of fun x hx => at1 x (pm.mem_iff.mp hx)
    generalize zs.map (kT H1) = L at pL pwL tlz
    have hP := parts_perm (n := ls.length) pL so
    have zl : zs.length ≤ 100 := by rw [par_len tlz, pL.length_eq, par_len so]; exact nl
    have s2 : Same H1 (upd H1 p2 (.lst zs)) := (Same.refl H1).new np2
    have hp2 : upd H1 p2 (.lst zs) p2 = some (.lst zs) := upd_same
    generalize upd H1 p2 (.lst zs) = H2 at s2 hp2 ⊢
    have tl2 := tl_same tlz s2
    -- the bars
    refine ⟨_, rfl, p2, rfl, ⟨_, SqL.of hp2⟩, fun D hD => ?_⟩
    have small : (¬ Parts ls.length nss ∧ (∀ l ∈ nss, l.length ≤ 50)) ∨ Parts ls.length nss := by
      rcases ask with ⟨no, l50, _, _⟩ | ⟨ol, cn, lo, _⟩
      · exact .inl ⟨no, l50⟩
      · exact .inr (parts_of cn lo)
    have fl : (L.flatMap id).length ≤ 5000 := by
      have q1 : (L.flatMap id).Perm (nss.flatMap id) := (pL.flatMap_right id).trans (flat_par so)
      rw [q1.length_eq]
      rcases small with ⟨_, l50⟩ | pa
      · have z : ∀ M : List (List Int), (∀ l ∈ M, l.length ≤ 50) → (M.flatMap id).length ≤ 50 * M.length := fun M h => by
          induction M with
          | nil => exact Nat.le_refl _
          | cons x M ih =>
            have h1 := h x (List.mem_cons_self ..)
            have h2 := ih fun l m => h l (List.mem_cons_of_mem _ m)
            rw [List.flatMap_cons, List.length_append, List.length_cons]
            show x.length + _ ≤ _
            omega
        have := z nss l50
        omega
      · rw [pa.2.length_eq, rngI_len]
        omega
    have pre : ∀ i : Nat, ∀ l, L[i]? = some l → ∀ j, ((L.take i).flatMap id).length + (l.take j).length ≤ 5000 := fun i l hl j => by
      have e : (L.flatMap id).length = ((L.take i).flatMap id).length + ((L.drop i).flatMap id).length := by
        rw [← List.length_append, ← List.flatMap_append, List.take_append_drop]
      have e2 : l.length ≤ ((L.drop i).flatMap id).length := by
        obtain ⟨hi, rfl⟩ := List.getElem?_eq_some_iff.mp hl
        rw [List.drop_eq_getElem_cons hi, List.flatMap_cons, List.length_append]
        exact Nat.le_add_right _ _
      rw [List.length_take]
      omega
    refine walk_any walk_list (fun i H' => Same H2 H' ∧ H' D = some (.lst (((L.take i).flatMap id).map V.int))) ⟨(Same.refl H2).new hD, upd_same⟩ (fun i H' _ q => SqL.of (q.1 _ _ hp2)) ?_ ?_
    · rintro i x H3 H4 hi ⟨s3, h3⟩ ⟨rfl, hx⟩
      obtain ⟨l, hl, b, rfl, hb⟩ := par_get tl2 hx
      have hb3 := s3 _ _ hb
      refine ⟨rfl, _, rfl, b, rfl, ⟨_, .inl (.inl hb3)⟩, ?_⟩
      refine walk_any walk_tup (fun j H' => Same H2 H' ∧ H' b = some (.tup (l.map V.int)) ∧ H' D = some (.lst ((((L.take i).flatMap id) ++ l.take j).map V.int))) ⟨s3, hb3, by rw [List.take_zero, List.append_nil]; exact h3⟩ (fun j H' _ q => .inl (.inl q.2.1)) ?_ ?_
      · rintro j y H6 H7 hj ⟨s6, hb6, h6⟩ ⟨rfl, hy⟩
        obtain ⟨z, hz, rfl⟩ := int_at hy
        have bD : b ≠ D := fun e => by rw [e, h6] at hb6; cases hb6
        have sz := pre i l hl j
        refine ⟨rfl, _, rfl, _, h6, ?_, s6.mut hD, by rw [upd_ne bD]; exact hb6, ?_⟩
        · rw [List.length_map, List.length_append]
          exact sm (by omega)
        · rw [upd_same, ← take_snoc hz, ← List.append_assoc]
          simp only [List.map_append]
          rfl
      · rintro H6 ⟨s6, hb6, h6⟩
        rw [List.length_map, List.take_length] at h6
        refine ⟨s6, ?_⟩
        rw [h6, ← take_snoc hl, List.flatMap_append]
        simp
    rintro H3 ⟨s3, h3⟩
    rw [par_len tl2, List.take_length] at h3
    refine ⟨D, _, rfl, SqL.of h3, fun bs p3 pmB odB np3 => ?_⟩
    have s4 : Same H3 (upd H3 p3 (.lst (bs.map V.int))) := (Same.refl H3).new np3
    have hp3 : upd H3 p3 (.lst (bs.map V.int)) p3 = some (.lst (bs.map V.int)) := upd_same
    generalize upd H3 p3 (.lst (bs.map V.int)) = H4 at s4 hp3 ⊢
    have s24 := s3.trans s4
    have s04 := (s1.trans s2).trans s24
    have hp24 := s24 _ _ hp2
    have tl4 := tl_same tl2 s24
    -- the tests
    refine ⟨(by show 0 ≤ sizeLine; decide), fun ea nea => ?_⟩
    have s5 : Same H4 (upd H4 ea (.tup [])) := (Same.refl H4).new nea
    have hea : upd H4 ea (.tup []) ea = some (.tup []) := upd_same
    generalize upd H4 ea (.tup []) = H5 at s5 hea ⊢
    refine ⟨_, rfl, .tuple [], L.map lotD, .tup (.inl (.inl hea)) .nil, .lst (SqL.of (s5 _ _ hp24)) (tl_dp (tl_same tl4 s5)), rfl, shaped_lots L, _, rfl, ?_⟩
    rw [any_nil]
    have s05 := s04.trans s5
    by_cases ce : L.any List.isEmpty = true
    · rw [ce]
      refine iteT ?_
      have np : ¬ Parts ls.length nss := fun z => by
        obtain ⟨l, hl, e⟩ := List.any_eq_true.mp ce
        exact (hP.mpr z).1 l hl (List.isEmpty_iff.mp e)
      rcases ask with ⟨_, _, _, er⟩ | ⟨ol, cn, lo, _⟩
      · exact err_made B.oex B.nf (er.later s05)
      · exact absurd (parts_of cn lo) np
    rw [Bool.eq_false_iff.mpr ce]
    refine iteF ?_
    have ra5 := ra.same s05
    obtain ⟨dx5, t5, hr5, _⟩ := id ra5.weak
    refine ⟨_, rfl, _, rfl, r, CR, dx5, _, rfl, hr5, NM.at_, NM.fn, r, ls, rfl, ra5.weak, _, rfl, by omega, by omega, ?_⟩
    refine ⟨_, rfl, RgOk.of_le (by omega) (by omega) (by omega) (by omega), fun r2 nr2 => ?_⟩
    rw [rgV_rngI]
    have s6 : Same H5 (upd H5 r2 (.lst ((rngI ls.length).map V.int))) := (Same.refl H5).new nr2
    have hr2 : upd H5 r2 (.lst ((rngI ls.length).map V.int)) r2 = some (.lst ((rngI ls.length).map V.int)) := upd_same
    generalize upd H5 r2 (.lst ((rngI ls.length).map V.int)) = H6 at s6 hr2 ⊢
    have s06 := s05.trans s6
    refine ⟨_, _, .lst (SqL.of ((s5.trans s6) _ _ hp3)) (dp_ints _), .lst (SqL.of hr2) (dp_ints _), shaped_ints _, shaped_ints _, ?_⟩
    rw [eqvA_pd]
    have eP : bs = rngI ls.length ↔ (L.flatMap id).Perm (rngI ls.length) :=
      ⟨fun e => by rw [← e]; exact pmB.symm, fun q => sorted_eqI (pmB.trans q) odB (rngI_sorted _)⟩
    have ne : ∀ l ∈ L, l ≠ [] := fun l m z => ce (List.any_eq_true.mpr ⟨l, m, by rw [z]; rfl⟩)
    rcases ask with ⟨no, _, _, er⟩ | ⟨ol, cn, lo, k⟩
    · have nb : ¬ bs = rngI ls.length := fun z => no (hP.mp ⟨ne, eP.mp z⟩)
      rw [decide_eq_false nb]
      exact ⟨_, rfl, iteT (err_made B.oex B.nf (er.later s06))⟩
    · have pa := hP.mpr (parts_of cn lo)
      rw [decide_eq_true (eP.mpr pa.2)]
      refine ⟨_, rfl, iteF ⟨_, rfl, ?_⟩⟩
      obtain ⟨os, po, pq⟩ := lo
      have em : mss = os := lots_of_asc cn so pq fun l hl => po.mem_iff.mp hl
      subst em
      have eL : L = ol := cn.uniq (pL.trans po) (hd_sorted pwL pa.1)
      subst eL
      exact k p2 zs H6 s06 ((s5.trans s6) _ _ hp24) (tl_same tl4 (s5.trans s6))
end
end K
namespace Rg
open PySem PySem.Spec PyProof.Rows L2
theorem op_or {X : Cx} {op : Value → Value → Sem Value} {r1 r2 : R2} (h1 : OpR X op r1) (h2 : OpR X op r2) : OpR X op (fun x y H Q => r1 x y H Q ∨ r2 x y H Q) := by
  intro pins s σ H x y v u Q I rx ry h
  exact h.elim (fun q => h1 pins s σ H x y v u Q I rx ry q) fun q => h2 pins s σ H x y v u Q I rx ry q
end Rg
namespace K
open PySem L2 Rg LamX
open Evl (pss_cut)
def oI : Option Int → V
  | none => .non
  | some i => .int i
section
variable {P : Program} {w : World} {K : PySem.W.Frag} {mg : Str → Option Value} {base : Heap}
/-! ### is_exactly of numbers, None and tuples of them -/
def IV (H : Hp) : Nat → V → V → Prop
  | 0, v, u => ∃ o, v = oI o ∧ u = oI o
  | n + 1, v, u => (∃ o, v = oI o ∧ u = oI o) ∨ ∃ (a b : Addr) (xs ys : List V), v = .ref a ∧ u = .ref b ∧ H a = some (.tup xs) ∧ H b = some (.tup ys) ∧ xs.length ≤ 1000 ∧ Paired (IV H n) xs ys
theorem IV.o {H : Hp} (o : Option Int) : ∀ {n : Nat}, IV H n (oI o) (oI o)
  | 0 => ⟨o, rfl, rfl⟩
  | _ + 1 => .inl ⟨o, rfl, rfl⟩
theorem IV.i {H : Hp} {n : Nat} (i : Int) : IV H n (.int i) (.int i) := IV.o (some i)
theorem IV.ext {H H' : Hp} (s : ExtN H H') : ∀ {n : Nat} {v u : V}, IV H n v u → IV H' n v u
  | 0, v, u, h => h
  | n + 1, v, u, h => by
    rcases h with h | ⟨a, b, xs, ys, e1, e2, ha, hb, l, p⟩
    · exact .inl h
    · exact .inr ⟨a, b, xs, ys, e1, e2, s _ _ ha (fun _ q => nomatch q), s _ _ hb (fun _ q => nomatch q), l, par_imp (fun _ _ k => k.ext s) p⟩
def spIX (n : Nat) : Sp := fun vs H Q _ => ∃ v u : V, vs = [v, u] ∧ IV H n v u ∧ ∀ H', Same H H' → Q (.bl true) H'
abbrev nIX : List Str := ["value", "right", "at"]
theorem scIX : FnScope nIX ["value", "right"] (defScope sIsExactly) := ⟨rfl, rfl, rfl, by decide +kernel, rfl, by decide +kernel, by decide +kernel⟩
theorem oI_ty {K : PySem.W.Frag} {H : Hp} (o : Option Int) : ∃ k : String, TyX K H (oI o) (.type k) ∧ kitB k "tuple" = some false := by
  cases o with
  | none => exact ⟨"NoneType", .base .non, by decide +kernel⟩
  | some i => exact ⟨"int", .base (.int i), by decide +kernel⟩
theorem ok_ix0 {f fI : Addr} {fd fdI : FuncData} (F : Fun K "is_exactly" "is_exactly" sIsExactly f fd) (T : Bi mg) (II : DefAt P w K mg base CX0 1 "is_integer" ["value"] (spIsInt K) fI fdI) : FnOk P w K mg base CX0 2 f fd ["value", "right"] (spIX 0) := by
  refine F.ok scIX (fun vs H Q E h => ?_) (fun cdv A outer s H vs Q E hr h => ?_)
  · obtain ⟨a, b, rfl, _⟩ := h
    rfl
  · have nd := scIX.nd
    refine ⟨_, (pss_cons (ps_if (pt_val (pe_callB call_isi (by rfl) T.isinstance (by decide +kernel) (pa_cons (pv 1) (pa_cons (pe_bltn (v := .ty "tuple") (u := .type "tuple") (by rfl) T.tuple (by decide +kernel) rfl) pa_nil)))) (pss_cons ps_never (pss_one ps_never)) pss_nil)
      (pss_cons (ps_if (pt_cmpR op_isN (pv 1) pe_non (nomark _)) (pss_one (ps_ret (pe_cmpR op_isN (pv 0) pe_non (nomark _)))) pss_nil)
      (pss_one (ps_ret (pe_and (pe_call II.ok (hr.mono (by decide)) rfl II.g II.kp II.b .nil pass0 (pa_cons (pv 0) pa_nil)) (pe_one (pe_cmpR op_eq (pv 0) (pv 1) (nomark _)))))))), ?_⟩
    obtain ⟨_, _, rfl, ⟨o, rfl, rfl⟩, q⟩ := h
    obtain ⟨k, ty, kt⟩ := oI_ty (K := K) (H := H) o
    refine ⟨_, rfl, oI o, .ty "tuple", _, _, false, rfl, .ty _, ty, kit_ty kt, _, rfl, iteF ?_⟩
    cases o with
    | none => exact ⟨_, rfl, rfl, _, rfl, iteDT rfl ⟨_, rfl, rfl, q H (Same.refl H)⟩⟩
    | some i =>
      refine ⟨_, rfl, rfl, _, rfl, iteDF (fun z => nomatch z) ?_⟩
      refine ⟨_, rfl, .int i, "int", rfl, Knd.int, _, rfl, iteT ?_⟩
      refine ⟨_, rfl, _, rfl, rfl, ?_⟩
      show Q (.bl (decide (V.int i = V.int i))) H
      rw [decide_eq_true rfl]
      exact q H (Same.refl H)
theorem ok_ix1 {n : Nat} {f fI : Addr} {fd fdI : FuncData} (F : Fun K "is_exactly" "is_exactly" sIsExactly f fd) (T : Bi mg) (II : DefAt P w K mg base CX0 1 "is_integer" ["value"] (spIsInt K) fI fdI) (IX : DefAt P w K mg base CX0 (n + 2) "is_exactly" ["value", "right"] (spIX n) f fd) : FnOk P w K mg base CX0 (n + 3) f fd ["value", "right"] (spIX (n + 1)) := by
  refine F.ok scIX (fun vs H Q E h => ?_) (fun cdv A outer s H vs Q E hr h => ?_)
  · obtain ⟨a, b, rfl, _⟩ := h
    rfl
  · have nd := scIX.nd
    refine ⟨_, (pss_cons (ps_if (pt_val (pe_callB call_isi (by rfl) T.isinstance (by decide +kernel) (pa_cons (pv 1) (pa_cons (pe_bltn (v := .ty "tuple") (u := .type "tuple") (by rfl) T.tuple (by decide +kernel) rfl) pa_nil)))) (pss_cons (ps_if (PW.pt (pw_or (pt_not (pt_val (pe_callB call_isi (by rfl) T.isinstance (by decide +kernel) (pa_cons (pv 0) (pa_cons (pe_bltn (v := .ty "tuple") (u := .type "tuple") (by rfl) T.tuple (by decide +kernel) rfl) pa_nil))))) (pw_or1 (pt_cmpR op_ne (pe_callB (r := rLenS K) call_len_seq (by rfl) T.len PySem.boot_len (pa_cons (pv 0) pa_nil)) (pe_callB (r := rLenS K) call_len_seq (by rfl) T.len PySem.boot_len (pa_cons (pv 1) pa_nil)) (nomark _))))) (pss_one (ps_ret pe_bl)) pss_nil)
      (pss_one (ps_ret (pe_callB (cr_all rfl) (by rfl) T.all (by decide +kernel) (pa_cons (pe_lc (own := [("at", 2)]) (g := (gName 2)) (tt := tYes) (te := tCall (spIX n) [] E0 (tCons (tOp (rIxT K) (tVar 0) (tVar 2)) (tCons (tOp (rIxT K) (tVar 1) (tVar 2)) tNil)))  rfl nd (pi_range1 (by rfl) T.range (pa_cons (pe_callB (r := rLenS K) call_len_seq (by rfl) T.len PySem.boot_len (pa_cons (pv 1) pa_nil)) pa_nil))
          (blkOk_by (N := nIX) (sc := defScope sIsExactly) (by decide +kernel)) (fun _ _ _ _ _ => (pg_name (i := 2) nd rfl (Or.inl rfl))) (fun _ _ _ _ _ => pts_nil) (fun _ _ _ _ _ => (pe_call IX.ok (hr.mono (by omega)) rfl IX.g IX.kp IX.b .nil pass0 (pa_cons (pe_ix (r := rIxT K) ix_tup (pv 0) (pv 2) (fun _ _ => rfl)) (pa_cons (pe_ix (r := rIxT K) ix_tup (pv 1) (pv 2) (fun _ _ => rfl)) pa_nil))))) pa_nil))))) pss_nil)
      (pss_cons (ps_if (pt_cmpR op_isN (pv 1) pe_non (nomark _)) (pss_one (ps_ret (pe_cmpR op_isN (pv 0) pe_non (nomark _)))) pss_nil)
      (pss_one (ps_ret (pe_and (pe_call II.ok (hr.mono (by omega)) rfl II.g II.kp II.b .nil pass0 (pa_cons (pv 0) pa_nil)) (pe_one (pe_cmpR op_eq (pv 0) (pv 1) (nomark _)))))))), ?_⟩
    obtain ⟨v, u, rfl, h, q⟩ := h
    rcases h with ⟨o, rfl, rfl⟩ | ⟨a, b, xs, ys, rfl, rfl, ha, hb, l, px⟩
    · obtain ⟨k, ty, kt⟩ := oI_ty (K := K) (H := H) o
      refine ⟨_, rfl, oI o, .ty "tuple", _, _, false, rfl, .ty _, ty, kit_ty kt, _, rfl, iteF ?_⟩
      cases o with
      | none => exact ⟨_, rfl, rfl, _, rfl, iteDT rfl ⟨_, rfl, rfl, q H (Same.refl H)⟩⟩
      | some i =>
        refine ⟨_, rfl, rfl, _, rfl, iteDF (fun z => nomatch z) ?_⟩
        refine ⟨_, rfl, .int i, "int", rfl, Knd.int, _, rfl, iteT ?_⟩
        refine ⟨_, rfl, _, rfl, rfl, ?_⟩
        show Q (.bl (decide (V.int i = V.int i))) H
        rw [decide_eq_true rfl]
        exact q H (Same.refl H)
    · have yl : xs.length = ys.length := par_len px
      refine ⟨_, rfl, .ref b, .ty "tuple", _, _, true, rfl, .ty _, .base (.tup hb), kit_ty (kit_tuple "tuple" (by decide)), _, rfl, iteT ?_⟩
      refine ⟨_, rfl, .ref a, .ty "tuple", _, _, true, rfl, .ty _, .base (.tup ha), kit_ty (kit_tuple "tuple" (by decide)), _, rfl, iteF ?_⟩
      refine ⟨_, rfl, a, _, rfl, .inr (.inl (.inl ha)), _, rfl, b, _, rfl, .inr (.inl (.inl hb)), rfl, _, rfl, ?_⟩
      rw [yl]
      refine iteBF (ne_vv _) ?_
      refine ⟨_, rfl, b, _, rfl, .inr (.inl (.inl hb)), _, rfl, by omega, by omega, fun D nD => ?_⟩
      refine lc_range (lo := 0) (n := (ys.length : Int).toNat) (fun i H' => Same H H' ∧ H' D = some (.lst ((List.replicate i true).map V.bl))) ⟨(Same.refl H).new nD, upd_same⟩ ?_ ?_
      · rintro i H' hi ⟨s2, h2⟩
        have hi1 : i < ys.length := by omega
        have hx : xs[i]? = some (xs[i]'(by omega)) := List.getElem?_eq_getElem (by omega)
        obtain ⟨y, hy, iv⟩ := par_get px hx
        refine ⟨rfl, _, rfl, _, rfl, a, _, (0 : Int) + (i : Int), _, rfl, rfl, .inl (.inl (s2 _ _ ha)), at_of (j := i) (by omega) hx, _, rfl, _, rfl, b, _, (0 : Int) + (i : Int), _, rfl, rfl, .inl (.inl (s2 _ _ hb)), at_of (j := i) (by omega) hy, ?_⟩
        refine ⟨_, _, rfl, iv.ext (ExtN.of s2), fun H3 s3 => ?_⟩
        refine ⟨_, s3 _ _ h2, (by rw [List.length_map, List.length_replicate]; exact sm (by omega)), (s2.trans s3).mut nD, ?_⟩
        rw [upd_same, List.replicate_succ', List.map_append]
        rfl
      rintro H2 ⟨s2, h2⟩
      refine ⟨D, _, rfl, SqL.of h2, ?_⟩
      have e2 : (List.replicate (ys.length : Int).toNat true).all id = true := List.all_eq_true.mpr fun x hx => by rw [(List.mem_replicate.mp hx).2]; rfl
      rw [e2]
      exact q H2 s2

theorem at_ix {f fI : Addr} {fd fdI : FuncData} (F : Fun K "is_exactly" "is_exactly" sIsExactly f fd) (T : Bi mg) (II : DefAt P w K mg base CX0 1 "is_integer" ["value"] (spIsInt K) fI fdI) (g : mg "is_exactly" = some (.ref f)) (kp : PySem.W.keepIn K (.ref f) = true) (b : Binds K fd ["value", "right"] []) : ∀ n, DefAt P w K mg base CX0 (n + 2) "is_exactly" ["value", "right"] (spIX n) f fd
  | 0 => ⟨ok_ix0 F T II, g, kp, b⟩
  | n + 1 => ⟨ok_ix1 F T II (at_ix F T II g kp b n), g, kp, b⟩
/-! ### a NoSigns of lots -/
def NoSgR (C : Addr) (H : Hp) (q : Addr) (gs : List (List Int)) : Prop := ∃ v1, PapG C "nosigns" (fsOI v1) H q ∧ FV H false 2 v1 (lotsD gs)
theorem NoSgR.ext {C : Addr} {H H' : Hp} {q : Addr} {gs : List (List Int)} (h : NoSgR C H q gs) (s : ExtN H H') : NoSgR C H' q gs := let ⟨u, a, b⟩ := h; ⟨u, a.ext s, b.ext s⟩
theorem lot_fv {H : Hp} {f : Bool} {v : V} {l : List Int} (h : (∃ a, v = V.ref a ∧ H a = some (.tup (l.map V.int))) ∨ (f = true ∧ LI H v l)) (l8 : l.length ≤ 1000) : FV H f 1 v (lotD l) := by
  have p : Paired (FV H f 0) (l.map V.int) (l.map PyData.int) := by
    clear h l8
    induction l with
    | nil => exact .nil
    | cons x l ih => exact .cons (FV.int _) ih
  rcases h with ⟨a, rfl, h⟩ | ⟨rfl, a, rfl, h⟩
  · exact .inr ⟨a, _, _, rfl, .inl h, rfl, by rw [List.length_map]; exact l8, p⟩
  · exact .inr ⟨a, _, _, rfl, .inr ⟨rfl, h⟩, rfl, by rw [List.length_map]; exact l8, p⟩
theorem lots_fv {H : Hp} {f : Bool} : ∀ {xs : List V} {gs : List (List Int)}, Paired (fun v l => FV H f 1 v (lotD l)) xs gs → Paired (FV H f 1) xs (gs.map lotD)
  | _, _, .nil => .nil
  | _, _, .cons h t => .cons h (lots_fv t)
theorem madeO {C : Addr} {E : XK} {H : Hp} {v : V} {gs : List (List Int)} {R : Addr → VK} (fv : FV H true 2 v (lotsD gs)) (h : ∀ x H', Same H H' → NoSgR C H' x gs → R x .non H') :
    ∀ x dx, H x = none → H dx = none → dx ≠ x → spOI K C 2 (.ref x :: ([v] ++ [])) (upd (upd H dx (.own x)) x (.ins C dx [])) (R x) E := by
  intro x dx hx hdx _
  have s0 : Same H (upd (upd H dx (.own x)) x (.ins C dx [])) := fun b o q => by
    rw [upd_ne (ne_of_none q hx), upd_ne (ne_of_none q hdx)]
    exact q
  exact ⟨x, dx, v, lotsD gs, rfl, upd_same, fv.same s0, fun w1 H' kp f1 pg => h x H' (fun b o e => kp b o (ne_of_none e hx) (s0 b o e)) ⟨w1, pg, f1⟩⟩
theorem ask_cn {c : Cs} {cL : Addr} {E : XK} {n : Nat} {H : Hp} {v : V} {q q2 : List (List Int) → Prop} (a : AskL K c cL E n H v q) (h : ∀ ol, Cn n ol → q ol → q2 ol) : AskL K c cL E n H v q2 := by
  rcases a with a | ⟨a, xs, rs, e, ha, px, xl, f⟩
  · exact .inl a
  · refine .inr ⟨a, xs, rs, e, ha, px, xl, ?_⟩
    rcases f with f | ⟨nss, e, f⟩
    · exact .inl f
    · exact .inr ⟨nss, e, f.imp id fun ⟨a1, a2⟩ => ⟨a1, a2.imp id fun ⟨ol, cn, lo, k⟩ => ⟨ol, cn, lo, h ol cn k⟩⟩⟩
theorem par_memr {α β : Type} {R S : α → β → Prop} : ∀ {xs : List α} {ys : List β}, Paired R xs ys → (∀ x y, y ∈ ys → R x y → S x y) → Paired S xs ys
  | _, _, .nil, _ => .nil
  | _, _, .cons h t, i => .cons (i _ _ (List.mem_cons_self ..) h) (par_memr t fun x y m => i x y (List.mem_cons_of_mem _ m))
/-! ### == of such papers -/
def spAEo (C : Addr) : Sp := fun vs H Q _ => ∃ (r s : Addr) (gs : List (List Int)), vs = [.ref r, .ref s] ∧ NoSgR C H r gs ∧ NoSgR C H s gs ∧ ∀ H', Same H H' → Q (.bl true) H'
theorem ok_aeo {C f : Addr} {fd : FuncData} (F : Fun K "are_equal" "are_equal" sAreEqual f fd) (RC : NoSgC K mg C) (ic : C8.InsC K C) (nc : NamC K C "NoSigns") : FnOk P w K mg base CX0 4 f fd ["one", "other"] (spAEo C) := by
  refine F.ok scAE (fun vs H Q E h => ?_) (fun cdv A outer s H vs Q E hr h => ?_)
  · obtain ⟨r, s, gs, rfl, _⟩ := h
    rfl
  · have nd := scAE.nd
    refine ⟨_, (pss_cons (ps_if (pt_cmpR op_ne (pe_cname (pv 0)) (pe_cname (pv 1)) (nomark _)) (pss_one (ps_ret pe_bl)) pss_nil)
      (pss_one (ps_ret (pe_and (pe_cmpR op_eq (pe_fld (pv 0) rfl) (pe_fld (pv 1) rfl) (nomark _)) (pe_one (pe_cmpR (op_eqD hr.units) (pe_fld (pv 0) rfl) (pe_fld (pv 1) rfl) (nomark _))))))), ?_⟩
    obtain ⟨r, s, gs, rfl, ⟨v1, ⟨dx, t, hr0, ht⟩, f1⟩, ⟨v2, ⟨dy, t', hs0, ht'⟩, f2⟩, q⟩ := h
    have pc := RC.pc
    refine ⟨_, rfl, r, C, dx, _, "NoSigns", rfl, hr0, ic, nc, _, rfl, s, C, dy, _, "NoSigns", rfl, hs0, ic, nc, rfl, _, rfl, ?_⟩
    rw [decide_eq_true rfl]
    refine iteF ?_
    refine ⟨_, rfl, r, C, dx, _, _, rfl, hr0, pc.cl, pc.nw, rfl, _, rfl, s, C, dy, _, _, rfl, hs0, pc.cl, pc.nw, rfl, rfl, _, rfl, ?_⟩
    rw [decide_eq_true rfl]
    refine iteT ?_
    refine ⟨_, rfl, r, C, dx, _, _, rfl, hr0, pc.cl, pc.np, rfl, _, rfl, s, C, dy, _, _, rfl, hs0, pc.cl, pc.np, rfl, ?_⟩
    have g1 : FV H false 3 (.ref t) (.tuple [lotsD gs]) := .inr ⟨t, _, _, rfl, .inl ht, rfl, (by show 1 ≤ 1000; decide), .cons f1 .nil⟩
    have g2 : FV H false 3 (.ref t') (.tuple [lotsD gs]) := .inr ⟨t', _, _, rfl, .inl ht', rfl, (by show 1 ≤ 1000; decide), .cons f2 .nil⟩
    refine ⟨_, _, fv_dp g1, fv_dp g2, fv_shaped g1 (by decide), fv_shaped g2 (by decide), ?_⟩
    rw [(fv_good g1).2.2]
    exact q H (Same.refl H)
theorem scDE : FnScope ["self", "other"] ["self", "other"] (defScope sDenialEq) := ⟨rfl, rfl, rfl, by decide +kernel, rfl, by decide +kernel, by decide +kernel⟩
theorem ok_peo {C aP f fA : Addr} {fd fdA : FuncData} (F : Fun K "__eq__" "Denial.__eq__" sDenialEq f fd) (T : Bi mg) (PG : mg "Paper" = some (.ref aP)) (SB : PySem.W.kitOne K (.ref C) (.ref aP) = some true) (ic : C8.InsC K C)
    (AE : DefAt P w K mg base CX0 4 "are_equal" ["one", "other"] (spAEo C) fA fdA) : FnOk P w K mg base CX0 5 f fd ["self", "other"] (spAEo C) := by
  refine F.ok scDE (fun vs H Q E h => ?_) (fun cdv A outer s H vs Q E hr h => ?_)
  · obtain ⟨r, s, gs, rfl, _⟩ := h
    rfl
  · have nd := scDE.nd
    refine ⟨_, (pss_one (ps_ret (pe_and (pe_callB call_isi (by rfl) T.isinstance (by decide +kernel) (pa_cons (pv 1) (pa_cons (pe_glob (v := .ref aP) rfl PG rfl) pa_nil))) (pe_one (pe_call AE.ok (hr.mono (by decide)) rfl AE.g AE.kp AE.b .nil pass0 (pa_cons (pv 0) (pa_cons (pv 1) pa_nil))))))), ?_⟩
    obtain ⟨r, s, gs, rfl, p1, p2, q⟩ := h
    obtain ⟨v2, ⟨dy, t', hs0, _⟩, _⟩ := id p2
    refine ⟨_, rfl, .ref s, .ref aP, .ref C, .ref aP, true, rfl, .own _, .base (.ins hs0 ic.cl ic.ha ic.hn ic.htk ic.hm), SB, _, rfl, iteT ?_⟩
    exact ⟨_, rfl, _, rfl, r, s, gs, rfl, p1, p2, q⟩
structure NoSQ (P : Program) (w : World) (K : PySem.W.Frag) (mg : Str → Option Value) (base : Heap) (C fQ : Addr) (fdQ : FuncData) : Prop where
  ok : FnOk P w K mg base CX0 5 fQ fdQ ["self", "other"] (spAEo C)
  ne : PySem.W.findIn K (.ref C) "__ne__" = some (some (.builtin "object.__ne__"))
  sub : PySem.W.subIn K (.ref C) (.type "object") = some true
  eq : PySem.W.findIn K (.ref C) "__eq__" = some (some (.ref fQ))
  fn : PySem.W.isFn K (.ref fQ) = true
  b : Binds K fdQ ["self", "other"] []
end
end K
namespace K
open PySem L2 Rg LamX
open Evl (pss_cut)
theorem great_len {n : Nat} {ol : List (List Int)} (c : Cn n ol) (m1 : 1 ≤ n) (m8 : n ≤ 8) {ls : List Int} {wy : List Strd} (h : wy ∈ waysC n ol) : (greatOf ls wy).length ≤ 8 := by
  unfold greatOf lotI
  rw [List.length_map, List.getD_eq_getElem?_getD]
  cases e : (dueW wy)[atN (netsW ls (dueW wy))]? with
  | none => exact Nat.zero_le _
  | some st => exact ((due_good (c.good m1 m8 h)).st st (List.mem_of_getElem? e)).2.1
/-- the lots that bar each choice -/
def greatsC (ls : List Int) (ol : List (List Int)) : List (List Int) := (waysC ls.length ol).map (greatOf ls)
theorem fv_iv1 {H : Hp} {v u : V} {l : List Int} (h : FV H false 1 v (lotD l)) (k : ∃ a, u = V.ref a ∧ H a = some (.tup (l.map V.int))) : IV H 1 v u := by
  rcases h with (⟨_, _, z⟩ | ⟨_, z⟩ | ⟨_, _, z⟩) | ⟨a, xs, ds, rfl, ha, e, hl, p⟩
  · cases z
  · cases z
  · cases z
  · cases e
    rcases ha with ha | ⟨z, _⟩
    · obtain ⟨b, rfl, hb⟩ := k
      refine .inr ⟨a, b, xs, _, rfl, rfl, ha, hb, hl, ?_⟩
      rw [fv_par p]
      clear p ha hb hl
      induction l with
      | nil => exact .nil
      | cons x l ih => exact .cons (IV.i x) ih
    · cases z
theorem fv_iv2 {H : Hp} {v : V} {b : Addr} {ys : List V} {gs : List (List Int)} (h : FV H false 2 v (lotsD gs)) (hb : H b = some (.tup ys)) (p : Paired (LG H) ys gs) : IV H 2 v (.ref b) := by
  rcases h with (⟨_, _, z⟩ | ⟨_, z⟩ | ⟨_, _, z⟩) | ⟨a, xs, ds, rfl, ha, e, hl, px⟩
  · cases z
  · cases z
  · cases z
  · cases e
    rcases ha with ha | ⟨z, _⟩
    · refine .inr ⟨a, b, xs, ys, rfl, rfl, ha, hb, hl, ?_⟩
      clear ha hb hl
      induction p generalizing xs with
      | nil => cases px; exact .nil
      | cons h _ ih =>
        cases px with
        | cons k t => exact .cons (fv_iv1 k h) (ih _ t)
    · cases z
section
variable {P : Program} {w : World} {K : PySem.W.Frag} {mg : Str → Option Value} {base : Heap}
/-! ### with_signs -/
def SgnR (CM CL CO : Addr) (H : Hp) (q : Addr) (ls : List Int) (ol : List (List Int)) : Prop :=
  ((waysC ls.length ol).filter (hadW ls) = [] ∧ NoSgR CO H q (greatsC ls ol)) ∨ ∃ wy, ((waysC ls.length ol).filter (hadW ls)).head? = some wy ∧ MostR CM CL H q (dueW wy)
theorem SgnR.ext {CM CL CO : Addr} {H H' : Hp} {q : Addr} {ls : List Int} {ol : List (List Int)} (h : SgnR CM CL CO H q ls ol) (s : ExtN H H') : SgnR CM CL CO H' q ls ol := h.imp (fun ⟨a, b⟩ => ⟨a, b.ext s⟩) fun ⟨w, a, b⟩ => ⟨w, a, b.ext s⟩
def spWG (K : PySem.W.Frag) (CR CL CM CO cR : Addr) (c : Cs) (cL : Addr) : Sp := fun vs H Q E => ∃ v u : V, vs = [v, u] ∧ AskP K CR cR c cL E H v u fun r ls ol => ∀ q H', Same H H' → SgnR CM CL CO H' q ls ol → Q (.ref q) H'
abbrev nWG : List Str := ["ring", "lots", "lineup", "great"]
theorem scWG : FnScope nWG ["ring", "lots"] (defScope sWithSigns) := ⟨rfl, rfl, rfl, by decide +kernel, rfl, by decide +kernel, by decide +kernel⟩
theorem ok_wg {CR CL CM CO cR cL : Addr} {c : Cs} {f fW fS fM fO : Addr} {fd fdW fdS fdM fdO : FuncData} (F : Fun K "with_signs" "with_signs" sWithSigns f fd) (RC : MostC K mg CM) (MP : MostP P w K mg base CM CL fM fdM) (RO : NoSgC K mg CO) (NP : NoSgP P w K mg base CO fO fdO)
    (WP : DefAt P w K mg base (L2.CX P w) 6 "want_parted" ["ring", "lots"] (spWP K CR cR c cL) fW fdW) (FS : DefAt P w K mg base CX0 7 "first_signs" ["ring", "lots"] (spFS K CR CL) fS fdS) : FnOk P w K mg base (L2.CX P w) 8 f fd ["ring", "lots"] (spWG K CR CL CM CO cR c cL) := by
  refine F.okX scWG (fun vs H Q E h => ?_) (fun cdv A outer s H vs Q E hr h => ?_)
  · obtain ⟨v, u, rfl, _⟩ := h
    rfl
  · have nd := scWG.nd
    refine ⟨_, pss_cons (ps_asg (pe_call FS.ok (hr.mono (by decide)) rfl FS.g FS.kp FS.b .nil pass0 (pa_cons (pv 0) (pa_cons (pe_call WP.ok (hr.mono (by decide)) rfl WP.g WP.kp WP.b .nil (passes_call (takes_of rfl rfl rfl rfl) (fun _ _ _ _ h => h)) (pa_cons (pv 0) (pa_cons (pv 1) pa_nil))) pa_nil))) (pg_tup (by rfl) (pgs_cons (pg_name (i := 2) nd rfl (Or.inl rfl)) (pgs_cons (pg_name (i := 3) nd rfl (Or.inl rfl)) pgs_nil))))
      (pss_one (ps_ret (pe_ifExp (pt_cmpR op_isN (pv 2) pe_non (nomark _)) (pe_make NP.made NP.ok (hr.mono (by decide)) (by rfl) RO.g NP.b .nil pass0 (pa_cons (pv 3) pa_nil)) (pe_make MP.made MP.ok (hr.mono (by decide)) (by rfl) RC.g MP.b .nil pass0 (pa_cons (pv 2) pa_nil))))), ?_⟩
    obtain ⟨v, u, rfl, ⟨no, er⟩ | ⟨r, ls, rfl, ra, l3, l8, ask⟩⟩ := h
    · exact ⟨_, rfl, _, rfl, _, rfl, v, u, rfl, .inl ⟨no, er⟩⟩
    refine ⟨_, rfl, _, rfl, _, rfl, _, u, rfl, .inr ⟨r, ls, rfl, ra, l3, l8, ask_cn ask fun ol cn k => fun p ys H1 s1 hp tl => ?_⟩⟩
    refine ⟨r, p, ls, ys, ol, _, rfl, ra.same s1, l3, l8, hp, tl, cn.part (by omega) l8, cn.pm, fun t x g gs H2 s2 ht hg res => ?_⟩
    have s02 := s1.trans s2
    refine ⟨t, _, rfl, .inl (.inl ht), rfl, _, _, rfl, _, _, rfl, rfl, ?_⟩
    rcases res with ⟨fe, rfl, pg⟩ | ⟨wy, u2, hd, rfl, lf⟩
    · refine ⟨_, rfl, rfl, _, rfl, iteDT rfl ?_⟩
      have gl : gs.length ≤ 128 := by
        rw [par_len pg, List.length_map]
        exact (waysC_len cn (by omega) l8).2
      have fv : FV H2 true 2 (.ref g) (lotsD (greatsC ls ol)) := by
        refine .inr ⟨g, gs, _, rfl, .inr ⟨rfl, hg⟩, rfl, by omega, lots_fv ?_⟩
        refine par_memr pg fun v l m h => ?_
        obtain ⟨wy, hw, rfl⟩ := List.mem_map.mp m
        exact lot_fv (.inl h) (by have := great_len cn (by omega) l8 (ls := ls) hw; omega)
      refine ⟨_, rfl, madeO fv fun q H3 s3 nr => ⟨rfl, ?_⟩⟩
      exact k q H3 (s02.trans s3) (.inl ⟨fe, nr⟩)
    · refine ⟨_, rfl, rfl, _, rfl, iteDF (fun z => nomatch z) ?_⟩
      refine ⟨_, rfl, madeM lf fun q H3 s3 pg => ⟨rfl, ?_⟩⟩
      exact k q H3 (s02.trans s3) (.inr ⟨wy, hd, u2, pg, lf.same s3⟩)
/-! ### shows_signs -/
def ShowS (K : PySem.W.Frag) (CL CM CO : Addr) (H : Hp) (x : V) (ls : List Int) (ol : List (List Int)) (Q : VK) : Prop :=
  (∃ q W, x = .ref q ∧ MostR CM CL H q W ∧ goodV ls.length W ∧ W.map lotI = ol ∧ ∀ H', Same H H' → Q (.bl (hadN (netsW ls W))) H') ∨
  ∃ q gs, x = .ref q ∧ NoSgR CO H q gs ∧ (((waysC ls.length ol).filter (hadW ls) = [] ∧ gs = greatsC ls ol ∧ ∀ H', Same H H' → Q (.bl true) H') ∨ ((waysC ls.length ol).filter (hadW ls) ≠ [] ∧ ∀ H', Same H H' → Q (.bl false) H'))
def spSG (K : PySem.W.Frag) (CR CL CM CO cR : Addr) (c : Cs) (cL : Addr) : Sp := fun vs H Q E => ∃ v u x : V, vs = [v, u, x] ∧ AskP K CR cR c cL E H v u fun r ls ol => ShowS K CL CM CO H x ls ol Q
abbrev nSG : List Str := ["ring", "lots", "value", "told", "lineup", "found", "great"]
theorem scSG : FnScope nSG ["ring", "lots", "value"] (defScope sShowsSigns) := ⟨rfl, rfl, rfl, by decide +kernel, rfl, by decide +kernel, by decide +kernel⟩
theorem lt_tl {H : Hp} : ∀ {zs : List V} {W : List Strd}, Paired (LotT H) zs W → TL H zs (W.map lotI)
  | _, _, .nil => .nil
  | _, _, .cons h t => .cons h (lt_tl t)
theorem eqv_lots (a b : List (List Int)) : PyData.eqv (lotsD a) (lotsD b) = decide (a = b) := by
  have go : ∀ a b : List (List Int), PyData.eqvAll (a.map lotD) (b.map lotD) = decide (a = b) := fun a => by
    induction a with
    | nil => intro b; cases b <;> simp [PyData.eqvAll]
    | cons x a ih =>
      intro b
      cases b with
      | nil => simp [PyData.eqvAll]
      | cons y b =>
        have e1 : PyData.eqv (lotD x) (lotD y) = decide (x = y) := by
          unfold lotD
          simp [PyData.eqv, Rg.eqvA_ints8]
        simp only [List.map_cons, PyData.eqvAll, ih b, e1]
        by_cases e : x = y <;> by_cases f : a = b <;> simp [e, f]
  unfold lotsD
  rw [PyData.eqv]
  exact go a b
theorem ok_sg {CR CL CM CO cR cL : Addr} {c : Cs} {f fW fS fI fX fH : Addr} {fd fdW fdS fdI fdX fdH : FuncData} (F : Fun K "shows_signs" "shows_signs" sShowsSigns f fd) (T : Bi mg) (RC : MostC K mg CM) (RO : NoSgC K mg CO) (RL : LineC K mg CL) (LI : C8.InsC K CL) (MI : C8.InsC K CM) (OI : C8.InsC K CO)
    (NMs : NamC K CM "Signs") (NOs : NamC K CO "NoSigns") (kOM : PySem.W.kitOne K (.ref CO) (.ref CM) = some false)
    (WP : DefAt P w K mg base (L2.CX P w) 6 "want_parted" ["ring", "lots"] (spWP K CR cR c cL) fW fdW) (FS : DefAt P w K mg base CX0 7 "first_signs" ["ring", "lots"] (spFS K CR CL) fS fdS) (IC : DefAt P w K mg base CX0 1 "is_called" ["value", "name"] (spIC K) fI fdI)
    (IX : DefAt P w K mg base CX0 4 "is_exactly" ["value", "right"] (spIX 2) fX fdX) (IH : DefAt P w K mg base CX0 2 "is_had" ["ring", "lineup"] (spIH K CR CL) fH fdH) : FnOk P w K mg base (L2.CX P w) 8 f fd ["ring", "lots", "value"] (spSG K CR CL CM CO cR c cL) := by
  refine F.okX scSG (fun vs H Q E h => ?_) (fun cdv A outer s H vs Q E hr h => ?_)
  · obtain ⟨v, u, x, rfl, _⟩ := h
    rfl
  · have nd := scSG.nd
    refine ⟨_, pss_cons (ps_set (i := 3) nd rfl (Or.inl rfl) (pe_call WP.ok (hr.mono (by decide)) rfl WP.g WP.kp WP.b .nil (passes_call (takes_of rfl rfl rfl rfl) (fun _ _ _ _ h => h)) (pa_cons (pv 0) (pa_cons (pv 1) pa_nil))))
      (pss_cons (ps_if (PW.pt (pw_and (pt_val (pe_callB call_isi (by rfl) T.isinstance (by decide +kernel) (pa_cons (pv 2) (pa_cons (pe_glob (v := .ref CM) rfl RC.g rfl) pa_nil)))) (pw_and1 (pt_val (pe_call IC.ok (hr.mono (by decide)) rfl IC.g IC.kp IC.b .nil pass0 (pa_cons (pv 2) (pa_cons pe_str pa_nil)))))))
        (pss_cons (ps_set (i := 4) nd rfl (Or.inl rfl) (pe_fld (pv 2) rfl))
        (pss_cons (ps_if (PW.pt (pw_or (pt_not (pt_val (pe_callB call_isi (by rfl) T.isinstance (by decide +kernel) (pa_cons (pv 4) (pa_cons (pe_glob (v := .ref CL) rfl RL.g rfl) pa_nil))))) (pw_or1 (pt_cmpR (op_neD hr.units) (pe_fld (pv 4) rfl) (pe_callTy (r := rTupOf K) call_tuple_of (by rfl) T.tuple (by decide +kernel) (pa_cons (pv 3) pa_nil)) (nomark _))))) (pss_one (ps_ret pe_bl)) pss_nil)
        (pss_one (ps_ret (pe_call IH.ok (hr.mono (by decide)) rfl IH.g IH.kp IH.b .nil pass0 (pa_cons (pv 0) (pa_cons (pv 4) pa_nil))))))) pss_nil)
      (pss_cons (ps_if (PW.pt (pw_and (pt_val (pe_callB call_isi (by rfl) T.isinstance (by decide +kernel) (pa_cons (pv 2) (pa_cons (pe_glob (v := .ref CO) rfl RO.g rfl) pa_nil)))) (pw_and1 (pt_val (pe_call IC.ok (hr.mono (by decide)) rfl IC.g IC.kp IC.b .nil pass0 (pa_cons (pv 2) (pa_cons pe_str pa_nil)))))))
        (pss_cons (ps_asg (pe_call FS.ok (hr.mono (by decide)) rfl FS.g FS.kp FS.b .nil pass0 (pa_cons (pv 0) (pa_cons (pv 3) pa_nil))) (pg_tup (by rfl) (pgs_cons (pg_name (i := 5) nd rfl (Or.inl rfl)) (pgs_cons (pg_name (i := 6) nd rfl (Or.inl rfl)) pgs_nil))))
        (pss_one (ps_ret (pe_and (pe_cmpR op_isN (pv 5) pe_non (nomark _)) (pe_one (pe_call IX.ok (hr.mono (by decide)) rfl IX.g IX.kp IX.b .nil pass0 (pa_cons (pe_fld (pv 2) rfl) (pa_cons (pe_callTy (r := rTupOf K) call_tuple_of (by rfl) T.tuple (by decide +kernel) (pa_cons (pv 6) pa_nil)) pa_nil)))))))) pss_nil)
      (pss_one ps_never))), ?_⟩
    obtain ⟨v, u, x, rfl, ⟨no, er⟩ | ⟨r, ls, rfl, ra, l3, l8, ask⟩⟩ := h
    · exact ⟨_, rfl, _, rfl, v, u, rfl, .inl ⟨no, er⟩⟩
    refine ⟨_, rfl, _, rfl, _, u, rfl, .inr ⟨r, ls, rfl, ra, l3, l8, ask_cn ask fun ol cn k => fun p ys H1 s1 hp tl => ?_⟩⟩
    have yl : ys.length ≤ 8 := by rw [par_len tl]; exact Nat.le_trans cn.len.1 l8
    rcases k with ⟨q, W, rfl, ⟨u0, pg, lf⟩, gw, eW, k⟩ | ⟨q, gs, rfl, nr, k⟩
    · have pg1 := pg.ext (ExtN.of s1)
      have lf1 := lf.same s1
      obtain ⟨dx, tq, hq, htq⟩ := id pg1
      refine ⟨_, rfl, .ref q, .ref CM, .ref CM, .ref CM, true, rfl, .own _, .base (.ins hq MI.cl MI.ha MI.hn MI.htk MI.hm), MI.me, _, rfl, iteT ?_⟩
      refine ⟨_, rfl, q, CM, dx, _, "Signs", rfl, hq, MI, NMs, _, rfl, iteT ?_⟩
      refine ⟨_, rfl, q, CM, dx, _, _, rfl, hq, RC.pc.cl, RC.n1, rfl, ?_⟩
      obtain ⟨dl, t1, l2, zs, nn, hl, en, sw, hl2, pz⟩ := id lf1
      refine ⟨_, rfl, .ref u0, .ref CL, .ref CL, .ref CL, true, rfl, .own _, .base (.ins hl LI.cl LI.ha LI.hn LI.htk LI.hm), LI.me, _, rfl, iteF ?_⟩
      refine ⟨_, rfl, u0, CL, dl, _, _, rfl, hl, RL.cl, RL.nL, rfl, _, rfl, p, _, rfl, .inl ⟨SqL.of hp, fun t nt => ?_⟩⟩
      have s2 : Same H1 (upd H1 t (.tup ys)) := (Same.refl H1).new nt
      have ht : upd H1 t (.tup ys) t = some (.tup ys) := upd_same
      generalize upd H1 t (.tup ys) = H2 at s2 ht ⊢
      have z1 : Dp K H2 (.ref l2) (lotsD (W.map lotI)) := .tup (.inl (.inl (s2 _ _ hl2))) (tl_dp (tl_same (lt_tl pz) s2))
      have z2 : Dp K H2 (.ref t) (lotsD ol) := .tup (.inl (.inl ht)) (tl_dp (tl_same tl s2))
      refine ⟨_, _, z1, z2, shaped_lotsT _, shaped_lotsT _, _, rfl, ?_⟩
      rw [eqv_lots, decide_eq_true eW]
      refine iteF ?_
      refine ⟨_, rfl, _, rfl, r, u0, ls, W, rfl, ra.same (s1.trans s2), lf1.same s2, gw, by omega, fun H3 s3 => ?_⟩
      exact k H3 ((s1.trans s2).trans s3)
    · have nr1 := nr.ext (ExtN.of s1)
      obtain ⟨v1, ⟨dx, tq, hq, htq⟩, fv⟩ := id nr1
      refine ⟨_, rfl, .ref q, .ref CM, .ref CO, .ref CM, false, rfl, .own _, .base (.ins hq OI.cl OI.ha OI.hn OI.htk OI.hm), kOM, _, rfl, iteF ?_⟩
      refine iteF ?_
      refine ⟨_, rfl, .ref q, .ref CO, .ref CO, .ref CO, true, rfl, .own _, .base (.ins hq OI.cl OI.ha OI.hn OI.htk OI.hm), OI.me, _, rfl, iteT ?_⟩
      refine ⟨_, rfl, q, CO, dx, _, "NoSigns", rfl, hq, OI, NOs, _, rfl, iteT ?_⟩
      refine ⟨_, rfl, _, rfl, r, p, ls, ys, ol, _, rfl, ra.same s1, l3, l8, hp, tl, cn.part (by omega) l8, cn.pm, fun t x g gs' H2 s2 ht hg res => ?_⟩
      have s02 := s1.trans s2
      refine ⟨t, _, rfl, .inl (.inl ht), rfl, _, _, rfl, _, _, rfl, rfl, ?_⟩
      rcases res with ⟨fe, rfl, pg⟩ | ⟨wy, u2, hd, rfl, lf⟩
      · rcases k with ⟨_, rfl, k⟩ | ⟨ne, _⟩
        · refine ⟨_, rfl, rfl, _, rfl, iteDT rfl ?_⟩
          have nr2 := nr.ext (ExtN.of s02)
          obtain ⟨v1, ⟨dx2, tq2, hq2, _⟩, fv2⟩ := id nr2
          refine ⟨_, rfl, q, CO, dx2, _, _, rfl, hq2, RO.pc.cl, RO.n1, rfl, _, rfl, g, _, rfl, .inl ⟨SqL.of hg, fun t3 nt3 => ?_⟩⟩
          have s3 : Same H2 (upd H2 t3 (.tup gs')) := (Same.refl H2).new nt3
          have ht3 : upd H2 t3 (.tup gs') t3 = some (.tup gs') := upd_same
          generalize upd H2 t3 (.tup gs') = H3 at s3 ht3 ⊢
          refine ⟨_, _, rfl, fv_iv2 (fv2.same s3) ht3 (par_imp (fun _ _ z => LG.same z s3) pg), fun H4 s4 => ?_⟩
          exact k H4 ((s02.trans s3).trans s4)
        · exact absurd fe ne
      · refine ⟨_, rfl, rfl, _, rfl, iteDF (fun z => nomatch z) ?_⟩
        rcases k with ⟨fe, _⟩ | ⟨_, k⟩
        · have fe' : (waysC ls.length ol).filter (hadW ls) = [] := fe
          have hd' : ((waysC ls.length ol).filter (hadW ls)).head? = some wy := hd
          rw [fe'] at hd'
          cases hd'
        · exact k H2 s02
end
end K
/-! repr of data, in defs that are called while no repr is under way -/
namespace Rg
open PySem PySem.Spec PyProof.Rows L2
/-- a def that is called where no guard is under way -/
structure FnG (Pr : Program) (wo : World) (Kf : PySem.W.Frag) (mgl : Str → Option Value) (bas : Heap) (Cx1 : CXT) (lev : Nat) (fa : Addr) (fdat : FuncData) (pars : List Str) (prom : Sp) : Prop where
  len : ∀ vvs Hq Qq Ee, prom vvs Hq Qq Ee → vvs.length = pars.length
  run : ∀ (A : Around) (outer : List Env) (s : Shared) (Hq : Hp) (args : Args) (uus : List Value) (vvs : List V) (Qq : VK) (Ee : XK), A.guards = some [] → Room lev A → Env0 Pr wo Kf mgl bas A outer s Hq → BindsTo s fdat args (pars.zip uus) → Vals vvs uus → prom vvs Hq Qq Ee →
    codeAny (model Pr wo) A (.call (.ref fa) args) (CR Cx1 outer Pr wo Hq s Qq Ee) s
theorem FnG.of {Pr : Program} {wo : World} {Kf : PySem.W.Frag} {mgl : Str → Option Value} {bas : Heap} {Cx1 : CXT} {lev : Nat} {fa : Addr} {fdat : FuncData} {pars : List Str} {prom : Sp} (F : FnOk Pr wo Kf mgl bas Cx1 lev fa fdat pars prom) : FnG Pr wo Kf mgl bas Cx1 lev fa fdat pars prom :=
  ⟨F.len, fun A outer s H args us vs Q E _ hroom en0 hbi rvs h => F.run A outer s H args us vs Q E hroom en0 hbi rvs h⟩
theorem fn_ofG {Cx1 : CXT} {Pr : Program} {wo : World} {Kf : PySem.W.Frag} {mgl : Str → Option Value} {bas : Heap} {lev : Nat} {fa : Addr} {nam qu : Str} {pms : Arguments} {bod : List Stmt} {sco : Scope} {dV kV doc pmv cdv ct oc : Value} {an od : Option Addr}
    {osl : Array (Option Value)} {Nm1 pars : List Str} {prom : Sp} (lku : Kf.lookup fa = some ⟨oc, od, .func (PySem.W.fnOf nam qu pms bod sco dV kV doc pmv an cdv ct), osl⟩) (hcode : PySem.W.codeIn Kf cdv qu = true) (Sc : FnScope Nm1 pars sco)
    (len : ∀ vvs Hq Qq Ee, prom vvs Hq Qq Ee → vvs.length = pars.length)
    (hbody : ∀ (A : Around) (outer : List Env) (s : Shared) (Hq : Hp) (vvs : List V) (Qq : VK) (Ee : XK), A.guards = some [] → Room lev (A.deeper (envOfC qu sco s.heap.objs.size fa cdv)) → prom vvs Hq Qq Ee →
      ∃ t, PSs (cxOf Cx1 Pr wo Kf mgl bas Nm1 qu sco fa cdv A outer s Hq Ee) bod t ∧ t { nx := fun _ HB => Qq .non HB, rt := Qq } (start Nm1 vvs) Hq) :
    FnG Pr wo Kf mgl bas Cx1 (lev + 1) fa (PySem.W.fnOf nam qu pms bod sco dV kV doc pmv an cdv ct) pars prom := by
  refine ⟨len, fun A outer s H args uus vvs Q E gua hroom en0 hbi rvs hpr => ?_⟩
  have hlen := len _ _ _ _ hpr
  have KIn : Kf.In s.heap := en0.mod.kin.keeps fun b o e => (en0.bs b o e).1
  have lims : s.heap.NoLimit := en0.mod.nolimit.keeps fun b o e => (en0.bs b o e).1
  have kinds : ∀ yy ∈ pars.zip uus, sco.names.lookup yy.1 = some .local ∨ (sco.names.lookup yy.1 = some .cell ∧ ((cellsFrom (s.heap.objs.size + 1) sco.names []).lookup yy.1).isSome = true) := fun ⟨nn, vv⟩ hy => by
    rcases Sc.par nn (List.of_mem_zip hy).1 with qq | qq
    · exact .inl qq
    · exact .inr ⟨qq, PySem.W.cellsFrom_some _ _ _ (.inl qq)⟩
  refine codeAny_call_function hroom.depth (KIn _ _ lku) rfl Sc.co Sc.gen rfl (PySem.W.codeRec_of KIn hcode) (hbi _ _ _ _ ?_)
  refine wpAny_newFunctionEnv_cells Sc.kind kinds fun env hen sB xc => ?_
  subst hen
  refine ⟨lims.keeps xc.toInCall.keep, codeAny_func ?_⟩
  obtain ⟨t, hpss, hend⟩ := hbody A outer s H vvs Q E gua (hroom.deeper _) hpr
  have Iv : Inv (cxOf Cx1 Pr wo Kf mgl bas Nm1 qu sco fa cdv A outer s H E) [] (start Nm1 vvs) H sB := inv_start Sc hroom.hd en0 hlen rvs xc
  refine wpAny_mono (hpss.run [] sB (start Nm1 vvs) H _ Iv hend) (fun flw sC hsB => ?_) fun e sC hsB => hsB
  have fine : ∀ {σB : L2.St} {HB : Hp} {vv : V} {uu : Value}, Inv (cxOf Cx1 Pr wo Kf mgl bas Nm1 qu sco fa cdv A outer s H E) [] σB HB sC → RelV vv uu → Q vv HB → CE outer Pr wo H s Q uu sC :=
    fun {σB HB vv uu} Jv rvu qq => ⟨vv, HB, Jv.os, Jv.bare, Jv.base, Jv.hok, rvu, qq⟩
  cases flw with
  | ret uu =>
    obtain ⟨vv, σB, HB, Jv, rvu, qq⟩ := hsB
    exact fine Jv rvu qq
  | next =>
    obtain ⟨σB, HB, Jv, qq⟩ := hsB
    exact fine (vv := V.non) (uu := Value.none) Jv rfl qq
  | brk =>
    obtain ⟨_, _, _, qq⟩ := hsB
    exact False.elim qq
  | cont =>
    obtain ⟨_, _, _, qq⟩ := hsB
    exact False.elim qq
/-- such a def by its name -/
structure DefAtG (Pr : Program) (wo : World) (Kf : PySem.W.Frag) (mgl : Str → Option Value) (bas : Heap) (Cx1 : CXT) (lev : Nat) (x : Str) (pars : List Str) (prom : Sp) (fa : Addr) (fdat : FuncData) : Prop where
  ok : FnG Pr wo Kf mgl bas Cx1 lev fa fdat pars prom
  g : mgl x = some (.ref fa)
  kp : PySem.W.keepIn Kf (.ref fa) = true
  b : Binds Kf fdat pars []
section
variable {X : Cx} {Cx1 : CXT} {lev : Nat} {fa : Addr} {fdat : FuncData} {pars : List Str} {prom : Sp} {dvs : List V} {dds : List Value} {Ee : XK} {x : Str} {po pos : Pos} {ex : Expr} {exs : List Expr} {tas : TA}
theorem run_fnG {pns : List (Addr × Obj)} {σs : L2.St} {Hh : Hp} {sh : Shared} {Qq : VK} {uus : List Value} {vvs : List V} (F : FnG X.prog X.w X.K X.mg X.base Cx1 lev fa fdat pars prom) (gX : X.A.guards = some []) (hroom : Room lev X.A) (hbi : Binds X.K fdat pars dds) (hds : Vals dvs dds) (hpas : Passes Cx1 X Ee)
    (Iv : Inv X pns σs Hh sh) (rvs : Vals vvs uus) (hpr : prom (vvs ++ dvs) Hh Qq Ee) : wpAny (model X.prog X.w) X.A (call (.ref fa) uus) (EP X pns σs Qq) X.xe sh := by
  have rall : Vals (vvs ++ dvs) (uus ++ dds) := rvs.append hds
  have hlen : (uus ++ dds).length = pars.length := by rw [← rall.length]; exact F.len _ _ _ _ hpr
  refine wpAny_call (codeAny_mono (F.run X.A X.stack sh Hh ⟨uus, []⟩ (uus ++ dds) (vvs ++ dvs) Qq Ee gX hroom Iv.env0 (hbi sh uus Iv.kIn hlen) rall hpr) fun res sC hsB => ?_)
  cases res with
  | error er => exact hpas pns σs Hh sh er sC Iv hsB
  | ok flw =>
    cases flw with
    | ret uu => exact Iv.after hsB
    | next => exact False.elim hsB
    | brk => exact False.elim hsB
    | cont => exact False.elim hsB
theorem pe_callG (F : FnG X.prog X.w X.K X.mg X.base Cx1 lev fa fdat pars prom) (gX : X.A.guards = some []) (hroom : Room lev X.A) (hgl : Gl X x) (hmg : X.mg x = some (.ref fa)) (hkp : PySem.W.keepIn X.K (.ref fa) = true) (hbi : Binds X.K fdat pars dds) (hds : Vals dvs dds) (hpas : Passes Cx1 X Ee)
    (hpa : PA X (ex :: exs) tas) (hdb : (x == ("__debug__" : Str)) = false := by decide) (hst : starEach (ex :: exs) X.env = (false, eval ex X.env) :: starEach exs X.env := by rfl) (hpl : (backTo pos (starEach exs X.env)).any (·.1) = false := by rfl) :
    PE X (.Call (.Name x po) (ex :: exs) [] pos) (tCall prom dvs Ee tas) := by
  refine ⟨fun pns sh σs Hh Qq Iv h => ?_⟩
  refine wpAny_Call_Name_kw (ld_glob Iv hgl hmg ?_ hdb)
  refine PySem.W.callWith_K (h₀ := X.base) Iv.ok.mod.kin hkp (thn (hpa.run pos pns sh σs Hh _ Iv h) fun uus s2 ⟨vvs, H2, I2, rvs, qq⟩ => ⟨I2.kIn, ?_⟩) hst hpl
  exact run_fnG F gX hroom hbi hds hpas I2 rvs qq
end
/-- repr of data, and of None -/
def rRepr (K : PySem.W.Frag) : List V → Hp → VK → Prop := fun xs Hh Qq => ∃ v : V, xs = [v] ∧ ((∃ (a : Addr) (d : PyData), v = .ref a ∧ Dp K Hh v d ∧ d.showable = true ∧ d.hasDict = false ∧ d.depth ≤ 60 ∧ d.shown.length ≤ sizeLine ∧ Qq (.str d.shown) Hh) ∨ (v = .non ∧ Qq (.str "None") Hh))
theorem cr_repr {X : Cx} (gX : X.A.guards = some []) (hu : X.A.units + 65 < cLine) : CallR X (.builtin "repr") (rRepr X.K) := by
  intro pns sh σs Hh xs us Qq Iv rr ⟨v, ex, h⟩
  subst ex
  obtain ⟨u, eu, ru⟩ := vals1 rr
  subst eu
  rcases h with ⟨a, d, ev, hd, sw, nd, dp, sz, q⟩ | ⟨ev, q⟩
  · subst ev
    obtain ⟨as, rd⟩ := Dp.reads Iv d (.ref a) u hd ru
    obtain rfl : u = Value.ref a := ru
    exact PySem.repr_of_reads' rd sw (fun z => by rw [nd] at z; cases z) gX (by omega) (fun _ _ z => z) (fun h' u2 tk kp => ⟨.str d.shown, Hh, Iv.kept (t' := tk) kp, ⟨_, rfl⟩, q⟩) sz
  · subst ev
    obtain rfl : u = Value.none := ru
    exact PySem.P.repr_of_none ⟨.str "None", Hh, Iv.tok _, ⟨_, rfl⟩, q⟩
end Rg
namespace LamX
open PySem PySem.Spec PyProof.Rows L2 Rg
theorem law_callG {Pr : Program} {wo : World} {Kf : PySem.W.Frag} {mgl mbl : Str → Option Value} {Cx1 : CXT} {lev : Nat} {fl ad : Addr} {tbs : List (Addr × Addr)} {fdat : FuncData} {xn : Str} {prom : Sp} {s₁ : Shared} {vvs : List Value} {nns : List Int}
    (KIn : Kf.In s₁.heap) (nsG : s₁.heap.Ns mainGlobals mgl) (nsB : s₁.heap.Ns builtinsNs mbl) (boo : ∀ xn : Str, xn ≠ "__name__" → mbl xn = bootBuiltins xn) (lims : s₁.heap.NoLimit) (gens0 : s₁.gens = #[])
    (tabT : ∀ pr ∈ tbs, s₁.heap.get? pr.2 = some { cls := .none, data := .fields #[] }) (tabN : ∀ pr ∈ tbs, Kf.lookup pr.2 = none) (tabC : ∀ pr ∈ tbs, PySem.W.CodeHd s₁.heap pr.1 pr.2)
    (bmod : ∃ (bm : Addr) (obm : Obj), mgl "__builtins__" = some (.ref bm) ∧ bm ≠ builtinsNs ∧ s₁.heap.get? bm = some obm ∧ obm.cls = .type "module" ∧ obm.dict = some builtinsNs ∧ obm.data = .plain)
    (adAt : s₁.heap.get? ad = some { cls := .type "list", data := .seq vvs.toArray }) (intsA : IntsAre vvs nns) (lenS : nns.length ≤ sizeLine) (hroom : Room lev callerA)
    (Fl : ∀ base : Heap, Kf.In base → base.Ns mainGlobals mgl → (∀ pr ∈ tbs, TabB base mgl pr.1 pr.2) → FnG Pr wo Kf mgl base Cx1 lev fl fdat [xn] prom) (bindL : ∀ (s : Shared) (uv : Value), BindsTo s fdat ⟨[uv], []⟩ [(xn, uv)])
    (hprom : ∀ Hq : Hp, (∀ pr ∈ tbs, Hq pr.2 = some (.tbl #[])) → SqL Kf Hq ad (nns.map V.int) → prom [.ref ad] Hq (fun vl _ => vl = .bl true) fun _ _ _ => False)
    (noEx : ∀ Hq ev sE, Cx1 [] Hq s₁ (fun _ _ _ => False) ev sE → False) :
    codeAny (model Pr wo) callerA (.call (.ref fl) ⟨[.ref ad], []⟩) (fun r sE => r = .ok (.ret (.bool true)) ∧ OldK s₁.heap sE.heap ∧ sE.os = s₁.os ∧ AllBare sE.gens) s₁ := by
  have rvv := vals_ints intsA
  have lvv := intsA.length
  have isTb : ∀ bd : Addr, bd ∈ tbs.map (·.2) → s₁.heap.get? bd = some { cls := .none, data := .fields #[] } := fun bd nsB => by
    obtain ⟨pr, hp, ev⟩ := List.mem_map.mp nsB
    rw [← ev]
    exact tabT pr hp
  have adT : ad ∉ tbs.map (·.2) := fun zz => by
    have qe := isTb ad zz
    rw [adAt] at qe
    have z' : Data.seq vvs.toArray _ = Data.fields #[] := congrArg Obj.data (Option.some.inj qe)
    cases z'
  have memTb : ∀ pr ∈ tbs, pr.2 ∈ tbs.map (·.2) := fun pr hp => List.mem_map.mpr ⟨pr, hp, rfl⟩
  have kern : ∀ Hq : Hp, (∀ pr ∈ tbs, Hq pr.2 = some (.tbl #[])) → (∀ bd, Hq bd = none ∨ bd ∈ tbs.map (·.2) ∨ ∃ oo xs, Hq bd = some (.frz oo (.lst xs))) → SqL Kf Hq ad (nns.map V.int) → HOk Pr wo Hq s₁.heap → (∀ bd, Hq bd ≠ none → bd = ad ∨ bd ∈ tbs.map (·.2)) → (Hq ad ≠ none → Kf.lookup ad = none) →
      codeAny (model Pr wo) callerA (.call (.ref fl) ⟨[.ref ad], []⟩) (fun r sE => r = .ok (.ret (.bool true)) ∧ OldK s₁.heap sE.heap ∧ sE.os = s₁.os ∧ AllBare sE.gens) s₁ := by
    intro Hq tabH onlyH sqH okH admH lkH
    have basOf : ∀ {bd : Addr} {oo : Obj}, s₁.heap.get? bd = some oo → Hq bd = none → (hidT s₁.heap Hq).get? bd = some oo := fun ev n => hidT_get ev n
    have noDt : ∀ {bd : Addr} {oo : Obj}, s₁.heap.get? bd = some oo → (∀ vvs n, oo.data ≠ .seq vvs n) → oo.data ≠ .fields #[] → Hq bd = none := fun {bd oo} ev h1 h2 => by
      cases qe : Hq bd with
      | none => rfl
      | some uv =>
        rcases admH bd (by rw [qe]; simp) with e' | e'
        · rw [e', adAt] at ev
          cases ev
          exact (h1 _ _ rfl).elim
        · rw [isTb bd e'] at ev
          cases ev
          exact (h2 rfl).elim
    have noAd : ∀ {bd : Addr} {oo : Obj} {es : Array DictEntry} {ep : Nat}, s₁.heap.get? bd = some oo → oo.data = .dict es ep → Hq bd = none := fun {bd oo es ep} ev d => by
      refine noDt ev (fun vvs n zz => ?_) fun zz => ?_
      · rw [d] at zz
        cases zz
      · rw [d] at zz
        cases zz
    have nsKp : ∀ {bd : Addr} {m : Str → Option Value}, s₁.heap.Ns bd m → (hidT s₁.heap Hq).Ns bd m := fun {bd m} ⟨oo, es, ep, ev, d, r⟩ => ⟨oo, es, ep, basOf ev (noAd ev d), d, r⟩
    have KbIn : Kf.In (hidT s₁.heap Hq) := fun bd oo ev => basOf (KIn bd oo ev) (by
      cases qe : Hq bd with
      | none => rfl
      | some uv =>
        rcases admH bd (by rw [qe]; simp) with e' | e'
        · rw [e'] at ev qe
          rw [lkH (by rw [qe]; simp)] at ev
          cases ev
        · obtain ⟨pr, hp, ep⟩ := List.mem_map.mp e'
          rw [← ep, tabN pr hp] at ev
          cases ev)
    have modM : L2.Mod Kf mgl (hidT s₁.heap Hq) := ⟨KbIn, nsKp nsG, ⟨mbl, nsKp nsB, boo⟩, let ⟨mc, h1, h2⟩ := lims; ⟨mc, nsKp h1, h2⟩⟩
    have tabB : ∀ pr ∈ tbs, TabB (hidT s₁.heap Hq) mgl pr.1 pr.2 := fun pr hp => by
      have hTp := tabT pr hp
      refine ⟨?_, ?_, fun zz => ?_⟩
      · obtain ⟨oo, fus, file, tf, flags, tg, inF, text, tt, e1, r1, r2, r3, r4, r5, r6, r7, r8, hne⟩ := tabC pr hp
        refine ⟨oo, fus, file, tf, flags, tg, inF, text, tt, basOf e1 (noDt e1 (fun vvs n zz => ?_) fun zz => ?_), r1, r2, r3, r4, r5, r6, r7, r8, hne⟩
        · rw [r2] at zz
          cases zz
        · rw [r2] at zz
          cases zz
          simp at r3
      · obtain ⟨bm, obm, b1, b2, b3, b4, b5, b6⟩ := bmod
        have nG : bm ≠ mainGlobals := fun qe => by
          obtain ⟨oo, es, ep, ev, hd, _⟩ := nsG
          rw [qe, ev] at b3
          cases b3
          rw [hd] at b6
          cases b6
        have nP : bm ≠ pr.2 := fun qe => by
          rw [qe, hTp] at b3
          cases b3
          cases b6
        refine ⟨bm, obm, b1, b2, nG, nP, basOf b3 (noDt b3 (fun vvs n zz => ?_) fun zz => ?_), b4, b5, b6⟩
        · rw [b6] at zz
          cases zz
        · rw [b6] at zz
          cases zz
      · obtain ⟨oo, es, ep, ev, hd, _⟩ := nsG
        rw [zz, hTp] at ev
        cases ev
        cases hd
    have en0 : Env0 Pr wo Kf mgl (hidT s₁.heap Hq) callerA [] s₁ Hq := ⟨rfl, modM, fun bd oo ev => of_hidT ev, Nat.le_of_eq (hidT_size _ _), trivial, fun bd nsB => absurd (show bd ∈ ([] : List Addr) from nsB) (by simp), okH, .of_eq gens0⟩
    refine codeAny_mono ((Fl _ KbIn (nsKp nsG) tabB).run callerA [] s₁ Hq ⟨[.ref ad], []⟩ [.ref ad] [.ref ad] _ _ rfl hroom en0 (bindL s₁ (.ref ad)) (.cons rfl .nil) (hprom Hq tabH sqH)) fun r sE h => ?_
    cases r with
    | error ev => exact (noEx Hq ev sE h).elim
    | ok flo =>
      cases flo with
      | next => exact False.elim h
      | brk => exact False.elim h
      | cont => exact False.elim h
      | ret uv =>
        obtain ⟨vl, HE, osE, barE, unE, okE, rr1, qe⟩ := h
        have qe1 : vl = .bl true := qe
        subst qe1
        obtain rfl : uv = Value.bool true := rr1
        have keyB : ∀ bd oo, bd ∉ tbs.map (·.2) → s₁.heap.get? bd = some oo → sE.heap.get? bd = some oo := fun bd oo nb ev => by
          cases qe : Hq bd with
          | none => exact unE.keep bd oo ev qe (by intro zz; exact absurd (show bd ∈ ([] : List Addr) from zz) (by simp)) (by simp)
          | some uv =>
            rcases onlyH bd with zz | zz | ⟨obm, xs, zz⟩
            · rw [qe] at zz; cases zz
            · exact absurd zz nb
            · have z2 := unE.frzs bd obm _ zz
              obtain ⟨e1, _⟩ := okH bd _ zz
              obtain ⟨e2, _⟩ := okE bd _ z2
              rw [ev] at e1; cases e1
              exact e2
        have grew : ∀ pr ∈ tbs, ∃ mor : Array Value, sE.heap.get? pr.2 = some { cls := .none, data := .fields mor } := fun pr hp => by
          obtain ⟨mor, zz⟩ := unE.tbls pr.2 #[] (tabH pr hp)
          exact ⟨_, okE pr.2 _ zz⟩
        refine ⟨rfl, ⟨fun bd oo ev => ?_, fun bd oo ev => ?_⟩, osE, barE⟩
        · by_cases nsB : bd ∈ tbs.map (·.2)
          · obtain ⟨pr, hp, ep⟩ := List.mem_map.mp nsB
            obtain ⟨mor, hmo⟩ := grew pr hp
            rw [← ep] at ev ⊢
            rw [tabT pr hp] at ev
            cases ev
            exact .inr (.inl ⟨((tabC pr hp).tab (tabT pr hp)).isCodeTable, rfl, #[], mor, rfl, by rw [Array.empty_append]; exact hmo⟩)
          · exact .inl (keyB bd oo nsB ev)
        · by_cases nsB : bd ∈ tbs.map (·.2)
          · obtain ⟨pr, hp, ep⟩ := List.mem_map.mp nsB
            obtain ⟨mor, hmo⟩ := grew pr hp
            rw [← ep]
            exact ⟨_, hmo⟩
          · exact ⟨oo, keyB bd oo nsB ev⟩
  cases lkA : Kf.lookup ad with
  | some oo =>
    have ev := KIn ad oo lkA
    rw [adAt] at ev
    cases ev
    refine kern (fun bd => if bd ∈ tbs.map (·.2) then some (.tbl #[]) else none) (fun pr hp => if_pos (memTb pr hp)) (fun bd => ?_) (.inr ⟨_, vvs.toArray, _, lkA, rfl, rfl, rfl, by rw [List.size_toArray, lvv]; exact lenS, by simpa using rvv⟩) (fun bd uv zz => ?_) (fun bd zz => ?_) fun zz => absurd (show (if ad ∈ tbs.map (·.2) then some (HO.tbl #[]) else none) = none from if_neg adT) zz
    · by_cases nsB : bd ∈ tbs.map (·.2)
      · exact .inr (.inl nsB)
      · exact .inl (if_neg nsB)
    · by_cases nsB : bd ∈ tbs.map (·.2)
      · have z' := (if_pos nsB).symm.trans zz
        cases z'
        exact isTb bd nsB
      · have z' := (if_neg nsB).symm.trans zz
        cases z'
    · by_cases nsB : bd ∈ tbs.map (·.2)
      · exact .inr nsB
      · exact absurd (if_neg nsB) zz
  | none =>
    refine kern (fun bd => if bd = ad then some (.frz { cls := .type "list", data := .seq vvs.toArray } (.lst (nns.map V.int))) else if bd ∈ tbs.map (·.2) then some (.tbl #[]) else none) (fun pr hp => (if_neg (show ¬ pr.2 = ad from fun zz => adT (by rw [← zz]; exact memTb pr hp))).trans (if_pos (memTb pr hp))) (fun bd => ?_)
      (.inl (.inr ⟨{ cls := .type "list", data := .seq vvs.toArray }, if_pos rfl⟩)) (fun bd uv zz => ?_) (fun bd zz => ?_) fun _ => lkA
    · by_cases nsB : bd = ad
      · exact .inr (.inr ⟨_, _, if_pos nsB⟩)
      · by_cases hb2 : bd ∈ tbs.map (·.2)
        · exact .inr (.inl hb2)
        · exact .inl ((if_neg nsB).trans (if_neg hb2))
    · by_cases nsB : bd = ad
      · have z' := (if_pos nsB).symm.trans zz
        cases z'
        rw [nsB]
        exact ⟨adAt, by rw [List.length_map]; exact lenS, vvs, _, rvv, adAt⟩
      · have z1 := (if_neg nsB).symm.trans zz
        by_cases hb2 : bd ∈ tbs.map (·.2)
        · have zq := (if_pos hb2).symm.trans z1
          cases zq
          exact isTb bd hb2
        · have zq := (if_neg hb2).symm.trans z1
          cases zq
    · by_cases nsB : bd = ad
      · exact .inl nsB
      · by_cases hb2 : bd ∈ tbs.map (·.2)
        · exact .inr hb2
        · exact absurd ((if_neg nsB).trans (if_neg hb2)) zz
/-- the law's promise, called where no guard is under way -/
def LawAtG (la : PySem.W.OpenLaw) (wo : World) (Kf : PySem.W.Frag) (Cx1 : CXT) (lev mo : Nat) (xn : Str) (mgl : Str → Option Value) (fl : Addr) (hp : Heap) : Prop :=
  ∃ (fdat : FuncData) (tbs : List (Addr × Addr)) (prom : Sp), (∀ pr ∈ tbs, hp.get? pr.2 = some { cls := .none, data := .fields #[] }) ∧ (∀ pr ∈ tbs, Kf.lookup pr.2 = none) ∧ (∀ pr ∈ tbs, PySem.W.CodeHd hp pr.1 pr.2) ∧ (∀ (s : Shared) (uv : Value), BindsTo s fdat ⟨[uv], []⟩ [(xn, uv)]) ∧
    (∀ (Hq : Hp) (ad : Addr) (nns : List Int), nns.length ≤ mo → (∀ zz ∈ nns, Builtin.Int.intBits zz ≤ 1048576) → (∀ pr ∈ tbs, Hq pr.2 = some (.tbl #[])) → SqL Kf Hq ad (nns.map V.int) → prom [.ref ad] Hq (fun vl _ => vl = .bl true) fun _ _ _ => False) ∧
    ∀ bas : Heap, Kf.In bas → bas.Ns mainGlobals mgl → (∀ pr ∈ tbs, TabB bas mgl pr.1 pr.2) → FnG la.prog wo Kf mgl bas Cx1 lev fl fdat [xn] prom
theorem walk_ofG {la : PySem.W.OpenLaw} {mo lev : Nat} {pq : Program} {loo : List Str} {XP : (Str → Option Value) → Heap → Prop} {YP : World → Heap → Prop} {dr : DefRec} {Kf : Params → PySem.W.Frag} {Cx1 : World → CXT} {xn : Str}
    (hmo : la.most = some mo) (hmo2 : mo ≤ sizeLine) (hdf : dr.params.defaults = []) (hroom : Room lev callerA) (hYP : ∀ (wo : World) (hp : Heap), YP wo hp → (Kf wo.params).In hp)
    (Fl : ∀ (wo : World) (mgl : Str → Option Value) (fl : Addr) (hp : Heap), YP wo hp → (Kf wo.params).In hp → hp.Ns mainGlobals mgl → mgl dr.name = some (.ref fl) → LawAtG la wo (Kf wo.params) (Cx1 wo) lev mo xn mgl fl hp)
    (noEx : ∀ (wo : World) (Hq : Hp) (s : Shared) (ev : Value) (sE : Shared), Cx1 wo [] Hq s (fun _ _ _ => False) ev sE → False) :
    PySem.W.WalkO pq loo XP YP la.row.toRowW dr [] (fun f vs => PySem.call f vs) := by
  refine Att.attach_callB hmo hdf fun wo s₀ sB mgl mbl fl ob pmv cdv doc ad vvs nns Gl Yp hob hdd hcode hmg hobj intsA hlen hbits hgens => ?_
  have KIn := hYP wo _ Yp
  obtain ⟨fdat, tbs, prom, tabT, tabN, tabC, hbi, hprom, hFl⟩ := Fl wo mgl fl _ Yp KIn Gl.T.g hmg
  exact law_callG KIn Gl.T.g Gl.T.b Gl.T.builtins Gl.T.nolimit hgens tabT tabN tabC Gl.T.bmain hobj intsA (Nat.le_trans hlen hmo2) hroom hFl hbi (fun Hq hH hS => hprom Hq ad nns hlen hbits hH hS) fun Hq ev sE => noEx wo Hq sB ev sE
end LamX
namespace Rg
open PySem PySem.Spec PyProof.Rows L2
section
variable {X : Cx} {k k2 : Nat} {f f2 : Addr} {fd fd2 : FuncData} {sp sp2 : Sp} {e : Expr} {ta : TE}
theorem pt_bool2 (F : FnOk X.prog X.w X.K X.mg X.base CX0 k f fd ["self"] sp) (F2 : FnOk X.prog X.w X.K X.mg X.base CX0 k2 f2 fd2 ["self"] sp2) (hr : Room k X.A) (hr2 : Room k2 X.A) (hb : Binds X.K fd ["self"] []) (hb2 : Binds X.K fd2 ["self"] []) (ha : PE X e ta)
    (he : ∀ whole, isTrue e X.env whole = (do let v ← whole; standAt e.pos; holding [v] (truthy v)) := by intro _; rfl) : PT X e (fun σ H Q => ta σ H fun x H' => rTruO X.K f sp x H' Q ∨ rTruO X.K f2 sp2 x H' Q) := by
  refine ⟨fun pins s σ H Q I h => ?_⟩
  exact isTrue_plain (thn (ha.run pins s σ H _ I h) fun v s1 ⟨x, H1, I1, r1, q1⟩ => q1.elim (fun q => tru_insO F hr hb I1 r1 q) (fun q => tru_insO F2 hr2 hb2 I1 r1 q)) (he _)
end
end Rg
namespace L2
open PySem PySem.Spec PyProof.Rows Rg
variable {P : Program} {w : World} {K : PySem.W.Frag} {mg : Str → Option Value} {base : Heap}
theorem Fun.okG {x qual : Str} {st : Stmt} {f : Addr} {fd : FuncData} {N ps : List Str} {k : Nat} {sp : Sp} (F : Fun K x qual st f fd) (S : FnScope N ps (defScope st)) (len : ∀ vs H Q E, sp vs H Q E → vs.length = ps.length)
    (hbody : ∀ (cdv : Value) (A : Around) (outer : List Env) (s : Shared) (H : Hp) (vs : List V) (Q : VK) (E : XK), A.guards = some [] → Room k (A.deeper (envOfC qual (defScope st) s.heap.objs.size f cdv)) → sp vs H Q E →
      ∃ t, PSs (cxOf CX0 P w K mg base N qual (defScope st) f cdv A outer s H E).nox (defBody st) t ∧ t { nx := fun _ H' => Q .non H', rt := Q } (start N vs) H) : FnG P w K mg base CX0 (k + 1) f fd ps sp := by
  obtain ⟨oc, od, kV, doc, pm, an, cdv, ct, osl, rfl, lk, hcd⟩ := F.ex
  refine fn_ofG lk hcd S len fun A outer s H vs Q E ga hr hsp => ?_
  obtain ⟨t, h, q⟩ := hbody cdv A outer s H vs Q E ga hr hsp
  exact ⟨t, h.nox, q⟩
end L2

namespace K
open PySem L2 Rg LamX
open Evl (pss_cut)
abbrev gK2 {α : Type} : List α → List α → List α := fun us ws => match us, ws with
  | [], [b, r] => [r, b]
  | _, _ => []
abbrev gK1 {α : Type} : List α → List α → List α := fun us ws => match us, ws with
  | [], [r] => [r]
  | _, _ => []
abbrev gM2 {α : Type} : List α → List α → List α := fun us ws => match us, ws with
  | [a], [b] => [a, b]
  | _, _ => []
abbrev gK3 {α : Type} : List α → List α → List α := fun us ws => match us, ws with
  | [], [v, l, r] => [r, l, v]
  | _, _ => []
theorem RingAt.ext {K : PySem.W.Frag} {C : Addr} {H H' : Hp} {r : Addr} {ls : List Int} (h : RingAt K C H r ls) (s : ExtN H H') : RingAt K C H' r ls := by
  obtain ⟨dx, t, h1, h2, o, h3, h4⟩ := h
  refine ⟨dx, t, s _ _ h1 (fun _ z => nomatch z), ?_, o, s _ _ h3 (fun _ z => nomatch z), h4⟩
  rcases h2 with (z | ⟨o, z⟩) | z
  · exact .inl (.inl (s _ _ z (fun _ z => nomatch z)))
  · exact .inl (.inr ⟨o, s _ _ z (fun _ z => nomatch z)⟩)
  · exact .inr z
theorem LSt.ext {H H' : Hp} {v : V} {q : Strd} (h : LSt H v q) (s : ExtN H H') : LSt H' v q := let ⟨a, xs, e, z, p⟩ := h; ⟨a, xs, e, s _ _ z (fun _ q => nomatch q), par_imp (fun _ _ k => k.ext s) p⟩
theorem LWy.ext {H H' : Hp} {v : V} {q : List Strd} (h : LWy H v q) (s : ExtN H H') : LWy H' v q := let ⟨a, xs, e, z, p⟩ := h; ⟨a, xs, e, s _ _ z (fun _ q => nomatch q), par_imp (fun _ _ k => k.ext s) p⟩
/-! ### all but the pen and the tables stands -/
def Kp (p : Addr) (H H' : Hp) : Prop := ∀ b o, H b = some o → b ≠ p → (∀ ps, o ≠ .tbl ps) → H' b = some o
theorem Kp.refl (p : Addr) (H : Hp) : Kp p H H := fun _ _ h _ _ => h
theorem Kp.but {p : Addr} {H H1 H2 : Hp} (a : Kp p H H1) (s : But p H1 H2) : Kp p H H2 := fun b o q n t => s b o n (a b o q n t)
theorem Kp.ext {p : Addr} {H H1 H2 : Hp} (a : Kp p H H1) (s : ExtN H1 H2) : Kp p H H2 := fun b o q n t => s b o (a b o q n t) t
theorem Kp.same {p : Addr} {H H1 H2 : Hp} (a : Kp p H H1) (s : Same H1 H2) : Kp p H H2 := a.ext (ExtN.of s)
theorem Kp.trans {p : Addr} {H H1 H2 : Hp} (a : Kp p H H1) (s : Kp p H1 H2) : Kp p H H2 := fun b o q n t => s b o (a b o q n t) n t
theorem Kp.of {p : Addr} {H H' : Hp} (s : ExtN H H') : Kp p H H' := fun b o h _ t => s b o h t
theorem Kp.tup {p a : Addr} {H H' : Hp} {us px : List V} (k : Kp p H H') (hp : H p = some (.lst px)) (h : H a = some (.tup us)) : H' a = some (.tup us) := k _ _ h (fun z => by rw [z, hp] at h; cases h) (fun _ z => nomatch z)
theorem Kp.lst {p a : Addr} {H H' : Hp} {us : List V} (k : Kp p H H') (n : a ≠ p) (h : H a = some (.lst us)) : H' a = some (.lst us) := k _ _ h n (fun _ z => nomatch z)
theorem RingAt.kp {K : PySem.W.Frag} {C p : Addr} {px : List V} {H H' : Hp} {r : Addr} {ls : List Int} (h : RingAt K C H r ls) (k : Kp p H H') (hp : H p = some (.lst px)) : RingAt K C H' r ls := by
  obtain ⟨dx, t, h1, h2, o, h3, h4⟩ := h
  refine ⟨dx, t, k _ _ h1 (fun z => by rw [z, hp] at h1; cases h1) (fun _ z => nomatch z), ?_, o, k _ _ h3 (fun z => by rw [z, hp] at h3; cases h3) (fun _ z => nomatch z), h4⟩
  rcases h2 with (z | ⟨o, z⟩) | z
  · exact .inl (.inl (k.tup hp z))
  · exact .inl (.inr ⟨o, k _ _ z (fun q => by rw [q, hp] at z; cases z) (fun _ z => nomatch z)⟩)
  · exact .inr z
section
variable {K : PySem.W.Frag} {H H' : Hp} {p : Addr} {e : Addr × List Int} {n : Nat}
theorem PenAt.ext (h : PenAt K H p e n) (s : ExtN H H') : PenAt K H' p e n := by
  obtain ⟨a, r, h1, h5, h6, h7⟩ := h.ex
  refine ⟨⟨a, r, s _ _ h1 (fun _ z => nomatch z), h5, h6, h7⟩, ?_, h.np, h.ln⟩
  rcases h.sq with (z | ⟨o, z⟩) | z
  · exact .inl (.inl (s _ _ z (fun _ z => nomatch z)))
  · exact .inl (.inr ⟨o, s _ _ z (fun _ z => nomatch z)⟩)
  · exact .inr z
theorem SPat.kp {v : V} {q : Int × Int} (h : SPat H v q) (pen : PenAt K H p e n) (b : Kp p H H') : SPat H' v q := by
  obtain ⟨a, rfl, z⟩ := h
  obtain ⟨px, hp⟩ := pen.some
  exact ⟨a, rfl, b.tup hp z⟩
theorem LSt.kp {v : V} {q : Strd} (h : LSt H v q) (pen : PenAt K H p e n) (b : Kp p H H') : LSt H' v q := by
  obtain ⟨a, xs, rfl, z, px⟩ := h
  refine ⟨a, xs, rfl, b.lst (fun k => ?_) z, par_imp (fun _ _ k => k.kp pen b) px⟩
  obtain ⟨at', rest, h1, _⟩ := pen.ex
  rw [k, h1] at z
  cases z
  cases px with
  | cons _ t => cases t with
    | cons h _ =>
      obtain ⟨c, e, _⟩ := h
      cases e
theorem LWy.kp {v : V} {q : List Strd} (h : LWy H v q) (pen : PenAt K H p e n) (b : Kp p H H') : LWy H' v q := by
  obtain ⟨a, xs, rfl, z, px⟩ := h
  refine ⟨a, xs, rfl, b.lst (fun k => ?_) z, par_imp (fun _ _ k => k.kp pen b) px⟩
  obtain ⟨at', rest, h1, _⟩ := pen.ex
  rw [k, h1] at z
  cases z
  cases px with
  | cons _ t => cases t with
    | cons h _ =>
      obtain ⟨c, _, e, _⟩ := h
      cases e
theorem ne_pen {q : Addr} {xs : List V} {ws : List (List Strd)} {G : Hp} (pen : PenAt K H p e n) (h : H q = some (.lst xs)) (pw : Paired (LWy G) xs ws) : q ≠ p := fun z => by
  obtain ⟨at', rest, h1, _⟩ := pen.ex
  rw [z, h1] at h
  cases h
  cases pw with
  | cons _ t => cases t with
    | cons h _ =>
      obtain ⟨c, _, e, _⟩ := h
      cases e
theorem TL.kp {px : List V} {xs : List V} {nss : List (List Int)} (h : TL H xs nss) (k : Kp p H H') (hp : H p = some (.lst px)) : TL H' xs nss := par_imp (fun _ _ ⟨a, e, q⟩ => ⟨a, e, k.tup hp q⟩) h
end
theorem LI.kp {K : PySem.W.Frag} {p : Addr} {e : Addr × List Int} {n : Nat} {H H' : Hp} {v : V} {l : List Int} (h : LI H v l) (pen : PenAt K H p e n) (b : Kp p H H') : LI H' v l := by
  obtain ⟨a, rfl, z⟩ := h
  refine ⟨a, rfl, b.lst (fun k => ?_) z⟩
  obtain ⟨at', rest, h1, _⟩ := pen.ex
  rw [k, h1] at z
  cases l with
  | nil => cases z
  | cons x l => cases z
/-! ### what is shown is short -/
theorem all_dig : ((List.range 1024).all fun i : Nat => (PyData.int (i : Int)).showable && PyData.intsShort 13 (.int (i : Int)) && decide (PyData.weight (.int (i : Int)) ≤ 30)) = true := by decide +kernel
theorem digI {i : Int} (h0 : 0 ≤ i) (h8 : i < 1024) : ((PyData.int i).showable = true ∧ PyData.intsShort 13 (.int i) = true ∧ PyData.weight (.int i) ≤ 30) := by
  have := List.all_eq_true.mp all_dig i.toNat (List.mem_range.mpr (by omega))
  simp only [Bool.and_eq_true, decide_eq_true_eq] at this
  rw [show ((i.toNat : Nat) : Int) = i by omega] at this
  exact ⟨this.1.1, this.1.2, this.2⟩
theorem digs : ∀ l : List Int, (∀ i ∈ l, 0 ≤ i ∧ i < 1024) → PyData.showableAll (l.map PyData.int) = true ∧ PyData.intsShortAll 13 (l.map PyData.int) = true ∧ PyData.weightAll (l.map PyData.int) ≤ 31 * l.length ∧ PyData.hasDictAll (l.map PyData.int) = false
  | [], _ => ⟨by simp [PyData.showableAll], by simp [PyData.intsShortAll], by simp [PyData.weightAll], by simp [PyData.hasDictAll]⟩
  | i :: l, h => by
    obtain ⟨a, b, c, d⟩ := digs l fun x hx => h x (List.mem_cons_of_mem _ hx)
    have hi := h i (List.mem_cons_self ..)
    obtain ⟨a1, b1, c1⟩ := digI hi.1 hi.2
    refine ⟨?_, ?_, ?_, ?_⟩
    · rw [List.map_cons, PyData.showableAll, a1, a]; rfl
    · rw [List.map_cons, PyData.intsShortAll, b1, b]; rfl
    · rw [List.map_cons, PyData.weightAll, List.length_cons]; omega
    · rw [List.map_cons, PyData.hasDictAll, d]; simp [PyData.hasDict]
def Smd (d : PyData) : Prop := d.showable = true ∧ d.hasDict = false ∧ d.depth ≤ 60 ∧ d.shown.length ≤ sizeLine
/-- a lot passed as a list or a tuple -/
def PL (H : Hp) (v : V) (q : PyData × List Int) : Prop := ∃ a, v = V.ref a ∧ ((H a = some (.lst (q.2.map V.int)) ∧ q.1 = .list (q.2.map PyData.int)) ∨ (H a = some (.tup (q.2.map V.int)) ∧ q.1 = .tuple (q.2.map PyData.int)))
theorem PL.ext {H H' : Hp} {v : V} {q : PyData × List Int} (h : PL H v q) (s : ExtN H H') : PL H' v q := let ⟨a, e, z⟩ := h; ⟨a, e, z.imp (fun ⟨x, y⟩ => ⟨s _ _ x (fun _ q => nomatch q), y⟩) fun ⟨x, y⟩ => ⟨s _ _ x (fun _ q => nomatch q), y⟩⟩
theorem PL.kp {K : PySem.W.Frag} {p : Addr} {e : Addr × List Int} {n : Nat} {H H' : Hp} {v : V} {q : PyData × List Int} (h : PL H v q) (pen : PenAt K H p e n) (b : Kp p H H') : PL H' v q := by
  obtain ⟨a, rfl, z⟩ := h
  obtain ⟨px, hp⟩ := pen.some
  rcases z with ⟨z, e⟩ | ⟨z, e⟩
  · obtain ⟨_, e2, z2⟩ := LI.kp ⟨a, rfl, z⟩ pen b
    cases e2
    exact ⟨a, rfl, .inl ⟨z2, e⟩⟩
  · exact ⟨a, rfl, .inr ⟨b.tup hp z, e⟩⟩
theorem pl_dp {K : PySem.W.Frag} {H : Hp} : ∀ {xs : List V} {L : List (PyData × List Int)}, Paired (PL H) xs L → DpAll K H xs (L.map (·.1))
  | _, _, .nil => .nil
  | _, q :: _, .cons ⟨a, e, h⟩ t => by
    rw [List.map_cons, e]
    refine .cons ?_ (pl_dp t)
    rcases h with ⟨h, z⟩ | ⟨h, z⟩
    · rw [z]
      exact .lst (SqL.of h) (dp_ints _)
    · rw [z]
      exact .tup (.inl (.inl h)) (dp_ints _)
theorem pl_tl {K : PySem.W.Frag} {H : Hp} : ∀ {xs : List V} {L : List (PyData × List Int)}, Paired (PL H) xs L → (∀ q ∈ L, q.2.length ≤ 1000) → Paired (TLot K H) xs (L.map fun q => some q.2)
  | _, _, .nil, _ => .nil
  | _, q :: _, .cons ⟨a, e, h⟩ t, m => .cons ⟨m q (List.mem_cons_self ..), a, e, h.imp And.left And.left⟩ (pl_tl t fun x hx => m x (List.mem_cons_of_mem _ hx))
/-- a list or tuple of few small numbers -/
def Sm1 (d : PyData) : Prop := ∃ l : List Int, l.length ≤ 8 ∧ (∀ i ∈ l, 0 ≤ i ∧ i < 1024) ∧ (d = .list (l.map PyData.int) ∨ d = .tuple (l.map PyData.int))
theorem sm1_all : ∀ ds : List PyData, (∀ d ∈ ds, Sm1 d) → PyData.showableAll ds = true ∧ PyData.intsShortAll 13 ds = true ∧ PyData.weightAll ds ≤ 260 * ds.length ∧ PyData.hasDictAll ds = false ∧ PyData.canLayAll0 ds = true ∧ PyData.depthAll ds ≤ 1
  | [], _ => ⟨by simp [PyData.showableAll], by simp [PyData.intsShortAll], by simp [PyData.weightAll], by simp [PyData.hasDictAll], by simp [PyData.canLayAll0], by simp [PyData.depthAll]⟩
  | d :: ds, h => by
    obtain ⟨a, b, c, e, f, g⟩ := sm1_all ds fun x hx => h x (List.mem_cons_of_mem _ hx)
    obtain ⟨l, l8, hl, hd⟩ := h d (List.mem_cons_self ..)
    obtain ⟨a1, b1, c1, e1⟩ := digs l hl
    have f1 := lay_ints l
    have g1 := deep_ints l
    rcases hd with rfl | rfl
    · refine ⟨?_, ?_, ?_, ?_, ?_, ?_⟩
      · rw [PyData.showableAll, PyData.showable, a1, a]; rfl
      · rw [PyData.intsShortAll, PyData.intsShort, b1, b]; rfl
      · rw [PyData.weightAll, PyData.weight, List.length_cons]; omega
      · rw [PyData.hasDictAll, PyData.hasDict, e1, e]; rfl
      · rw [PyData.canLayAll0, PyData.canLay0, f1, f]; rfl
      · rw [PyData.depthAll, PyData.depth, g1]; omega
    · refine ⟨?_, ?_, ?_, ?_, ?_, ?_⟩
      · rw [PyData.showableAll, PyData.showable, a1, a]; rfl
      · rw [PyData.intsShortAll, PyData.intsShort, b1, b]; rfl
      · rw [PyData.weightAll, PyData.weight, List.length_cons]; omega
      · rw [PyData.hasDictAll, PyData.hasDict, e1, e]; rfl
      · rw [PyData.canLayAll0, PyData.canLay0, f1, f]; rfl
      · rw [PyData.depthAll, PyData.depth, g1]; omega
theorem smd_passed {ds : List PyData} (l8 : ds.length ≤ 8) (h : ∀ d ∈ ds, Sm1 d) : Smd (.list ds) := by
  obtain ⟨a, b, c, e, f, g⟩ := sm1_all ds h
  have ly : PyData.layable0 (.list ds) = true := by
    unfold PyData.layable0
    simp only [Bool.and_eq_true, decide_eq_true_eq]
    refine ⟨⟨?_, ?_⟩, ?_⟩
    · rw [PyData.canLay0]; exact f
    · rw [PyData.depth]; omega
    · rw [PyData.weight]; omega
  refine ⟨by rw [PyData.showable]; exact a, by rw [PyData.hasDict]; exact e, by rw [PyData.depth]; omega, ?_⟩
  have e2 : (PyData.list ds).intsShort 13 = true := by rw [PyData.intsShort]; exact b
  exact Nat.le_trans (PyProof.Rows.shown_le13 ly e2) (by decide)
/-! ### what is told right is taken -/
theorem ft_nodup : ∀ (xs seen : List Int), (seen ++ xs).Nodup → ft seen xs = none
  | [], seen, _ => rfl
  | x :: xs, seen, h => by
    unfold ft
    rw [if_neg fun z => ?_, ft_nodup xs (seen ++ [x]) (by rw [List.append_assoc]; exact h)]
    exact (List.nodup_append.mp h).2.2 x z x (List.mem_cons_self ..) rfl
theorem res_good {n : Nat} {ns : List Int} (h : ∀ b ∈ ns, 0 ≤ b ∧ b < (n : Int)) (nd : ns.Nodup) : res n ns = .ok ns := by
  rw [res_all fun x hx => isBar_iff.mpr (h x hx), ft_nodup ns [] (by simpa using nd)]
theorem lots_res {n : Nat} {nss ol : List (List Int)} (c : Cn n ol) (t : LotsOf nss ol) : ∀ ns ∈ nss, res n ns = .ok ns := fun ns m => by
  obtain ⟨os, p, q⟩ := t
  obtain ⟨l, ml, k⟩ := par_mem q m
  have hl := p.mem_iff.mp ml
  exact res_good (fun b hb => c.mem hl (k.mem_iff.mp hb)) (k.nodup_iff.mpr ((c.lt hl).imp fun h => by omega))
/-- lots told right -/
def Tells (K : PySem.W.Frag) (H : Hp) (v : V) (ol : List (List Int)) : Prop := ∃ (a : Addr) (xs : List V) (nss : List (List Int)), v = V.ref a ∧ (H a = some (.lst xs) ∨ H a = some (.tup xs)) ∧ Paired (TLot K H) xs (nss.map some) ∧ xs.length ≤ 100 ∧ LotsOf nss ol
theorem ask_of {K : PySem.W.Frag} {c : Cs} {cL : Addr} {E : XK} {n : Nat} {H : Hp} {v : V} {ol : List (List Int)} {q : List (List Int) → Prop} (cn : Cn n ol) (t : Tells K H v ol) (k : q ol) : AskL K c cL E n H v q := by
  obtain ⟨a, xs, nss, e, ha, px, xl, lo⟩ := t
  exact .inr ⟨a, xs, _, e, ha, px, xl, .inr ⟨nss, rfl, .inr ⟨lots_res cn lo, .inr ⟨ol, cn, lo, k⟩⟩⟩⟩
section
variable {P : Program} {w : World} {K : PySem.W.Frag} {mg : Str → Option Value} {base : Heap}
def spWGc (K : PySem.W.Frag) (CR CL CM CO : Addr) : Sp := fun vs H Q _ => ∃ (r : Addr) (v : V) (ls : List Int) (ol : List (List Int)), vs = [.ref r, v] ∧ RingAt K CR H r ls ∧ 3 ≤ ls.length ∧ ls.length ≤ 8 ∧ Cn ls.length ol ∧ Tells K H v ol ∧ ∀ q H', Same H H' → SgnR CM CL CO H' q ls ol → Q (.ref q) H'
theorem ok_wgc {CR CL CM CO cR cL : Addr} {c : Cs} {f : Addr} {fd : FuncData} {k : Nat} (F : FnOk P w K mg base (L2.CX P w) k f fd ["ring", "lots"] (spWG K CR CL CM CO cR c cL)) : FnOk P w K mg base CX0 k f fd ["ring", "lots"] (spWGc K CR CL CM CO) :=
  (fn_calm F).imp fun vs H Q E ⟨r, v, ls, ol, hv, ra, l3, l8, cn, t, q⟩ => ⟨.ref r, v, hv, .inr ⟨r, ls, rfl, ra, l3, l8, ask_of cn t q⟩⟩
def spSGc (K : PySem.W.Frag) (CR CL CM CO : Addr) : Sp := fun vs H Q _ => ∃ (r : Addr) (v x : V) (ls : List Int) (ol : List (List Int)), vs = [.ref r, v, x] ∧ RingAt K CR H r ls ∧ 3 ≤ ls.length ∧ ls.length ≤ 8 ∧ Cn ls.length ol ∧ Tells K H v ol ∧ ShowS K CL CM CO H x ls ol Q
theorem ok_sgc {CR CL CM CO cR cL : Addr} {c : Cs} {f : Addr} {fd : FuncData} {k : Nat} (F : FnOk P w K mg base (L2.CX P w) k f fd ["ring", "lots", "value"] (spSG K CR CL CM CO cR c cL)) : FnOk P w K mg base CX0 k f fd ["ring", "lots", "value"] (spSGc K CR CL CM CO) :=
  (fn_calm F).imp fun vs H Q E ⟨r, v, x, ls, ol, hv, ra, l3, l8, cn, t, q⟩ => ⟨.ref r, v, x, hv, .inr ⟨r, ls, rfl, ra, l3, l8, ask_of cn t q⟩⟩
end
end K
namespace Rg
open PySem PySem.Spec PyProof.Rows L2
/-! ### a list compared with an empty list, whatever it holds -/
section
variable {X : Cx}
def rNeE (K : PySem.W.Frag) : R2 := fun x y H Q => ∃ (a b : Addr) (xs : List V), x = .ref a ∧ y = .ref b ∧ SqL K H a xs ∧ SqL K H b [] ∧ Q (.bl (!xs.isEmpty)) H
def rEqE (K : PySem.W.Frag) : R2 := fun x y H Q => ∃ (a b : Addr) (xs : List V), x = .ref a ∧ y = .ref b ∧ SqL K H a xs ∧ SqL K H b [] ∧ Q (.bl xs.isEmpty) H
theorem op_neE (hu : X.A.units + 64 < cLine) : OpR X (compareOp .NotEq) (rNeE X.K) := by
  intro pins s σ H x y v u Q I rx ry ⟨a, b, xs, ex, ey, ha, hb, q⟩
  subst ex ey
  cases rx
  cases ry
  obtain ⟨its, r1, t1, z1⟩ := I.list ha
  obtain ⟨its2, r2, t2, z2⟩ := I.list hb
  cases r2
  show wpAny (model X.prog X.w) X.A (richCompare .NotEq (.ref a) (.ref b)) (EP X pins σ Q) X.xe s
  cases r1 with
  | nil =>
    have z := SeqAt.RcNeAt.lists (A := X.A) (e := fun _ => true) t1.isList t2.isList rfl (by omega) (fun j h1 h2 => absurd h1 (Nat.not_lt_zero _))
    exact z X.prog X.w X.xe _ ⟨.bl false, H, I, rfl, q⟩
  | cons r rr =>
    have z := SeqAt.RcNeAt.lists_lengths (A := X.A) t1.isList t2.isList (by simp) (by omega)
    exact z X.prog X.w X.xe _ ⟨.bl true, H, I, rfl, q⟩
theorem op_eqE (hu : X.A.units + 64 < cLine) : OpR X (compareOp .Eq) (rEqE X.K) := by
  intro pins s σ H x y v u Q I rx ry ⟨a, b, xs, ex, ey, ha, hb, q⟩
  subst ex ey
  cases rx
  cases ry
  obtain ⟨its, r1, t1, z1⟩ := I.list ha
  obtain ⟨its2, r2, t2, z2⟩ := I.list hb
  cases r2
  show wpAny (model X.prog X.w) X.A (richCompare .Eq (.ref a) (.ref b)) (EP X pins σ Q) X.xe s
  cases r1 with
  | nil =>
    have z := SeqAt.RcAt.lists (A := X.A) (e := fun _ => true) t1.isList t2.isList rfl (by omega) (fun j h1 h2 => absurd h1 (Nat.not_lt_zero _))
    exact z X.prog X.w X.xe _ ⟨.bl true, H, I, rfl, q⟩
  | cons r rr =>
    have z := SeqAt.RcAt.lists_lengths (A := X.A) t1.isList t2.isList (by simp) (by omega)
    exact z X.prog X.w X.xe _ ⟨.bl false, H, I, rfl, q⟩
end
end Rg
namespace K
open PySem L2 Rg LamX
open Evl (pss_cut)
/-! ### what stands while the pen moves -/
section
variable {p : Addr} {px : List V} {H H' : Hp}
theorem Kp.ins {a C dx : Addr} {fs : List (Str × V)} (k : Kp p H H') (hp : H p = some (.lst px)) (h : H a = some (.ins C dx fs)) : H' a = some (.ins C dx fs) := k _ _ h (fun z => by rw [z, hp] at h; cases h) (fun _ z => nomatch z)
theorem ss_kp {v : V} {st : Strd} (h : SSat H v st) (k : Kp p H H') (hp : H p = some (.lst px)) : SSat H' v st := by
  obtain ⟨a, xs, rfl, ha, pxs⟩ := h
  exact ⟨a, xs, rfl, k.tup hp ha, par_imp (fun _ _ ⟨b, e, z⟩ => ⟨b, e, k.tup hp z⟩) pxs⟩
theorem sw_kp {v : V} {W : List Strd} (h : SWat H v W) (k : Kp p H H') (hp : H p = some (.lst px)) : SWat H' v W := by
  obtain ⟨a, xs, rfl, ha, pxs⟩ := h
  exact ⟨a, xs, rfl, k.tup hp ha, par_imp (fun _ _ z => ss_kp z k hp) pxs⟩
theorem line_kp {L r : Addr} {W : List Strd} (h : LineF L H r W) (k : Kp p H H') (hp : H p = some (.lst px)) : LineF L H' r W := by
  obtain ⟨dx, t, l, xs, n, h1, en, sw, hl, pl⟩ := h
  exact ⟨dx, t, l, xs, n, k.ins hp h1, en, sw_kp sw k hp, k.tup hp hl, par_imp (fun _ _ ⟨b, e, z⟩ => ⟨b, e, k.tup hp z⟩) pl⟩
theorem fv_kp (k : Kp p H H') (hp : H p = some (.lst px)) : ∀ {n : Nat} {v : V} {d : PyData}, FV H false n v d → FV H' false n v d
  | 0, v, d, h => h
  | n + 1, v, d, h => by
    rcases h with h | ⟨a, xs, ds, e, ha, ed, hl, p⟩
    · exact .inl h
    · rcases ha with ha | ⟨z, _⟩
      · exact .inr ⟨a, xs, ds, e, .inl (k.tup hp ha), ed, hl, par_imp (fun _ _ z => fv_kp k hp z) p⟩
      · cases z
theorem pap_kp {C r : Addr} {w : Str} {fs : List (Str × V)} (h : PapG C w fs H r) (k : Kp p H H') (hp : H p = some (.lst px)) : PapG C w fs H' r := by
  obtain ⟨dx, t, h1, h2⟩ := h
  exact ⟨dx, t, k.ins hp h1, k.tup hp h2⟩
theorem sgn_kp {CM CL CO q : Addr} {ls : List Int} {ol : List (List Int)} (h : SgnR CM CL CO H q ls ol) (k : Kp p H H') (hp : H p = some (.lst px)) : SgnR CM CL CO H' q ls ol :=
  h.imp (fun ⟨a, v, b, c⟩ => ⟨a, v, pap_kp b k hp, fv_kp k hp c⟩) fun ⟨w, a, u, b, c⟩ => ⟨w, a, u, pap_kp b k hp, line_kp c k hp⟩
end
theorem par_perm {α β : Type} {R : α → β → Prop} {zs xs : List α} (h : zs.Perm xs) : ∀ {ol : List β}, Paired R xs ol → ∃ os, Paired R zs os ∧ os.Perm ol := by
  induction h with
  | nil => exact fun {ol} p => ⟨ol, p, List.Perm.refl _⟩
  | cons x _ ih =>
    intro ol p
    cases p with
    | cons h t =>
      obtain ⟨os, a, b⟩ := ih t
      exact ⟨_, .cons h a, b.cons _⟩
  | swap x y l =>
    intro ol p
    cases p with
    | cons h t =>
      cases t with
      | cons k u => exact ⟨_, .cons k (.cons h u), .swap ..⟩
  | trans _ _ h1 h2 =>
    intro ol p
    obtain ⟨os, a, b⟩ := h2 p
    obtain ⟨os2, a2, b2⟩ := h1 a
    exact ⟨os2, a2, b2.trans b⟩
theorem perm_ints {ys : List V} {l : List Int} (h : ys.Perm (l.map V.int)) : ∃ ns : List Int, ys = ns.map V.int ∧ ns.Perm l := by
  have p : Paired (fun (v : V) (i : Int) => v = .int i) (l.map V.int) l := by
    clear h
    induction l with
    | nil => exact .nil
    | cons x l ih => exact .cons rfl ih
  obtain ⟨ns, a, b⟩ := par_perm h p
  refine ⟨ns, ?_, b⟩
  clear h b p
  induction a with
  | nil => rfl
  | cons h _ ih => rw [List.map_cons, ← ih, h]
theorem lwy_off {H : Hp} {D : Addr} {v : V} {w : List Strd} (h : LWy H v w) (n : H D = none) : LWyN (fun a => a = D) H v w := by
  obtain ⟨a, xs, e, z, p⟩ := h
  have ne : ∀ {b : Addr} {o : HO}, H b = some o → ¬ b = D := fun q k => by rw [k, n] at q; cases q
  exact ⟨a, xs, e, ne z, z, par_imp (fun _ _ ⟨b, ys, e2, z2, p2⟩ => ⟨b, ys, e2, ne z2, z2, p2⟩) p⟩
/-- the law's things in one turn -/
structure ST (K : PySem.W.Frag) (CR : Addr) (T : List (Addr × Str)) (p : Addr) (e : Addr × List Int) (n : Nat) (la lo pc r : Addr) (ls : List Int) (xs : List V) (ol : List (List Int)) (yc : List V) (H : Hp) : Prop where
  pen : PenAt K H p e n
  tab : Tabs T H
  hla : H la = some (.lst (ls.map V.int))
  lap : la ≠ p
  hlo : H lo = some (.lst xs)
  lop : lo ≠ p
  px : Paired (LI H) xs ol
  ra : RingAt K CR H r ls
  hpc : H pc = some (.lst yc)
  pcp : pc ≠ p
  pyc : Paired (LWy H) yc (waysC ls.length ol)
section
variable {K : PySem.W.Frag} {CR CM CL CO : Addr} {T : List (Addr × Str)} {p : Addr} {e : Addr × List Int} {n m : Nat} {la lo pc r DP q0 DH : Addr} {ls : List Int} {xs yc us hs : List V} {ol : List (List Int)} {L : List (PyData × List Int)} {H H' : Hp}
theorem ST.kp (h : ST K CR T p e n la lo pc r ls xs ol yc H) (k : Kp p H H') (pen : PenAt K H' p e m) (t : Tabs T H') : ST K CR T p e m la lo pc r ls xs ol yc H' :=
  let ⟨_, hp⟩ := h.pen.some
  ⟨pen, t, k.lst h.lap h.hla, h.lap, k.lst h.lop h.hlo, h.lop, par_imp (fun _ _ z => LI.kp z h.pen k) h.px, h.ra.kp k hp, k.lst h.pcp h.hpc, h.pcp, par_imp (fun _ _ z => LWy.kp z h.pen k) h.pyc⟩
theorem ST.same (h : ST K CR T p e n la lo pc r ls xs ol yc H) (s : Same H H') : ST K CR T p e n la lo pc r ls xs ol yc H' := h.kp ((Kp.refl p H).same s) (h.pen.same s) (h.tab.ext s)
/-- what was told -/
structure TD (CM CL CO : Addr) (p DP q0 DH : Addr) (ls : List Int) (ol : List (List Int)) (us hs : List V) (L : List (PyData × List Int)) (H : Hp) : Prop where
  hDP : H DP = some (.lst us)
  DPp : DP ≠ p
  pl : Paired (PL H) us L
  sg : SgnR CM CL CO H q0 ls ol
  hDH : H DH = some (.lst hs)
  DHp : DH ≠ p
  ph : Paired (LWy H) hs ((waysC ls.length ol).filter (hadW ls))
theorem TD.kp (h : TD CM CL CO p DP q0 DH ls ol us hs L H) (k : Kp p H H') (pen : PenAt K H p e n) : TD CM CL CO p DP q0 DH ls ol us hs L H' :=
  let ⟨_, hp⟩ := pen.some
  ⟨k.lst h.DPp h.hDP, h.DPp, par_imp (fun _ _ z => PL.kp z pen k) h.pl, sgn_kp h.sg k hp, k.lst h.DHp h.hDH, h.DHp, par_imp (fun _ _ z => LWy.kp z pen k) h.ph⟩
theorem TD.same (h : TD CM CL CO p DP q0 DH ls ol us hs L H) (s : Same H H') (pen : PenAt K H p e n) : TD CM CL CO p DP q0 DH ls ol us hs L H' := h.kp ((Kp.refl p H).same s) pen
end
end K
namespace K
open PySem L2 Rg LamX
open Evl (pss_cut)
theorem par_memL {α β : Type} {R : α → β → Prop} : ∀ {xs : List α} {ys : List β}, Paired R xs ys → ∀ {y : β}, y ∈ ys → ∃ x ∈ xs, R x y
  | _, _, .cons h t, y, e => by
    rcases List.mem_cons.mp e with rfl | e
    · exact ⟨_, List.mem_cons_self .., h⟩
    · obtain ⟨x, hx, r⟩ := par_memL t e
      exact ⟨x, List.mem_cons_of_mem _ hx, r⟩
theorem PL.updN {H : Hp} {D : Addr} {o : HO} {v : V} {q : PyData × List Int} (h : PL H v q) (n : v ≠ .ref D) : PL (upd H D o) v q := by
  obtain ⟨a, rfl, z⟩ := h
  have e : upd H D o a = H a := upd_ne fun z => n (by rw [z])
  exact ⟨a, rfl, by rw [e]; exact z⟩
theorem LI.nePen {K : PySem.W.Frag} {p : Addr} {e : Addr × List Int} {n : Nat} {H : Hp} {a : Addr} {l : List Int} (h : H a = some (.lst (l.map V.int))) (pen : PenAt K H p e n) : a ≠ p := fun k => by
  obtain ⟨at', rest, h1, _⟩ := pen.ex
  rw [k, h1] at h
  cases l with
  | nil => cases h
  | cons x l => cases h
theorem sm1_of {m : Nat} {ol os : List (List Int)} {H : Hp} {us : List V} {L : List (PyData × List Int)} (cn : Cn m ol) (m8 : m ≤ 8) (pl : Paired (PL H) us L) (pp : Paired (fun (q : PyData × List Int) (l : List Int) => q.2.Perm l) L os) (po : os.Perm ol) : ∀ d ∈ L.map (·.1), Sm1 d := by
  intro d hd
  obtain ⟨q, hq, rfl⟩ := List.mem_map.mp hd
  obtain ⟨l, hl, pm⟩ := par_mem pp hq
  have hl := po.mem_iff.mp hl
  obtain ⟨x, hx, a, _, z⟩ := par_memL pl hq
  refine ⟨q.2, by have := cn.len.2 l hl; rw [pm.length_eq]; omega, fun i hi => ?_, z.imp And.right And.right⟩
  have := cn.mem hl (pm.mem_iff.mp hi)
  omega
theorem tells_of {K : PySem.W.Frag} {m : Nat} {ol os : List (List Int)} {H : Hp} {a : Addr} {us : List V} {L : List (PyData × List Int)} (cn : Cn m ol) (m8 : m ≤ 8) (ha : H a = some (.lst us)) (pl : Paired (PL H) us L) (pp : Paired (fun (q : PyData × List Int) (l : List Int) => q.2.Perm l) L os) (po : os.Perm ol) : Tells K H (.ref a) ol := by
  have hl : us.length ≤ 8 := by
    rw [par_len pl, par_len pp, po.length_eq]
    have := cn.len.1
    omega
  refine ⟨a, us, L.map (·.2), rfl, .inl ha, ?_, by omega, os, po, ?_⟩
  · rw [List.map_map]
    refine pl_tl pl fun q hq => ?_
    obtain ⟨l, ml, pm⟩ := par_mem pp hq
    have := cn.len.2 l (po.mem_iff.mp ml)
    rw [pm.length_eq]
    omega
  · clear pl hl ha
    clear po
    induction pp with
    | nil => exact .nil
    | cons h _ ih => exact .cons h ih
theorem tells_li {K : PySem.W.Frag} {m : Nat} {ol : List (List Int)} {H : Hp} {a : Addr} {xs : List V} (cn : Cn m ol) (m8 : m ≤ 8) (ha : H a = some (.lst xs) ∨ H a = some (.tup xs)) (px : Paired (LI H) xs ol) : Tells K H (.ref a) ol := by
  have hl : xs.length ≤ 8 := by
    rw [par_len px]
    have := cn.len.1
    omega
  have le : ∀ l ∈ ol, l.length ≤ 1000 := fun l h => by have := cn.len.2 l h; omega
  refine ⟨a, xs, ol, rfl, ha, ?_, by omega, ol, List.Perm.refl _, ?_⟩
  · clear hl ha cn
    induction px with
    | nil => exact .nil
    | cons h _ ih =>
      obtain ⟨b, e, z⟩ := h
      exact .cons ⟨le _ (List.mem_cons_self ..), b, e, .inl z⟩ (ih fun l hl => le l (List.mem_cons_of_mem _ hl))
  · clear hl ha cn px le
    induction ol with
    | nil => exact .nil
    | cons h _ ih => exact .cons (List.Perm.refl _) ih
theorem show_told {K : PySem.W.Frag} {CL CM CO q : Addr} {H : Hp} {ls : List Int} {ol : List (List Int)} {Q : VK} (cn : Cn ls.length ol) (l3 : 3 ≤ ls.length) (l8 : ls.length ≤ 8) (sg : SgnR CM CL CO H q ls ol) (k : ∀ H', Same H H' → Q (.bl true) H') : ShowS K CL CM CO H (.ref q) ls ol Q := by
  rcases sg with ⟨fe, nr⟩ | ⟨wy, hd, mr⟩
  · exact .inr ⟨q, _, rfl, nr, .inl ⟨fe, rfl, k⟩⟩
  · have hm := List.mem_filter.mp (List.mem_of_mem_head? hd)
    have gw := cn.good (by omega) l8 hm.1
    have h1 : hadN (netsW ls (dueW wy)) = true := by rw [had_due gw]; exact hm.2
    refine .inl ⟨q, dueW wy, rfl, mr, due_good gw, by rw [cn.due hm.1]; exact cn.lotsW hm.1, fun H' s => ?_⟩
    rw [h1]
    exact k H' s
theorem sgn_eq {CL CM CO q q2 : Addr} {H : Hp} {ls : List Int} {ol : List (List Int)} {Q : VK} (cn : Cn ls.length ol) (l3 : 3 ≤ ls.length) (l8 : ls.length ≤ 8) (a : SgnR CM CL CO H q2 ls ol) (b : SgnR CM CL CO H q ls ol) (k : ∀ H', Same H H' → Q (.bl false) H') :
    rInsNe CM (spAEm CM CL) (.ref q2) (.ref q) H Q ∨ rInsNe CO (spAEo CO) (.ref q2) (.ref q) H Q := by
  rcases a with ⟨fe8, nr8⟩ | ⟨wy8, hd8, mr8⟩
  · rcases b with ⟨fe6, nr6⟩ | ⟨wy6, hd6, _⟩
    · obtain ⟨v8, ⟨dx8, tq8, hq8, htq8⟩, fv8⟩ := id nr8
      obtain ⟨v6, ⟨dx6, tq6, hq6, htq6⟩, fv6⟩ := id nr6
      exact .inr ⟨q2, q, dx8, dx6, _, _, rfl, rfl, hq8, hq6, q2, q, _, rfl, nr8, nr6, fun H9 s9 => ⟨true, rfl, k H9 s9⟩⟩
    · rw [fe8] at hd6
      cases hd6
  · rcases b with ⟨fe6, nr6⟩ | ⟨wy6, hd6, mr6⟩
    · rw [fe6] at hd8
      cases hd8
    · rw [hd8] at hd6
      cases hd6
      obtain ⟨u8, pg8, lf8⟩ := mr8
      obtain ⟨u6, pg6, lf6⟩ := mr6
      obtain ⟨dx8, tq8, hq8, htq8⟩ := id pg8
      obtain ⟨dx6, tq6, hq6, htq6⟩ := id pg6
      have wm := (List.mem_filter.mp (List.mem_of_mem_head? hd8)).1
      exact .inl ⟨q2, q, dx8, dx6, _, _, rfl, rfl, hq8, hq6, q2, q, u8, u6, rfl, pg8, pg6, ⟨dueW wy8, ls.length, lf8, lf6, due_good (cn.good (by omega) l8 wm)⟩, fun H9 s9 => ⟨true, rfl, k H9 s9⟩⟩
/-- a list that holds one lot -/
def GO (H : Hp) (N : Addr → Prop) (v : V) (l : List Int) : Prop := ∃ a u, v = V.ref a ∧ ¬ N a ∧ H a = some (.lst [.ref u]) ∧ H u = some (.tup (l.map V.int))
theorem GO.same {H H' : Hp} {N : Addr → Prop} {v : V} {l : List Int} (h : GO H N v l) (s : Same H H') : GO H' N v l := let ⟨a, u, e, n, x, y⟩ := h; ⟨a, u, e, n, s _ _ x, s _ _ y⟩
theorem GO.mut {H : Hp} {N : Addr → Prop} {D : Addr} {us ws : List V} {v : V} {l : List Int} (h : GO H N v l) (n : N D) (hD : H D = some (.lst us)) : GO (upd H D (.lst ws)) N v l := by
  obtain ⟨a, u, e, m, x, y⟩ := h
  refine ⟨a, u, e, m, ?_, ?_⟩
  · rw [upd_ne fun z => m (by rw [z]; exact n)]
    exact x
  · rw [upd_ne fun z => by rw [z, hD] at y; cases y]
    exact y
theorem shaped_parts (L : List (List Int)) : SeqAt.shaped (.tuple [lotsD L]) = true := by
  have := lots_deep L
  simp [lotsD, SeqAt.shaped, PyData.canLay0, PyData.canLayAll0, lots_lay L, PyData.depth, PyData.depthAll]
  omega
end K
namespace K
open PySem L2 Rg LamX
open Evl (pss_cut)
section
variable {P : Program} {w : World} {K : PySem.W.Frag} {mg : Str → Option Value} {base : Heap}
/-! ### _law_signs_right -/
def spSR (K : PySem.W.Frag) (T : List (Addr × Str)) : Sp := fun vs H Q _ => ∃ (p la lo : Addr) (e : Addr × List Int) (ls : List Int) (xs : List V) (ol : List (List Int)) (n : Nat), vs = [.ref p, .ref la, .ref lo] ∧ H la = some (.lst (ls.map V.int)) ∧ la ≠ p ∧ 3 ≤ ls.length ∧ ls.length ≤ 8 ∧ Bd 1000000 ls ∧
  H lo = some (.lst xs) ∧ lo ≠ p ∧ Paired (LI H) xs ol ∧ Cn ls.length ol ∧ n < 700000 ∧ PenAt K H p e n ∧ Tabs T H ∧ ∀ H', Kp p H H' → PenAt K H' p e (n + 100) → Tabs T H' → Q (.bl true) H'
abbrev nSR : List Str := ["_law_bench_here", "_law_lengths_here", "_law_lots", "_law_ring", "_law_choices_here", "_law_passed", "_law_held", "_law_told", "_law_had", "_law_some", "_law_great_here", "_law_last", "_law_lot", "_law_strands", "_law_few"]
theorem scSR : FnScope nSR ["_law_bench_here", "_law_lengths_here", "_law_lots"] (defScope sLwSignsRight) := ⟨rfl, rfl, rfl, by decide +kernel, rfl, by decide +kernel, by decide +kernel⟩
abbrev teSP (K : PySem.W.Frag) : TE := tIf (tTest (tOp rEq (tCall (spDraw K) [] E0 (tCons (tVar 0) (tCons (tC (.int 2)) tNil))) (tC (.int 0)))) (tCall (spMixed K) [] E0 (tCons (tVar 0) (tCons (tVar 12) tNil))) (tCB (rTupOf K) (tCons (tCall (spMixed K) [] E0 (tCons (tVar 0) (tCons (tVar 12) tNil))) tNil))
theorem ok_sr {CR CL CM CO CN CG P0 P1 f fR fL fM fO fCO fD fMX fWG fSG fCL fIH fGR fPK fMQ fOQ fLQ fBM fBO fBN fBG : Addr} {fd fdR fdL fdM fdO fdCO fdD fdMX fdWG fdSG fdCL fdIH fdGR fdPK fdMQ fdOQ fdLQ fdBM fdBO fdBN fdBG : FuncData} {gm g1 g2 : List Value → List Value → List Value} (F : Fun K "_law_signs_right" "_law_signs_right" sLwSignsRight f fd) (T : Bi mg) (B2 : Bi2 mg)
    (R : RingP P w K mg base CR fR fdR) (RG : RingC K mg CR) (LP : LineP P w K mg base CL fL fdL) (RL : LineC K mg CL) (MP : MostP P w K mg base CM CL fM fdM) (RC : MostC K mg CM) (KM : KBn K fdM ["self", "lineup"] 1 ["lineup"] gm gM2) (NP : NoSgP P w K mg base CO fO fdO) (RO : NoSgC K mg CO)
    (LI_ : C8.InsC K CL) (MI : C8.InsC K CM) (OI : C8.InsC K CO) (kMO : PySem.W.kitOne K (.ref CM) (.ref CO) = some false)
    (CO_ : DefAt P w K mg base CX0 1 "_law_choices" ["_law_lots"] (spCO K (T2 P0 P1)) fCO fdCO) (D : DrawAt P w K mg base fD fdD) (MX : DefAt P w K mg base CX0 3 "_law_mixed" ["_law_bench_here", "_law_some"] (spMixed K) fMX fdMX)
    (WG : DefAt P w K mg base CX0 8 "with_signs" ["ring", "lots"] (spWGc K CR CL CM CO) fWG fdWG) (KWG : KBinds K fdWG ["ring", "lots"] ["lots", "ring"] g1 gK2) (SG : DefAt P w K mg base CX0 8 "shows_signs" ["ring", "lots", "value"] (spSGc K CR CL CM CO) fSG fdSG) (KSG : KBinds K fdSG ["ring", "lots", "value"] ["value", "lots", "ring"] g2 gK3)
    (CLI : DefAt P w K mg base CX0 7 "can_line" ["ring", "lineup"] (spCLc K CR CL CN CG) fCL fdCL) (IHD : DefAt P w K mg base CX0 1 "_law_is_had" ["_law_lengths_here", "_law_strands"] (spIHD K) fIH fdIH) (GR : DefAt P w K mg base CX0 1 "_law_great" ["_law_lengths_here", "_law_strands"] (spGR K) fGR fdGR)
    (PK : DefAt P w K mg base CX0 3 "_law_pick" ["_law_bench_here", "_law_some"] (spPick K) fPK fdPK) (MQ : MostQ P w K mg base CM CL fMQ fdMQ) (OQ : NoSQ P w K mg base CO fOQ fdOQ) (LQ : LineQ P w K mg base CL fLQ fdLQ)
    (BM : PapB P w K mg base CM fBM fdBM true) (BO : PapB P w K mg base CO fBO fdBO false) (BN : PapB P w K mg base CN fBN fdBN true) (BG : PapB P w K mg base CG fBG fdBG false) :
    FnG P w K mg base CX0 10 f fd ["_law_bench_here", "_law_lengths_here", "_law_lots"] (spSR K (T2 P0 P1)) := by
  refine F.okG scSR (fun vs H Q E h => ?_) (fun cdv A outer s H vs Q E ga hr h => ?_)
  · obtain ⟨p, la, lo, e, ls, xs, ol, n, rfl, _⟩ := h
    rfl
  · have nd := scSR.nd
    have gX : (A.deeper (PyProof.Rows.envOfC "_law_signs_right" (defScope sLwSignsRight) s.heap.objs.size f cdv)).guards = some [] := ga
    have hu65 : (A.deeper (PyProof.Rows.envOfC "_law_signs_right" (defScope sLwSignsRight) s.heap.objs.size f cdv)).units + 65 < cLine := by have := hr.un; omega
    refine ⟨_, (pss_cons (ps_par (i := 3) (j := 4) (by rfl) nd rfl rfl (by decide) rfl rfl (pa_cons (pe_make R.made R.ok (hr.mono (by decide)) (by rfl) RG.g R.b .nil pass0 (pa_cons (pv 1) pa_nil)) (pa_cons (pe_call CO_.ok (hr.mono (by decide)) rfl CO_.g CO_.kp CO_.b .nil pass0 (pa_cons (pv 2) pa_nil)) pa_nil)) (by rfl))
      (pss_cons (ps_setLc (i := 5) (own := [("_law_lot", 12)]) (g := (gName 12)) (tt := tYes) (te := teSP K)  rfl nd rfl rfl (sw_true rfl rfl rfl (by decide +kernel)) (pi_list (pe_call MX.ok (hr.mono (by decide)) rfl MX.g MX.kp MX.b .nil pass0 (pa_cons (pv 0) (pa_cons (pv 2) pa_nil))))
          (blkOk_by (N := nSR) (sc := defScope sLwSignsRight) (by decide +kernel)) (fun _ _ _ _ _ => (pg_name (i := 12) nd rfl (Or.inl rfl))) (fun _ _ _ _ _ => pts_nil) (fun _ _ _ _ _ => (pe_ifExp (pt_cmpR op_eq (pe_call D.ok (hr.mono (by decide)) rfl D.g D.kp D.b .nil pass0 (pa_cons (pv 0) (pa_cons pe_int pa_nil))) pe_int (nomark _)) (pe_call MX.ok (hr.mono (by decide)) rfl MX.g MX.kp MX.b .nil pass0 (pa_cons (pv 0) (pa_cons (pv 12) pa_nil))) (pe_callTy (r := rTupOf K) call_tuple_of (by rfl) T.tuple (by decide +kernel) (pa_cons (pe_call MX.ok (hr.mono (by decide)) rfl MX.g MX.kp MX.b .nil pass0 (pa_cons (pv 0) (pa_cons (pv 12) pa_nil))) pa_nil)))))
      (pss_cons (ps_set (i := 6) nd rfl (Or.inl rfl) (pe_callB (cr_repr gX hu65) (by rfl) B2.repr (by decide +kernel) (pa_cons (pv 5) pa_nil)))
      (pss_cons (ps_par (i := 7) (j := 8) (by rfl) nd rfl rfl (by decide) rfl rfl (pa_cons (pe_callK0 WG.ok (hr.mono (by decide)) rfl WG.g WG.kp KWG pass0 (pk_cons (pv 5) (pk_cons (pv 3) pk_nil))) (pa_cons (pe_lc (own := [("_law_strands", 13)]) (g := (gName 13)) (tt := tTest (tCall (spIHD K) [] E0 (tCons (tVar 1) (tCons (tVar 13) tNil)))) (te := tVar 13)  rfl nd (pi_list (pv 4))
          (blkOk_by (N := nSR) (sc := defScope sLwSignsRight) (by decide +kernel)) (fun _ _ _ _ _ => (pg_name (i := 13) nd rfl (Or.inl rfl))) (fun _ _ _ _ _ => (pts_one (pt_val (pe_call IHD.ok (hr.mono (by decide)) rfl IHD.g IHD.kp IHD.b .nil pass0 (pa_cons (pv 1) (pa_cons (pv 13) pa_nil)))))) (fun _ _ _ _ _ => (pv 13))) pa_nil)) (by rfl))
      (pss_cut (ps_if (PW.pt (pw_or (pt_cmpR op_ne (pe_callB (cr_repr gX hu65) (by rfl) B2.repr (by decide +kernel) (pa_cons (pv 5) pa_nil)) (pv 6) (nomark _)) (pw_or (pt_cmpR (op_or (op_insNe MQ.ok MQ.ne MQ.sub MQ.eq MQ.fn MQ.b (hr.mono (by decide))) (op_insNe OQ.ok OQ.ne OQ.sub OQ.eq OQ.fn OQ.b (hr.mono (by decide)))) (pe_call WG.ok (hr.mono (by decide)) rfl WG.g WG.kp WG.b .nil pass0 (pa_cons (pv 3) (pa_cons (pe_callTy (r := rTupOf K) call_tuple_of (by rfl) T.tuple (by decide +kernel) (pa_cons (pv 2) pa_nil)) pa_nil))) (pv 7) (nomark _)) (pw_or1 (pt_cmpR op_notBl (pe_callK0 SG.ok (hr.mono (by decide)) rfl SG.g SG.kp KSG pass0 (pk_cons (pv 7) (pk_cons (pv 5) (pk_cons (pv 3) pk_nil)))) pe_bl (nomark _)))))) (pss_one ps_never) pss_nil)
      (pss_cons (ps_set (i := 9) nd rfl (Or.inl rfl) (pe_call PK.ok (hr.mono (by decide)) rfl PK.g PK.kp PK.b .nil pass0 (pa_cons (pv 0) (pa_cons (pv 4) pa_nil))))
      (pss_cut (ps_if (pt_cmpR op_ne (pe_call SG.ok (hr.mono (by decide)) rfl SG.g SG.kp SG.b .nil pass0 (pa_cons (pv 3) (pa_cons (pv 2) (pa_cons (pe_make MP.made MP.ok (hr.mono (by decide)) (by rfl) RC.g MP.b .nil pass0 (pa_cons (pe_make LP.made LP.ok (hr.mono (by decide)) (by rfl) RL.g LP.b .nil pass0 (pa_cons (pv 9) pa_nil)) pa_nil)) pa_nil)))) (pe_call IHD.ok (hr.mono (by decide)) rfl IHD.g IHD.kp IHD.b .nil pass0 (pa_cons (pv 1) (pa_cons (pv 9) pa_nil))) (nomark _)) (pss_one ps_never) pss_nil)
      (pss_cut (ps_if (pt_cmpR (op_eqE hr.units) (pv 8) (pe_lst pa_nil) (nomark _)) (pss_cons (ps_setLc (i := 10) (own := [("_law_strands", 13)]) (g := (gName 13)) (tt := tYes) (te := tCall (spGR K) [] E0 (tCons (tVar 1) (tCons (tVar 13) tNil)))  rfl nd rfl rfl (sw_true rfl rfl rfl (by decide +kernel)) (pi_list (pv 4))
          (blkOk_by (N := nSR) (sc := defScope sLwSignsRight) (by decide +kernel)) (fun _ _ _ _ _ => (pg_name (i := 13) nd rfl (Or.inl rfl))) (fun _ _ _ _ _ => pts_nil) (fun _ _ _ _ _ => (pe_call GR.ok (hr.mono (by decide)) rfl GR.g GR.kp GR.b .nil pass0 (pa_cons (pv 1) (pa_cons (pv 13) pa_nil)))))
      (pss_cons (ps_if (PW.pt (pw_or (pt_not (pt_val (pe_callB call_isi (by rfl) T.isinstance (by decide +kernel) (pa_cons (pv 7) (pa_cons (pe_glob (v := .ref CO) rfl RO.g rfl) pa_nil))))) (pw_or (pt_bool2 BM.ok BO.ok (hr.mono (by decide)) (hr.mono (by decide)) BM.b BO.b (pv 7)) (pw_or (pt_cmpR op_ne (pe_fld (pv 7) rfl) pe_str (nomark _)) (pw_or1 (pt_cmpR (op_neD hr.units) (pe_lc (own := [("_law_few", 14)]) (g := (gName 14)) (tt := tTest (tOp rNe (tCB (rLenS K) (tCons (tVar 14) tNil)) (tC (.int 1)))) (te := tC (.int 1))  rfl nd (pi_list (pv 10))
          (blkOk_by (N := nSR) (sc := defScope sLwSignsRight) (by decide +kernel)) (fun _ _ _ _ _ => (pg_name (i := 14) nd rfl (Or.inl rfl))) (fun _ _ _ _ _ => (pts_one (pt_cmpR op_ne (pe_callB (r := rLenS K) call_len_seq (by rfl) T.len PySem.boot_len (pa_cons (pv 14) pa_nil)) pe_int (nomark _)))) (fun _ _ _ _ _ => pe_int)) (pe_lst pa_nil) (nomark _))))))) (pss_one ps_never) pss_nil)
      (pss_one (ps_ret (pe_and (pe_cmpR (op_eqD hr.units) (pe_fld (pv 7) rfl) (pe_callTy call_tuple_of (by rfl) T.tuple (by decide +kernel) (pa_cons (pe_lc (own := [("_law_few", 14)]) (g := (gName 14)) (tt := tYes) (te := tOp (rIxL K) (tVar 14) (tC (.int 0)))  rfl nd (pi_list (pv 10))
          (blkOk_by (N := nSR) (sc := defScope sLwSignsRight) (by decide +kernel)) (fun _ _ _ _ _ => (pg_name (i := 14) nd rfl (Or.inl rfl))) (fun _ _ _ _ _ => pts_nil) (fun _ _ _ _ _ => (pe_ix (r := rIxL K) ix_list (pv 14) pe_int (fun _ _ => rfl)))) pa_nil)) (nomark _)) (pe_one (pe_cmpR (op_eqD hr.units) (pe_fld (pv 7) rfl) (pe_tup (pa_cons (pe_fld (pv 7) rfl) pa_nil)) (nomark _)))))))) pss_nil)
      (pss_cons (ps_if (PW.pt (pw_or (pt_not (pt_val (pe_callB call_isi (by rfl) T.isinstance (by decide +kernel) (pa_cons (pv 7) (pa_cons (pe_glob (v := .ref CM) rfl RC.g rfl) pa_nil))))) (pw_or (pt_not (pt_bool2 BM.ok BO.ok (hr.mono (by decide)) (hr.mono (by decide)) BM.b BO.b (pv 7))) (pw_or (pt_cmpR op_ne (pe_fld (pv 7) rfl) pe_str (nomark _)) (pw_or1 (pt_cmpR (op_neS1 hr.units) (pe_fld (pv 7) rfl) (pe_tup (pa_cons (pe_fld (pv 7) rfl) pa_nil)) (nomark _))))))) (pss_one ps_never) pss_nil)
      (pss_cons (ps_if (PW.pt (pw_or (pt_not (pt_val (pe_callB call_isi (by rfl) T.isinstance (by decide +kernel) (pa_cons (pe_fld (pv 7) rfl) (pa_cons (pe_glob (v := .ref CL) rfl RL.g rfl) pa_nil))))) (pw_or (pt_cmpR (op_insNe LQ.ok LQ.ne LQ.sub LQ.eq LQ.fn LQ.b (hr.mono (by decide))) (pe_fld (pv 7) rfl) (pe_make LP.made LP.ok (hr.mono (by decide)) (by rfl) RL.g LP.b .nil pass0 (pa_cons (pe_ix (r := rIxL K) ix_list (pv 8) pe_int (fun _ _ => rfl)) pa_nil)) (nomark _)) (pw_or1 (pt_not (pt_bool2 BN.ok BG.ok (hr.mono (by decide)) (hr.mono (by decide)) BN.b BG.b (pe_call CLI.ok (hr.mono (by decide)) rfl CLI.g CLI.kp CLI.b .nil pass0 (pa_cons (pv 3) (pa_cons (pe_fld (pv 7) rfl) pa_nil))))))))) (pss_one ps_never) pss_nil)
      (pss_cons (ps_set (i := 11) nd rfl (Or.inl rfl) (pe_makeK0 MP.made MP.ok (hr.mono (by decide)) (by rfl) RC.g KM pass0 (pk_cons (pe_make LP.made LP.ok (hr.mono (by decide)) (by rfl) RL.g LP.b .nil pass0 (pa_cons (pe_ix (r := rIxL K) ix_list (pv 8) (pe_un un_neg pe_int) (fun _ _ => rfl)) pa_nil)) pk_nil)))
      (pss_one (ps_ret (pe_and (pe_cmpR op_isBl (pe_call SG.ok (hr.mono (by decide)) rfl SG.g SG.kp SG.b .nil pass0 (pa_cons (pv 3) (pa_cons (pv 2) (pa_cons (pv 11) pa_nil)))) pe_bl (nomark _)) (pe_one (pe_cmpR op_isBl (pe_call SG.ok (hr.mono (by decide)) rfl SG.g SG.kp SG.b .nil pass0 (pa_cons (pv 3) (pa_cons (pv 2) (pa_cons (pe_make NP.made NP.ok (hr.mono (by decide)) (by rfl) RO.g NP.b .nil pass0 (pa_cons (pe_op op_rep (pe_lst (pa_cons (pe_ix (r := rIxL K) ix_list (pv 2) pe_int (fun _ _ => rfl)) pa_nil)) (pe_callB (r := rLenS K) call_len_seq (by rfl) T.len PySem.boot_len (pa_cons (pv 4) pa_nil))) pa_nil)) pa_nil)))) pe_bl (nomark _))))))))))))))))), ?_⟩
    obtain ⟨p, la, lo, e, ls, xs, ol, n, rfl, hla, lap, l3, l8, bd, hlo, lop, px, cn, hn, pen, tab, k⟩ := h
    refine ⟨_, rfl, madeL2 hla l3 l8 bd fun r H1 ra1 s1 nr => ⟨rfl, ?_⟩⟩
    refine ⟨_, rfl, lo, xs, ol, ls.length, rfl, s1 _ _ hlo, par_imp (fun _ _ z => z.same s1) px, cn, by omega, l8, tab.ext s1, fun pc yc H2 e2 tab2 npc hpc pyc => ?_⟩
    refine ⟨_, _, rfl, ?_⟩
    have e02 := (ExtN.of s1).trans e2
    have st2 : ST K CR (T2 P0 P1) p e n la lo pc r ls xs ol yc H2 := ⟨pen.ext e02, tab2, e02 _ _ hla (fun _ z => nomatch z), lap, e02 _ _ hlo (fun _ z => nomatch z), lop, par_imp (fun _ _ z => LI.ext z e02) px, ra1.ext e2, hpc, (pen.same s1).ne npc, par_imp (fun _ _ z => z.wy) pyc⟩
    have k02 : Kp p H H2 := Kp.of e02
    have xl := par_len px
    have ol8 := cn.len
    -- passed
    refine ⟨_, rfl, _, rfl, p, lo, e, xs, n, rfl, SqL.of st2.hlo, lop, by omega, by omega, st2.pen, fun q1 zs H3 pz nq1 b3 hq1 pen3 => ?_⟩
    obtain ⟨os, pos, pmo⟩ := par_perm pz st2.px
    have osl := pmo.length_eq
    have zl := par_len pos
    have k3 : Kp p H2 H3 := (Kp.refl p H2).but b3
    have st3 := st2.kp k3 (pen3.mono (by omega : n + xs.length ≤ n + 8)) (tabs_but tab2 b3 st2.pen.some.choose_spec)
    have pos3 : Paired (LI H3) zs os := par_imp (fun _ _ z => LI.kp z st2.pen k3) pos
    obtain ⟨px3, hp3⟩ := st3.pen.some
    refine ⟨q1, rfl, ⟨_, SqL.of hq1⟩, fun DP nDP => ?_⟩
    have DPp : DP ≠ p := st3.pen.ne nDP
    refine lc_list (K := K) (a := q1) (xs := zs) (fun j G => But p H3 G ∧ ∃ us L, G DP = some (.lst us) ∧ Paired (fun v q => PL G v q ∧ v ≠ .ref DP) us L ∧ Paired (fun (q : PyData × List Int) (l : List Int) => q.2.Perm l) L (os.take j) ∧ PenAt K G p e (n + 8 + 9 * j))
      ⟨(But.refl p H3).mut nDP, [], [], upd_same, .nil, .nil, st3.pen.mut st3.pen (But.refl p H3) nDP⟩ (fun j G _ q => SqL.of (q.1 _ _ (st2.pen.ne nq1) hq1)) ?_ ?_
    · rintro j x G hj ⟨bG, us, L, hG, pG, pp, penG⟩
      have hjl : j < zs.length := (List.getElem?_eq_some_iff.mp hj).1
      obtain ⟨o, ho, lo3⟩ := par_get pos3 hj
      have om := pmo.mem_iff.mp (List.mem_of_getElem? ho)
      have oo8 := ol8.2 o om
      have kG : Kp p H3 G := (Kp.refl p H3).but bG
      obtain ⟨ao, rfl, hao⟩ := LI.kp lo3 st3.pen kG
      have push : ∀ (v : V) (d : PyData) (ns : List Int) (G5 : Hp), PL G5 v (d, ns) → v ≠ .ref DP → ns.Perm o → But p G G5 → PenAt K G5 p e (n + 8 + 9 * (j + 1)) →
          ∃ acc, G5 DP = some (.lst acc) ∧ acc.length < sizeLine ∧ (But p H3 (upd G5 DP (.lst (acc ++ [v]))) ∧ ∃ us L, (upd G5 DP (.lst (acc ++ [v]))) DP = some (.lst us) ∧ Paired (fun v2 q => PL (upd G5 DP (.lst (acc ++ [v]))) v2 q ∧ v2 ≠ .ref DP) us L ∧ Paired (fun (q : PyData × List Int) (l : List Int) => q.2.Perm l) L (os.take (j + 1)) ∧ PenAt K (upd G5 DP (.lst (acc ++ [v]))) p e (n + 8 + 9 * (j + 1))) := by
        intro v d ns G5 hv nv pn b5 pen5
        have kk : Kp p G G5 := (Kp.refl p G).but b5
        refine ⟨us, b5 _ _ DPp hG, ?_, (bG.trans b5).mut nDP, us ++ [v], L ++ [(d, ns)], upd_same, ?_, ?_, st3.pen.mut pen5 (bG.trans b5) nDP⟩
        · rw [par_len pG, par_len pp, List.length_take]
          exact sm (by omega)
        · exact par_app (par_imp (fun _ _ z => ⟨(PL.kp z.1 penG kk).updN z.2, z.2⟩) pG) (.cons ⟨hv.updN nv, nv⟩ .nil)
        · rw [← take_snoc ho]
          exact par_app pp (.cons pn .nil)
      have penM := penG
      refine ⟨rfl, _, rfl, p, e, 2, n + 8 + 9 * j, rfl, by omega, by omega, by omega, penG, fun rr G2 r0 r1 b2 pen2 => ⟨rfl, _, rfl, ?_⟩⟩
      have hao2 := b2 _ _ (LI.nePen hao penG) hao
      by_cases c : rr = 0
      · refine iteDT (by rw [c]) ?_
        refine ⟨_, rfl, _, rfl, p, ao, e, o.map V.int, n + 8 + 9 * j + 1, rfl, SqL.of hao2, LI.nePen hao penG, by rw [List.length_map]; omega, by omega, pen2, fun q ys G3 pm nq b4 hq pen4 => ?_⟩
        obtain ⟨ns, rfl, pn⟩ := perm_ints pm
        rw [List.length_map] at pen4
        refine push _ (.list (ns.map PyData.int)) ns G3 ⟨q, rfl, .inl ⟨hq, rfl⟩⟩ (fun z => by cases z; rw [b2 _ _ DPp hG] at nq; cases nq) pn (b2.trans b4) (pen4.mono (by omega))
      · refine iteDF (fun z => c (V.int.inj z)) ?_
        refine ⟨_, rfl, _, rfl, p, ao, e, o.map V.int, n + 8 + 9 * j + 1, rfl, SqL.of hao2, LI.nePen hao penG, by rw [List.length_map]; omega, by omega, pen2, fun q ys G3 pm nq b4 hq pen4 => ?_⟩
        obtain ⟨ns, rfl, pn⟩ := perm_ints pm
        rw [List.length_map] at pen4
        refine ⟨q, _, rfl, .inl ⟨SqL.of hq, fun t nt => ?_⟩⟩
        have s5 : Same G3 (upd G3 t (.tup (ns.map V.int))) := (Same.refl G3).new nt
        exact push _ (.tuple (ns.map PyData.int)) ns _ ⟨t, rfl, .inr ⟨upd_same, rfl⟩⟩ (fun z => by cases z; rw [b4 _ _ DPp (b2 _ _ DPp hG)] at nt; cases nt) pn ((b2.trans b4).trans (But.of s5)) ((pen4.mono (by omega)).same s5)
    rintro H4 ⟨b34, us, L, hDP, plN, pp, pen4⟩
    rw [zl, List.take_length] at pp
    rw [zl] at pen4
    have pl := par_imp (fun _ _ z => z.1) plN
    have sm1 := sm1_of cn l8 pl pp pmo
    have k4 : Kp p H3 H4 := (Kp.refl p H3).but b34
    have st4 := st3.kp k4 (pen4.mono (by omega : n + 8 + 9 * os.length ≤ n + 80)) (tabs_but st3.tab b34 hp3)
    have Ll : (L.map (·.1)).length ≤ 8 := by
      rw [List.length_map, par_len pp]
      omega
    have sml := smd_passed Ll sm1
    -- its display
    refine ⟨_, rfl, _, rfl, .inl ⟨DP, .list (L.map (·.1)), rfl, .lst (SqL.of hDP) (pl_dp pl), sml.1, sml.2.1, sml.2.2.1, sml.2.2.2, ?_⟩⟩
    -- told
    refine ⟨_, rfl, _, rfl, r, .ref DP, ls, ol, rfl, st4.ra, l3, l8, cn, tells_of cn l8 hDP pl pp pmo, fun q0 H5 s5 sg5 => ?_⟩
    have st5 := st4.same s5
    -- those that are had
    refine ⟨_, rfl, pc, rfl, ⟨_, SqL.of st5.hpc⟩, fun DH nDH => ?_⟩
    have yl := par_len st5.pyc
    have wl := waysC_len cn (by omega) l8
    refine lc_list (K := K) (a := pc) (xs := yc) (fun j G => Same H5 G ∧ ∃ hs, G DH = some (.lst hs) ∧ Paired (LWyN (fun a => a = DH) G) hs (((waysC ls.length ol).take j).filter (hadW ls)))
      ⟨(Same.refl H5).new nDH, [], upd_same, .nil⟩ (fun j G _ q => SqL.of (q.1 _ _ st5.hpc)) ?_ ?_
    · rintro j x G hj ⟨sG, hs, hG, pG⟩
      obtain ⟨wy, hw, lw⟩ := par_get st5.pyc hj
      have wm := List.mem_of_getElem? hw
      have gw := cn.good (by omega) l8 wm
      refine ⟨rfl, _, rfl, _, rfl, la, x, ls, wy, rfl, sG _ _ st5.hla, lw.same sG, good_fit gw, fun G2 sG2 => ?_⟩
      refine ⟨_, rfl, ?_⟩
      rw [← take_snoc hw, List.filter_append]
      cases c : hadW ls wy with
      | false =>
        refine iteF ⟨sG.trans sG2, hs, sG2 _ _ hG, ?_⟩
        rw [List.filter_cons_of_neg (by rw [c]; exact Bool.false_ne_true), List.filter_nil, List.append_nil]
        exact par_imp (fun _ _ z => z.same sG2) pG
      | true =>
        refine iteT ⟨_, rfl, hs, sG2 _ _ hG, ?_, (sG.trans sG2).mut nDH, _, upd_same, ?_⟩
        · have : (((waysC ls.length ol).take j).filter (hadW ls)).length ≤ 128 := Nat.le_trans (List.length_filter_le ..) (by rw [List.length_take]; omega)
          rw [par_len pG]
          exact sm (by omega)
        · rw [List.filter_cons_of_pos c, List.filter_nil]
          have hn : LWyN (fun a => a = DH) G2 x wy := (lwy_off lw nDH).same (sG.trans sG2)
          exact par_app (par_imp (fun _ _ z => (z.same sG2).mut rfl (sG2 _ _ hG)) pG) (.cons (hn.mut rfl (sG2 _ _ hG)) .nil)
    rintro H6 ⟨s56, hs, hDH, pH⟩
    rw [yl, List.take_length] at pH
    have st6 := st5.same s56
    refine ⟨_, _, rfl, ?_⟩
    have td6 : TD CM CL CO p DP q0 DH ls ol us hs L H6 := ⟨(s5.trans s56) _ _ hDP, DPp, par_imp (fun _ _ z => PL.ext z (ExtN.of (s5.trans s56))) pl, sg5.ext (ExtN.of s56), hDH, st5.pen.ne nDH, par_imp (fun _ _ z => z.wy) pH⟩
    have k06 : Kp p H H6 := (((k02.trans k3).trans k4).same s5).same s56
    refine ⟨fun σ' H' => σ' = [some (.ref p), some (.ref la), some (.ref lo), some (.ref r), some (.ref pc), some (.ref DP), some (.str (PyData.list (L.map (·.1))).shown), some (.ref q0), some (.ref DH), none, none, none, none, none, none] ∧ Same H6 H', ?_, ?_⟩
    · refine ⟨_, rfl, _, rfl, .inl ⟨DP, .list (L.map (·.1)), rfl, .lst (SqL.of td6.hDP) (pl_dp td6.pl), sml.1, sml.2.1, sml.2.2.1, sml.2.2.2, _, rfl, rfl, _, rfl, iteNS rfl ?_⟩⟩
      refine ⟨_, rfl, _, rfl, lo, xs, rfl, .inl ⟨SqL.of st6.hlo, fun t nt => ?_⟩⟩
      have s7 : Same H6 (upd H6 t (.tup xs)) := (Same.refl H6).new nt
      have ht : upd H6 t (.tup xs) t = some (.tup xs) := upd_same
      generalize upd H6 t (.tup xs) = H7 at s7 ht ⊢
      have st7 := st6.same s7
      refine ⟨r, .ref t, ls, ol, rfl, st7.ra, l3, l8, cn, tells_li cn l8 (.inr ht) st7.px, fun q2 H8 s8 sg8 => ?_⟩
      have s68 := s7.trans s8
      have sg6 := td6.sg.ext (ExtN.of s68)
      have td8 := td6.same s68 st6.pen
      have st8 := st7.same s8
      refine ⟨_, rfl, ?_⟩
      refine sgn_eq cn l3 l8 sg8 sg6 fun H9 s9 => ⟨_, rfl, iteF ?_⟩
      refine ⟨_, rfl, _, rfl, _, rfl, r, .ref DP, .ref q0, ls, ol, rfl, (st8.same s9).ra, l3, l8, cn, tells_of cn l8 (s9 _ _ td8.hDP) (par_imp (fun _ _ z => PL.ext z (ExtN.of s9)) td8.pl) pp pmo, show_told cn l3 l8 (sg6.ext (ExtN.of s9)) fun H10 s10 => ⟨true, true, rfl, rfl, _, rfl, iteF ⟨rfl, (s68.trans s9).trans s10⟩⟩⟩
    rintro σ' H7 ⟨rfl, s67⟩
    have st7 := st6.same s67
    have td7 := td6.same s67 st6.pen
    have k07 := k06.same s67
    have yl7 := par_len st7.pyc
    refine ⟨_, rfl, _, rfl, p, pc, e, yc, n + 80, rfl, SqL.of st7.hpc, st7.pcp, by omega, by omega, by omega, st7.pen, fun i9 vS H8 hi8 b8 pen8 => ?_⟩
    obtain ⟨px7, hp7⟩ := st7.pen.some
    have k8 : Kp p H7 H8 := (Kp.refl p H7).but b8
    have st8 := st7.kp k8 (pen8.mono (by omega : n + 80 + 1 ≤ n + 100)) (tabs_but st7.tab b8 hp7)
    have td8 := td7.kp k8 st7.pen
    have k08 := k07.trans k8
    obtain ⟨wS, hwS, lwS⟩ := par_get st8.pyc hi8
    have wSm := List.mem_of_getElem? hwS
    have gwS := cn.good (by omega) l8 wSm
    refine ⟨fun σ' H' => σ' = [some (.ref p), some (.ref la), some (.ref lo), some (.ref r), some (.ref pc), some (.ref DP), some (.str (PyData.list (L.map (·.1))).shown), some (.ref q0), some (.ref DH), some vS, none, none, none, none, none] ∧ Same H8 H', ?_, ?_⟩
    · refine ⟨_, rfl, _, rfl, _, rfl, madeU lwS gwS l3 l8 fun uD H10 lf s10 => ⟨rfl, madeM lf fun qD H11 s11 pg => ⟨rfl, ?_⟩⟩⟩
      have s811 := s10.trans s11
      have st11 := st8.same s811
      refine ⟨r, .ref lo, .ref qD, ls, ol, rfl, st11.ra, l3, l8, cn, tells_li cn l8 (.inl st11.hlo) st11.px, .inl ⟨qD, dueW wS, rfl, ⟨uD, pg, lf.same s11⟩, due_good gwS, by rw [cn.due wSm]; exact cn.lotsW wSm, fun H12 s12 => ?_⟩⟩
      have s812 := s811.trans s12
      refine ⟨_, rfl, _, rfl, la, vS, ls, wS, rfl, s812 _ _ st8.hla, lwS.same s812, good_fit gwS, fun H13 s13 => ⟨rfl, _, rfl, iteNS (by rw [had_due gwS]; rfl) ?_⟩⟩
      exact ⟨rfl, s812.trans s13⟩
    rintro σ' H9 ⟨rfl, s89⟩
    have st9 := st8.same s89
    have td9 := td8.same s89 st8.pen
    have k09 := k08.same s89
    have hsl := par_len td9.ph
    refine ⟨fun σ' H' => σ' = [some (.ref p), some (.ref la), some (.ref lo), some (.ref r), some (.ref pc), some (.ref DP), some (.str (PyData.list (L.map (·.1))).shown), some (.ref q0), some (.ref DH), some vS, none, none, none, none, none] ∧ Same H9 H' ∧ hs.isEmpty = false, ?_, ?_⟩
    · refine ⟨_, rfl, (by show 0 ≤ sizeLine; decide), fun z1 nz1 => ?_⟩
      have s10 : Same H9 (upd H9 z1 (.lst [])) := (Same.refl H9).new nz1
      have hz1 : upd H9 z1 (.lst []) z1 = some (.lst []) := upd_same
      generalize upd H9 z1 (.lst []) = H10 at s10 hz1 ⊢
      have st10 := st9.same s10
      have td10 := td9.same s10 st9.pen
      refine ⟨DH, z1, hs, rfl, rfl, SqL.of td10.hDH, SqL.of hz1, _, rfl, ?_⟩
      cases he : hs.isEmpty with
      | false => exact iteF ⟨rfl, s10, rfl⟩
      | true =>
        have fe : (waysC ls.length ol).filter (hadW ls) = [] := List.eq_nil_of_length_eq_zero (by rw [← hsl, List.length_eq_zero_iff]; exact List.isEmpty_iff.mp he)
        have nh : ∀ wy ∈ waysC ls.length ol, hadW ls wy = false := fun wy m => by
          cases c : hadW ls wy with
          | false => rfl
          | true =>
            have := List.mem_filter.mpr ⟨m, c⟩
            rw [fe] at this
            cases this
        refine iteT ?_
        -- the great lots
        refine ⟨_, rfl, pc, rfl, ⟨_, SqL.of st10.hpc⟩, fun DG nDG => ?_⟩
        refine lc_list (K := K) (a := pc) (xs := yc) (fun j G => Same H10 G ∧ ∃ gs, G DG = some (.lst gs) ∧ Paired (GO G (fun a => a = DG)) gs (((waysC ls.length ol).take j).map (greatOf ls)))
          ⟨(Same.refl H10).new nDG, [], upd_same, .nil⟩ (fun j G _ q => SqL.of (q.1 _ _ st10.hpc)) ?_ ?_
        · rintro j x G hj ⟨sG, gs, hG, pG⟩
          obtain ⟨wy, hw, lw⟩ := par_get st10.pyc hj
          have wm := List.mem_of_getElem? hw
          have gw := cn.good (by omega) l8 wm
          refine ⟨rfl, _, rfl, _, rfl, la, x, ls, wy, rfl, sG _ _ st10.hla, lw.same sG, good_fit gw, fun q us2 G2 sG2 nq hq pu => ?_⟩
          rw [greats_one cn wm (nh wy wm)] at pu
          cases pu with
          | cons hu t =>
            cases t
            obtain ⟨u, rfl, hu⟩ := hu
            have qD : ¬ q = DG := fun z => by rw [z, hG] at nq; cases nq
            refine ⟨gs, sG2 _ _ hG, ?_, (sG.trans sG2).mut nDG, _, upd_same, ?_⟩
            · have : ((waysC ls.length ol).take j).length ≤ 128 := by rw [List.length_take]; omega
              rw [par_len pG, List.length_map]
              exact sm (by omega)
            · rw [← take_snoc hw, List.map_append]
              exact par_app (par_imp (fun _ _ z => (z.same sG2).mut rfl (sG2 _ _ hG)) pG) (.cons (GO.mut ⟨q, u, rfl, qD, hq, hu⟩ rfl (sG2 _ _ hG)) .nil)
        rintro H11 ⟨s11, gs, hDG, pG⟩
        rw [yl7, List.take_length] at pG
        have st11 := st10.same s11
        have td11 := td10.same s11 st10.pen
        have gl := par_len pG
        rw [List.length_map] at gl
        -- it is no signs
        rcases td11.sg with ⟨_, nr⟩ | ⟨_, hd, _⟩
        case inr => rw [fe] at hd; cases hd
        obtain ⟨v1, ⟨dx, tq, hq, htq⟩, fv⟩ := id nr
        refine ⟨_, rfl, .ref q0, .ref CO, .ref CO, .ref CO, true, rfl, .own _, .base (.ins hq OI.cl OI.ha OI.hn OI.htk OI.hm), OI.me, _, rfl, iteF ?_⟩
        refine ⟨_, rfl, .inr ⟨q0, CO, dx, _, rfl, hq, BO.f, BO.fn, _, rfl, false, rfl, iteF ?_⟩⟩
        refine ⟨_, rfl, q0, CO, dx, _, _, rfl, hq, RO.pc.cl, RO.pc.nw, rfl, rfl, _, rfl, iteF ?_⟩
        refine ⟨_, rfl, DG, rfl, ⟨_, SqL.of hDG⟩, fun D4 nD4 => ?_⟩
        refine lc_list (K := K) (a := DG) (xs := gs) (fun j G => Same H11 G ∧ G D4 = some (.lst [])) ⟨(Same.refl H11).new nD4, upd_same⟩ (fun j G _ q => SqL.of (q.1 _ _ hDG)) ?_ ?_
        · rintro j x G hj ⟨sG, hG⟩
          obtain ⟨gg, hg, a, u, rfl, _, ha, hu⟩ := par_get pG hj
          exact ⟨rfl, _, rfl, a, _, rfl, .inl (SqL.of (sG _ _ ha)), rfl, _, rfl, iteF ⟨sG, hG⟩⟩
        rintro H12 ⟨s12, hD4⟩
        refine ⟨(by show 0 ≤ sizeLine; decide), fun z2 nz2 => ?_⟩
        have s13 : Same H12 (upd H12 z2 (.lst [])) := (Same.refl H12).new nz2
        have hz2 : upd H12 z2 (.lst []) z2 = some (.lst []) := upd_same
        generalize upd H12 z2 (.lst []) = H13 at s13 hz2 ⊢
        refine ⟨.list [], .list [], .lst (SqL.of (s13 _ _ hD4)) .nil, .lst (SqL.of hz2) .nil, rfl, rfl, _, rfl, iteF ?_⟩
        have s14 := ((s11.trans s12).trans s13)
        have s1114 := s12.trans s13
        have hq14 := s1114 _ _ hq
        have pG14 := par_imp (fun _ _ z => GO.same z s1114) pG
        -- the lots told
        refine ⟨_, rfl, q0, CO, dx, _, _, rfl, hq14, RO.pc.cl, RO.n1, rfl, ?_⟩
        refine ⟨_, rfl, DG, rfl, ⟨_, SqL.of (s1114 _ _ hDG)⟩, fun D5 nD5 => ?_⟩
        refine lc_list (K := K) (a := DG) (xs := gs) (fun j G => Same H13 G ∧ ∃ us, G D5 = some (.lst us) ∧ Paired (LG G) us (((waysC ls.length ol).map (greatOf ls)).take j)) ⟨(Same.refl H13).new nD5, [], upd_same, .nil⟩ (fun j G _ q => SqL.of (q.1 _ _ (s1114 _ _ hDG))) ?_ ?_
        · rintro j x G hj ⟨sG, us5, hG, pu⟩
          obtain ⟨gg, hg, a, u, rfl, _, ha, hu⟩ := par_get pG14 hj
          refine ⟨rfl, _, rfl, a, _, 0, _, rfl, rfl, SqL.of (sG _ _ ha), at_of (j := 0) rfl rfl, us5, hG, ?_, sG.mut nD5, _, upd_same, ?_⟩
          · rw [par_len pu, List.length_take, List.length_map]
            exact sm (by omega)
          · rw [← take_snoc hg]
            exact par_app (par_imp (fun _ _ z => z.mut hG) pu) (.cons (LG.mut ⟨u, rfl, sG _ _ hu⟩ hG) .nil)
        rintro H15 ⟨s15, us5, hD5, p5⟩
        rw [gl, ← List.length_map (greatOf ls) (as := waysC ls.length ol), List.take_length] at p5
        refine ⟨D5, us5, rfl, .inl ⟨SqL.of hD5, fun t5 nt5 => ?_⟩⟩
        have s16 : Same H15 (upd H15 t5 (.tup us5)) := (Same.refl H15).new nt5
        have ht5 : upd H15 t5 (.tup us5) t5 = some (.tup us5) := upd_same
        generalize upd H15 t5 (.tup us5) = H16 at s16 ht5 ⊢
        have s1116 := (s1114.trans s15).trans s16
        have hq16 := s1116 _ _ hq
        have dv : Dp K H16 v1 (lotsD (greatsC ls ol)) := fv_dp (fv.same s1116)
        have dt : Dp K H16 (.ref t5) (lotsD (greatsC ls ol)) := .tup (.inl (.inl ht5)) (tl_dp (par_imp (fun _ _ z => LG.same z s16) p5))
        refine ⟨_, _, dv, dt, shaped_lotsT _, shaped_lotsT _, ?_⟩
        rw [eqv_lots, decide_eq_true rfl]
        refine ⟨_, rfl, iteT ?_⟩
        refine ⟨_, rfl, q0, CO, dx, _, _, rfl, hq16, RO.pc.cl, RO.pc.np, rfl, ?_⟩
        refine ⟨_, rfl, q0, CO, dx, _, _, rfl, hq16, RO.pc.cl, RO.n1, rfl, (by show 1 ≤ sizeLine; decide), fun t6 nt6 => ?_⟩
        have s17 : Same H16 (upd H16 t6 (.tup [v1])) := (Same.refl H16).new nt6
        have ht6 : upd H16 t6 (.tup [v1]) t6 = some (.tup [v1]) := upd_same
        generalize upd H16 t6 (.tup [v1]) = H17 at s17 ht6 ⊢
        have s1117 := s1116.trans s17
        have dv7 : Dp K H17 v1 (lotsD (greatsC ls ol)) := fv_dp (fv.same s1117)
        refine ⟨.tuple [lotsD (greatsC ls ol)], .tuple [lotsD (greatsC ls ol)], .tup (.inl (.inl (s1117 _ _ htq))) (.cons dv7 .nil), .tup (.inl (.inl ht6)) (.cons dv7 .nil), shaped_parts _, shaped_parts _, ?_⟩
        have e1 : PyData.eqv (.tuple [lotsD (greatsC ls ol)]) (.tuple [lotsD (greatsC ls ol)]) = true := by
          rw [PyData.eqv, PyData.eqvAll, PyData.eqvAll, eqv_lots]
          simp
        rw [e1]
        have st17 := st11.same s1117
        exact k _ (((k09.same s10).same s11).same s1117) (st17.pen.mono (by omega)) st17.tab
    rintro σ' H10 ⟨rfl, s910, he⟩
    have st10 := st9.same s910
    have td10 := td9.same s910 st9.pen
    have k010 := k09.same s910
    have ne : (waysC ls.length ol).filter (hadW ls) ≠ [] := fun z => by
      have := hsl
      rw [z] at this
      cases hs with
      | nil => cases he
      | cons _ _ => cases this
    rcases td10.sg with ⟨fe, _⟩ | ⟨wy, hd, u0, pg, lf⟩
    case inl => exact absurd fe ne
    obtain ⟨dx, tq, hq, htq⟩ := id pg
    have wmF := List.mem_filter.mp (List.mem_of_mem_head? hd)
    have gw := cn.good (by omega) l8 wmF.1
    have gd := due_good gw
    have hdW : hadN (netsW ls (dueW wy)) = true := by rw [had_due gw]; exact wmF.2
    refine ⟨_, rfl, .ref q0, .ref CM, .ref CM, .ref CM, true, rfl, .own _, .base (.ins hq MI.cl MI.ha MI.hn MI.htk MI.hm), MI.me, _, rfl, iteF ?_⟩
    refine ⟨_, rfl, .inl ⟨q0, CM, dx, _, rfl, hq, BM.f, BM.fn, _, rfl, true, rfl, iteF ?_⟩⟩
    refine ⟨_, rfl, q0, CM, dx, _, _, rfl, hq, RC.pc.cl, RC.pc.nw, rfl, rfl, _, rfl, iteF ?_⟩
    refine ⟨_, rfl, q0, CM, dx, _, _, rfl, hq, RC.pc.cl, RC.pc.np, rfl, _, rfl, q0, CM, dx, _, _, rfl, hq, RC.pc.cl, RC.n1, rfl, (by show 1 ≤ sizeLine; decide), fun t1 nt1 => ?_⟩
    have s11 : Same H10 (upd H10 t1 (.tup [.ref u0])) := (Same.refl H10).new nt1
    have ht1 : upd H10 t1 (.tup [.ref u0]) t1 = some (.tup [.ref u0]) := upd_same
    generalize upd H10 t1 (.tup [.ref u0]) = H11 at s11 ht1 ⊢
    refine ⟨tq, t1, u0, rfl, rfl, .inl (.inl (s11 _ _ htq)), .inl (.inl ht1), _, rfl, iteF ?_⟩
    have hq11 := s11 _ _ hq
    have lf11 := lf.same s11
    have td11 := td10.same s11 st10.pen
    have st11 := st10.same s11
    obtain ⟨ux, ufs, hu11⟩ := lf11.ins
    obtain ⟨x0, hx0, lw0⟩ : ∃ x0, hs[0]? = some x0 ∧ LWy H11 x0 wy := by
      rw [List.head?_eq_getElem?] at hd
      have : 0 < ((waysC ls.length ol).filter (hadW ls)).length := (List.getElem?_eq_some_iff.mp hd).1
      have hx : hs[0]? = some hs[0] := List.getElem?_eq_getElem (by omega)
      obtain ⟨w0, hw0, lw⟩ := par_get td11.ph hx
      rw [hd] at hw0
      cases hw0
      exact ⟨_, hx, lw⟩
    refine ⟨_, rfl, q0, CM, dx, _, _, rfl, hq11, RC.pc.cl, RC.n1, rfl, .ref u0, .ref CL, .ref CL, .ref CL, true, rfl, .own _, .base (.ins hu11 LI_.cl LI_.ha LI_.hn LI_.htk LI_.hm), LI_.me, _, rfl, iteF ?_⟩
    refine ⟨_, rfl, q0, CM, dx, _, _, rfl, hq11, RC.pc.cl, RC.n1, rfl, _, rfl, DH, _, _, x0, rfl, rfl, SqL.of td11.hDH, at_of (j := 0) rfl hx0, madeU lw0 gw l3 l8 fun v0 H12 lv12 s12 => ⟨rfl, ?_⟩⟩
    have lf12 := lf11.same s12
    obtain ⟨vx, vfs, hv12⟩ := lv12.ins
    refine ⟨u0, v0, ux, vx, ufs, vfs, rfl, rfl, s12 _ _ hu11, hv12, u0, v0, rfl, ⟨dueW wy, ls.length, lf12, lv12, gd⟩, fun H13 e13 => ⟨true, rfl, _, rfl, iteF ?_⟩⟩
    have s13 : Same H12 H13 := e13
    have s1113 := s12.trans s13
    have st13 := st11.same s1113
    have td13 := td11.same s1113 st11.pen
    have lf13 := lf11.same s1113
    refine ⟨_, rfl, _, rfl, q0, CM, dx, _, _, rfl, s1113 _ _ hq11, RC.pc.cl, RC.n1, rfl, r, u0, ls, dueW wy, rfl, st13.ra, l3, l8, lf13, gd, fun _ qn H14 s14 nr14 => .inl ?_, fun z => by rw [hdW] at z; cases z⟩
    obtain ⟨nv, ⟨dxn, tn, hqn, _⟩, _⟩ := nr14
    refine ⟨qn, CN, dxn, _, rfl, hqn, BN.f, BN.fn, _, rfl, true, rfl, iteF ?_⟩
    have st14 := st13.same s14
    have td14 := td13.same s14 st13.pen
    -- the last that is had
    have hne : hs ≠ [] := fun z => by rw [z] at he; cases he
    have atL : atI hs (-1) = some (hs.getLast hne) := by
      have z : atI (hs.dropLast ++ [hs.getLast hne]) (-1) = some (hs.getLast hne) := atI_last _ _
      rw [List.dropLast_concat_getLast hne] at z
      exact z
    obtain ⟨wl, hwl, lwl⟩ := par_mem td14.ph (List.getLast_mem hne)
    have wlF := List.mem_filter.mp hwl
    have gwl := cn.good (by omega) l8 wlF.1
    have hdl : hadN (netsW ls (dueW wl)) = true := by rw [had_due gwl]; exact wlF.2
    refine ⟨_, rfl, _, rfl, DH, _, _, hs.getLast hne, rfl, rfl, SqL.of td14.hDH, atL, madeU lwl gwl l3 l8 fun uL H15 lfL s15 => ⟨rfl, rfl, rfl, madeM lfL fun qL H16 s16 pgL => ⟨rfl, ?_⟩⟩⟩
    have s1416 := s15.trans s16
    have st16 := st14.same s1416
    have td16 := td14.same s1416 st14.pen
    refine ⟨_, rfl, _, rfl, _, rfl, r, .ref lo, .ref qL, ls, ol, rfl, st16.ra, l3, l8, cn, tells_li cn l8 (.inl st16.hlo) st16.px, .inl ⟨qL, dueW wl, rfl, ⟨uL, pgL, lfL.same s16⟩, due_good gwl, by rw [cn.due wlF.1]; exact cn.lotsW wlF.1, fun H17 s17 => ?_⟩⟩
    rw [hdl]
    refine ⟨true, true, rfl, rfl, _, rfl, iteT ?_⟩
    have st17 := st16.same s17
    -- no signs
    have ol0 : 0 < ol.length := by
      cases ol with
      | nil =>
        have := cn.pm.length_eq
        rw [rngI_len] at this
        have : 0 = ls.length := this
        omega
      | cons _ _ => simp
    obtain ⟨x1, hx1⟩ : ∃ x1, xs[0]? = some x1 := ⟨_, List.getElem?_eq_getElem (by omega)⟩
    obtain ⟨o1, ho1, l1⟩ := par_get st17.px hx1
    have o18 := ol8.2 o1 (List.mem_of_getElem? ho1)
    refine ⟨_, rfl, _, rfl, _, rfl, lo, xs, 0, x1, rfl, rfl, SqL.of st17.hlo, at_of (j := 0) rfl hx1, (by show 1 ≤ sizeLine; decide), fun z3 nz3 => ?_⟩
    have s18 : Same H17 (upd H17 z3 (.lst [x1])) := (Same.refl H17).new nz3
    have hz3 : upd H17 z3 (.lst [x1]) z3 = some (.lst [x1]) := upd_same
    generalize upd H17 z3 (.lst [x1]) = H18 at s18 hz3 ⊢
    have st18 := st17.same s18
    refine ⟨_, rfl, pc, yc, rfl, .inl (SqL.of st18.hpc), z3, (yc.length : Int), [x1], rfl, rfl, hz3, by omega, by omega, ?_, fun p4 np4 => ?_⟩
    · show 1 * (yc.length : Int).toNat ≤ sizeLine
      rw [Int.toNat_natCast, Nat.one_mul]
      exact Nat.le_of_lt (sm (by omega))
    have ef : (List.replicate (yc.length : Int).toNat [x1]).flatten = List.replicate yc.length x1 := by
      rw [Int.toNat_natCast]
      generalize yc.length = m
      induction m with
      | zero => rfl
      | succ m ih => rw [List.replicate_succ, List.flatten_cons, ih, List.replicate_succ]; rfl
    rw [ef]
    have s19 : Same H18 (upd H18 p4 (.lst (List.replicate yc.length x1))) := (Same.refl H18).new np4
    have hp4 : upd H18 p4 (.lst (List.replicate yc.length x1)) p4 = some (.lst (List.replicate yc.length x1)) := upd_same
    generalize upd H18 p4 (.lst (List.replicate yc.length x1)) = H19 at s19 hp4 ⊢
    have st19 := st18.same s19
    have fv : FV H19 true 2 (.ref p4) (lotsD (List.replicate yc.length o1)) := by
      refine .inr ⟨p4, _, _, rfl, .inr ⟨rfl, hp4⟩, rfl, by rw [List.length_replicate]; omega, lots_fv ?_⟩
      have f1 : FV H19 true 1 x1 (lotD o1) := lot_fv (.inr ⟨rfl, (l1.same s18).same s19⟩) (by omega)
      generalize yc.length = m
      induction m with
      | zero => exact .nil
      | succ m ih => exact .cons f1 ih
    refine madeO fv fun qN H20 s20 nr => ⟨rfl, ?_⟩
    have st20 := st19.same s20
    refine ⟨r, .ref lo, .ref qN, ls, ol, rfl, st20.ra, l3, l8, cn, tells_li cn l8 (.inl st20.hlo) st20.px, .inr ⟨qN, _, rfl, nr, .inr ⟨ne, fun H21 s21 => ⟨false, false, rfl, rfl, ?_⟩⟩⟩⟩
    have st21 := st20.same s21
    have s1321 := (((((s14.trans s1416).trans s17).trans s18).trans s19).trans s20).trans s21
    exact k _ (((k010.same s11).same s1113).same s1321) st21.pen st21.tab
end
end K
namespace K
open PySem PySem.Spec PyProof.Rows L2 Rg LamX
open Evl (pss_cut)
/-- isinstance(e, c), e the caught error with its dict -/
def rIsX (K : PySem.W.Frag) (a : Addr) (cls : Value) (d : Option Addr) : List V → Hp → VK → Prop := fun xs H Q => ∃ (c : V) (cv : Value) (b : Bool) (D dd : Addr) (fs : List (Str × V)), xs = [.ref a, c] ∧ (∀ u, RelV c u → u = cv) ∧ cls = .ref D ∧ ExcC K D ∧ d = some dd ∧ H dd = some (.xd fs) ∧ PySem.W.kitOne K (.ref D) cv = some b ∧ Q (.bl b) H
theorem cr_isX {X : Cx} {a : Addr} {cls : Value} {d : Option Addr} {oe : Obj} {pn : List (Addr × Obj)} (hz : Zc cls d oe) (hf : ∃ vs, oe.data = .fields vs) : CallR (X.suite a ((a, oe) :: pn)) (.builtin "isinstance") (rIsX X.K a cls d) := by
  intro pins s σ H xs us Q I r ⟨c, cv, b, D, dd, fs, ex, hcv, ec, C, ed, hdd, e, q⟩
  subst ex ec ed
  obtain ⟨u1, u2, rfl, r1, r2⟩ := vals2 r
  obtain rfl : u1 = Value.ref a := r1
  obtain rfl := hcv _ r2
  obtain ⟨hget, _⟩ := I.pin (a, oe) (List.mem_append_left _ List.mem_cons_self)
  obtain ⟨vs, hv⟩ := hf
  obtain ⟨mA, hns, _⟩ := (show ObjOk X.prog X.w H s.heap dd (.xd fs) from I.hok dd _ hdd)
  obtain ⟨od, ho, _⟩ := lookIn_ns hns
  have J : PySem.W.InstAt s.heap a oe D (some od) := ⟨hget, hz.1, by unfold PySem.W.notCls; rw [hv] <;> rfl, by rw [hz.2]; exact ho⟩
  have hcl : (PySem.W.clsIn X.K D).isSome = true := by
    obtain ⟨cd, hc, _⟩ := PySem.W.any_some C.hd
    rw [hc]
    rfl
  exact PySem.W.kia_one (PySem.W.kitx_exc hcl C.hg C.hk C.hs C.ha C.hn C.ht C.hm) I.kIn J e (fun z => nomatch z) fun tk => ⟨.bl b, H, I.kept (t' := tk) fun _ _ z => z, rfl, q⟩
/-- isinstance(e, (A, B)), e the caught error with its dict -/
def rIsXT (K : PySem.W.Frag) (a : Addr) (cls : Value) (d : Option Addr) : List V → Hp → VK → Prop := fun xs H Q => ∃ (tp : Addr) (cs : List V) (us : List Value) (b : Bool) (D dd : Addr) (fs : List (Str × V)), xs = [.ref a, .ref tp] ∧ H tp = some (.tup cs) ∧ Paired ClsV cs us ∧ cls = .ref D ∧ ExcC K D ∧ d = some dd ∧ H dd = some (.xd fs) ∧ PySem.W.kitAny K (.ref D) us = some b ∧ Q (.bl b) H
theorem cr_isXT {X : Cx} {a : Addr} {cls : Value} {d : Option Addr} {oe : Obj} {pn : List (Addr × Obj)} (hz : Zc cls d oe) (hf : ∃ vs, oe.data = .fields vs) : CallR (X.suite a ((a, oe) :: pn)) (.builtin "isinstance") (rIsXT X.K a cls d) := by
  intro pins s σ H xs us Q I r ⟨tp, cs, cv, b, D, dd, fs, ex, hT, hk, ec, C, ed, hdd, e, q⟩
  subst ex ec ed
  obtain ⟨u1, u2, rfl, r1, r2⟩ := vals2 r
  obtain rfl : u1 = Value.ref a := r1
  cases (show u2 = Value.ref tp from r2)
  obtain ⟨_, its, rv, o, h1, h2, n, h3⟩ := (show ObjOk X.prog X.w H s.heap tp (.tup cs) from I.hok tp _ hT)
  have e3 := ClsV.all hk rv
  subst e3
  obtain ⟨oc, odt, dt, sl⟩ := o
  simp only at h2 h3
  subst h2 h3
  obtain ⟨hget, _⟩ := I.pin (a, oe) (List.mem_append_left _ List.mem_cons_self)
  obtain ⟨vs, hv⟩ := hf
  obtain ⟨mA, hns, _⟩ := (show ObjOk X.prog X.w H s.heap dd (.xd fs) from I.hok dd _ hdd)
  obtain ⟨od, ho, _⟩ := lookIn_ns hns
  have J : PySem.W.InstAt s.heap a oe D (some od) := ⟨hget, hz.1, by unfold PySem.W.notCls; rw [hv] <;> rfl, by rw [hz.2]; exact ho⟩
  have hcl : (PySem.W.clsIn X.K D).isSome = true := by
    obtain ⟨cd, hc, _⟩ := PySem.W.any_some C.hd
    rw [hc]
    rfl
  exact PySem.W.kia_tup (PySem.W.kitx_exc hcl C.hg C.hk C.hs C.ha C.hn C.ht C.hm) I.kIn J h1 e (fun z => nomatch z) fun tk => ⟨.bl b, H, I.kept (t' := tk) fun _ _ z => z, rfl, q⟩
/-- error.f, whose class is told at the proof -/
def tXfA (K : PySem.W.Frag) (a : Addr) (cls : Value) (d : Option Addr) (te : TE) (f : Str) : TE := fun σ Hh Q => te σ Hh fun x J => x = .ref a ∧ ∃ (C dd : Addr) (fs : List (Str × V)) (v : V), cls = .ref C ∧ XfC K C ∧ PySem.W.findIn K (.ref C) f = some none ∧ d = some dd ∧ J dd = some (.xd fs) ∧ fs.lookup f = some v ∧ Q v J
theorem pe_xfA {X : Cx} {a : Addr} {oe : Obj} {cls : Value} {d : Option Addr} {pn : List (Addr × Obj)} {ex : Expr} {te : TE} {po : Pos} {n : Str} (hz : Zc cls d oe) (hf : ∃ vs, oe.data = .fields vs) (he : PE (X.suite a ((a, oe) :: pn)) ex te)
    (hb : attributeBase ex n X.env (eval ex X.env) = eval ex X.env := by rfl) : PE (X.suite a ((a, oe) :: pn)) (.Attribute ex n po) (tXfA X.K a cls d te n) := by
  refine ⟨fun pins s σ Hh Q Iv h => attr_of hb (thn (he.run pins s σ Hh _ Iv h) fun u s1 hh => ?_)⟩
  obtain ⟨x, J, I1, rx, exx, C, dd, fs, v, ec, T, hno, ed, ea, l, q⟩ := hh
  subst exx
  obtain rfl : u = Value.ref a := rx
  subst ec ed
  obtain ⟨ha, _⟩ := I1.pin (a, oe) (List.mem_append_left _ List.mem_cons_self)
  obtain ⟨vs, hd⟩ := hf
  have hx : ObjOk X.prog X.w J s1.heap dd (.xd fs) := I1.hok dd _ ea
  obtain ⟨mA, hns, hr⟩ := hx
  obtain ⟨od, ho, hl⟩ := lookIn_ns hns
  obtain ⟨z, hu, ru⟩ := RelO.some_of (v := v) (o := mA n) (by rw [← l]; exact hr n)
  have J0 : PySem.W.InstAt s1.heap a oe C (some od) := ⟨ha, hz.1, by unfold PySem.W.notCls; rw [hd] <;> rfl, by rw [hz.2]; exact ho⟩
  exact HandSPX.exc_get I1.kIn J0 T.ga T.gg T.exC (PySem.W.findObj_own T.hdC hno rfl (by rw [hl, hu])) (handed_of ru) ⟨v, J, I1.tok _, ru, q⟩
theorem kit_fst {K : PySem.W.Frag} {t c : Value} {r : List Value} (h : PySem.W.kitOne K t c = some true) : PySem.W.kitAny K t (c :: r) = some true := by
  unfold PySem.W.kitAny
  rw [h]
theorem kit_skip {K : PySem.W.Frag} {t c : Value} {r : List Value} {b : Bool} (h : PySem.W.kitOne K t c = some false) (h2 : PySem.W.kitAny K t r = some b) : PySem.W.kitAny K t (c :: r) = some b := by
  unfold PySem.W.kitAny
  rw [h]
  exact h2
structure Hs where
  u : Addr
  o : Addr
  r : Addr
  n : Addr
  t : Addr
structure HeardC (K : PySem.W.Frag) (mg : Str → Option Value) (c : Hs) (eR : Addr) : Prop where
  gRE : mg "RingError" = some (.ref eR)
  gu : mg "BadLineUp" = some (.ref c.u)
  eu : ExcC K c.u
  xu : XfC K c.u
  mu : PySem.W.exmOne K (.ref c.u) (.ref eR) = some true
  fu : PySem.W.findIn K (.ref c.u) "part" = some none
  go : mg "BadLot" = some (.ref c.o)
  eo : ExcC K c.o
  xo : XfC K c.o
  mo : PySem.W.exmOne K (.ref c.o) (.ref eR) = some true
  fo : PySem.W.findIn K (.ref c.o) "part" = some none
  gr : mg "BadRing" = some (.ref c.r)
  er : ExcC K c.r
  xr : XfC K c.r
  mr : PySem.W.exmOne K (.ref c.r) (.ref eR) = some true
  fr : PySem.W.findIn K (.ref c.r) "part" = some none
  gn : mg "NoBar" = some (.ref c.n)
  en : ExcC K c.n
  xn : XfC K c.n
  mn : PySem.W.exmOne K (.ref c.n) (.ref eR) = some true
  fn : PySem.W.findIn K (.ref c.n) "value" = some none
  gt : mg "Twice" = some (.ref c.t)
  et : ExcC K c.t
  xt : XfC K c.t
  mt : PySem.W.exmOne K (.ref c.t) (.ref eR) = some true
  ft : PySem.W.findIn K (.ref c.t) "value" = some none
  kou : PySem.W.kitOne K (.ref c.o) (.ref c.u) = some false
  kru : PySem.W.kitOne K (.ref c.r) (.ref c.u) = some false
  kro : PySem.W.kitOne K (.ref c.r) (.ref c.o) = some false
  knu : PySem.W.kitOne K (.ref c.n) (.ref c.u) = some false
  kno : PySem.W.kitOne K (.ref c.n) (.ref c.o) = some false
  knr : PySem.W.kitOne K (.ref c.n) (.ref c.r) = some false
  ktu : PySem.W.kitOne K (.ref c.t) (.ref c.u) = some false
  kto : PySem.W.kitOne K (.ref c.t) (.ref c.o) = some false
  ktr : PySem.W.kitOne K (.ref c.t) (.ref c.r) = some false
  ktn : PySem.W.kitOne K (.ref c.t) (.ref c.n) = some false
inductive HTells (c : Hs) : Addr → Str → V → List V → Prop where
  | u (v : V) : HTells c c.u "part" v [.str "lineup", v]
  | o (v : V) : HTells c c.o "part" v [.str "lot", v]
  | r (v : V) : HTells c c.r "part" v [.str "ring", v]
  | n (i : Int) (h : i.natAbs.log2 < 1920) : HTells c c.n "value" (.int i) [.str "bar", .str (toString i)]
  | t (i : Int) (h : i.natAbs.log2 < 1920) : HTells c c.t "value" (.int i) [.str "twice", .str (toString i)]
/-- one of the errors comes: a tuple tells which, and its field -/
def Told (c : Hs) (Q : VK) : XK := fun cls d H' => ∃ (C dd : Addr) (n : Str) (v : V) (its : List V), cls = .ref C ∧ d = some dd ∧ H' dd = some (.xd [(n, v)]) ∧ HTells c C n v its ∧ ∀ p H2, Same H' H2 → H2 p = some (.tup its) → Q (.ref p) H2
def THeard (c : Hs) : (XK → Hp → VK → Prop) → Hp → VK → Prop := fun tl H Q => ∀ R : VK, tl (Told c Q) H R
theorem takes_len {X : Cx} {W : WX} (t : Takes X W) : Takes X fun c d σ H => σ.length = X.N.length → W c d σ H := fun u s' ⟨a, B, sI, pins, σ, H, cls, d, e, I, nb, up, sky, na, os, ag, w⟩ =>
  t u s' ⟨a, B, sI, pins, σ, H, cls, d, e, I, nb, up, sky, na, os, ag, w I.len⟩
abbrev nHeard : List Str := ["_law_ask", "_law_heard_here", "error"]
theorem scHeard : FnScope nHeard ["_law_ask"] (defScope sLwHeard) := ⟨rfl, rfl, rfl, by decide +kernel, rfl, by decide +kernel, by decide +kernel⟩
theorem heard_gives {X : Cx} {c : Hs} {eR g : Addr} {cdg : Value} {q : Str} (T : Bi X.mg) (B2 : Bi2 X.mg) (Hc : HeardC X.K X.mg c eR) : GivesTo X nHeard "_law_heard" (defScope sLwHeard) g cdg (defBody sLwHeard) "_law_ask" q (THeard c) := by
  intro f c' s H Q tl act hc h
  have nd := scHeard.nd
  refine ⟨_, pss_cons (ps_set (i := 1) nd rfl (Or.inl rfl) pe_non)
    (pss_cons (ps_try_as (X := (cxOf C8.CX0 X.prog X.w X.K X.mg X.base nHeard "_law_heard" (defScope sLwHeard) g cdg X.A X.stack s H C8.E0).nox) (c := .ref eR) (i := 2)
      (tb := fun W D σ H => ∃ Ech : XK, (∀ cls d σ' H', Ech cls d H' → σ'.length = 3 → W cls d σ' H') ∧ σ[0]? = some (some (.ref f)) ∧ H c' = some (CodeO c' q) ∧ tl Ech H fun _ H' => D.nx σ H')
      rfl rfl nd rfl rfl ⟨rfl, rfl, .inl Hc.gRE⟩ L2.takes0 (fun W pn xe tk _ => ?_) (fun a oe cls d pn hz hf =>
        pss_cons (ps_set (i := 1) nd rfl (Or.inl rfl) (pe_tup (pa_cons pe_str (pa_cons pe_str pa_nil))))
        (pss_one (ps_if (pt_val (pe_callB (cr_isXT hz hf) (by rfl) T.isinstance (by decide +kernel) (pa_cons (pv 2) (pa_cons (pe_tup (pa_cons (pe_glob (v := .ref c.u) rfl Hc.gu rfl) (pa_cons (pe_glob (v := .ref c.o) rfl Hc.go rfl) (pa_cons (pe_glob (v := .ref c.r) rfl Hc.gr rfl) pa_nil)))) pa_nil))))
          (pss_one (ps_set (i := 1) nd rfl (Or.inl rfl) (pe_tup (pa_cons (pe_ifExp (pt_val (pe_callB (cr_isX hz hf) (by rfl) T.isinstance (by decide +kernel) (pa_cons (pv 2) (pa_cons (pe_glob (v := .ref c.u) rfl Hc.gu rfl) pa_nil)))) pe_str (pe_ifExp (pt_val (pe_callB (cr_isX hz hf) (by rfl) T.isinstance (by decide +kernel) (pa_cons (pv 2) (pa_cons (pe_glob (v := .ref c.o) rfl Hc.go rfl) pa_nil)))) pe_str pe_str)) (pa_cons (pe_xfA hz hf (pv 2)) pa_nil)))))
          (pss_one (ps_if (pt_val (pe_callB (cr_isXT hz hf) (by rfl) T.isinstance (by decide +kernel) (pa_cons (pv 2) (pa_cons (pe_tup (pa_cons (pe_glob (v := .ref c.n) rfl Hc.gn rfl) (pa_cons (pe_glob (v := .ref c.t) rfl Hc.gt rfl) pa_nil))) pa_nil))))
          (pss_one (ps_set (i := 1) nd rfl (Or.inl rfl) (pe_tup (pa_cons (pe_ifExp (pt_val (pe_callB (cr_isX hz hf) (by rfl) T.isinstance (by decide +kernel) (pa_cons (pv 2) (pa_cons (pe_glob (v := .ref c.n) rfl Hc.gn rfl) pa_nil)))) pe_str pe_str) (pa_cons (pe_callB SkE.call_repr_int (by rfl) B2.repr (by decide +kernel) (pa_cons (pe_xfA hz hf (pv 2)) pa_nil)) pa_nil)))))
          pss_nil))))))
    (pss_one (ps_ret (pv 1)))), ?_⟩
  · refine ⟨fun pins s' σ H' D I h' => ?_⟩
    obtain ⟨Ech, hW, h1, h2, h3⟩ := h'
    exact (pss_one (ps_expr (act _ pn xe Ech _ _ (takes_len tk) hW))).run pins s' σ H' D I ⟨h1, h2, h3⟩
  · refine ⟨Told c Q, ?_, rfl, hc, h _⟩
    rintro cls d σ' H' ⟨C, dd, nm, v, its, rfl, rfl, hdd, tells, q⟩ hl
    obtain ⟨x0, x1, x2, rfl⟩ : ∃ x0 x1 x2, σ' = [x0, x1, x2] := by
      match σ', hl with
      | [x0, x1, x2], _ => exact ⟨x0, x1, x2, rfl⟩
    have two : ∀ y : Addr, H' y = none → ∀ (t : Addr) (us : List V), upd H' y (.tup [.str "other", .str ""]) t = none → Same H' (upd (upd H' y (.tup [.str "other", .str ""])) t (.tup us)) := fun y hy t us ht => ((Same.refl H').new hy).new ht
    have tells' := tells
    cases tells'
    · refine ⟨true, Hc.mu, fun _ a ha => ?_, fun z => by cases z⟩
      refine ⟨(by show 2 ≤ sizeLine; decide), fun y hy => ?_⟩
      refine ⟨_, rfl, (by show 3 ≤ sizeLine; decide), fun t ht => ?_⟩
      have s2 := two y hy t [.ref c.u, .ref c.o, .ref c.r] ht
      refine ⟨t, _, _, true, c.u, dd, _, rfl, upd_same, (.cons (.own _) (.cons (.own _) (.cons (.own _) .nil))), rfl, Hc.eu, rfl, s2 _ _ hdd, (kit_fst kit_self), _, rfl, iteT ?_⟩
      refine ⟨_, rfl, .ref c.u, .ref c.u, true, c.u, dd, _, rfl, fun _ r => r, rfl, Hc.eu, rfl, s2 _ _ hdd, kit_self, _, rfl, iteT ?_⟩
      refine ⟨_, rfl, rfl, c.u, dd, _, v, rfl, Hc.xu, Hc.fu, rfl, s2 _ _ hdd, by simp [List.lookup], (by show 2 ≤ sizeLine; decide), fun p hp => ?_⟩
      exact ⟨_, rfl, q p _ (s2.new hp) upd_same⟩
    · refine ⟨true, Hc.mo, fun _ a ha => ?_, fun z => by cases z⟩
      refine ⟨(by show 2 ≤ sizeLine; decide), fun y hy => ?_⟩
      refine ⟨_, rfl, (by show 3 ≤ sizeLine; decide), fun t ht => ?_⟩
      have s2 := two y hy t [.ref c.u, .ref c.o, .ref c.r] ht
      refine ⟨t, _, _, true, c.o, dd, _, rfl, upd_same, (.cons (.own _) (.cons (.own _) (.cons (.own _) .nil))), rfl, Hc.eo, rfl, s2 _ _ hdd, (kit_skip Hc.kou (kit_fst kit_self)), _, rfl, iteT ?_⟩
      refine ⟨_, rfl, .ref c.u, .ref c.u, false, c.o, dd, _, rfl, fun _ r => r, rfl, Hc.eo, rfl, s2 _ _ hdd, Hc.kou, _, rfl, iteF ?_⟩
      refine ⟨_, rfl, .ref c.o, .ref c.o, true, c.o, dd, _, rfl, fun _ r => r, rfl, Hc.eo, rfl, s2 _ _ hdd, kit_self, _, rfl, iteT ?_⟩
      refine ⟨_, rfl, rfl, c.o, dd, _, v, rfl, Hc.xo, Hc.fo, rfl, s2 _ _ hdd, by simp [List.lookup], (by show 2 ≤ sizeLine; decide), fun p hp => ?_⟩
      exact ⟨_, rfl, q p _ (s2.new hp) upd_same⟩
    · refine ⟨true, Hc.mr, fun _ a ha => ?_, fun z => by cases z⟩
      refine ⟨(by show 2 ≤ sizeLine; decide), fun y hy => ?_⟩
      refine ⟨_, rfl, (by show 3 ≤ sizeLine; decide), fun t ht => ?_⟩
      have s2 := two y hy t [.ref c.u, .ref c.o, .ref c.r] ht
      refine ⟨t, _, _, true, c.r, dd, _, rfl, upd_same, (.cons (.own _) (.cons (.own _) (.cons (.own _) .nil))), rfl, Hc.er, rfl, s2 _ _ hdd, (kit_skip Hc.kru (kit_skip Hc.kro (kit_fst kit_self))), _, rfl, iteT ?_⟩
      refine ⟨_, rfl, .ref c.u, .ref c.u, false, c.r, dd, _, rfl, fun _ r => r, rfl, Hc.er, rfl, s2 _ _ hdd, Hc.kru, _, rfl, iteF ?_⟩
      refine ⟨_, rfl, .ref c.o, .ref c.o, false, c.r, dd, _, rfl, fun _ r => r, rfl, Hc.er, rfl, s2 _ _ hdd, Hc.kro, _, rfl, iteF ?_⟩
      refine ⟨_, rfl, rfl, c.r, dd, _, v, rfl, Hc.xr, Hc.fr, rfl, s2 _ _ hdd, by simp [List.lookup], (by show 2 ≤ sizeLine; decide), fun p hp => ?_⟩
      exact ⟨_, rfl, q p _ (s2.new hp) upd_same⟩
    · refine ⟨true, Hc.mn, fun _ a ha => ?_, fun z => by cases z⟩
      refine ⟨(by show 2 ≤ sizeLine; decide), fun y hy => ?_⟩
      refine ⟨_, rfl, (by show 3 ≤ sizeLine; decide), fun t ht => ?_⟩
      have s2 := two y hy t [.ref c.u, .ref c.o, .ref c.r] ht
      refine ⟨t, _, _, false, c.n, dd, _, rfl, upd_same, (.cons (.own _) (.cons (.own _) (.cons (.own _) .nil))), rfl, Hc.en, rfl, s2 _ _ hdd, (kit_skip Hc.knu (kit_skip Hc.kno (kit_skip Hc.knr rfl))), _, rfl, iteF ?_⟩
      refine ⟨_, rfl, (by show 2 ≤ sizeLine; decide), fun t3 ht3 => ?_⟩
      have s3 := s2.new (o := .tup [.ref c.n, .ref c.t]) ht3
      refine ⟨t3, _, _, true, c.n, dd, _, rfl, upd_same, (.cons (.own _) (.cons (.own _) .nil)), rfl, Hc.en, rfl, s3 _ _ hdd, (kit_fst kit_self), _, rfl, iteT ?_⟩
      refine ⟨_, rfl, .ref c.n, .ref c.n, true, c.n, dd, _, rfl, fun _ r => r, rfl, Hc.en, rfl, s3 _ _ hdd, kit_self, _, rfl, iteT ?_⟩
      refine ⟨_, rfl, rfl, c.n, dd, _, _, rfl, Hc.xn, Hc.fn, rfl, s3 _ _ hdd, by simp [List.lookup]; rfl, _, rfl, by assumption, (by show 2 ≤ sizeLine; decide), fun p hp => ?_⟩
      exact ⟨_, rfl, q p _ (s3.new hp) upd_same⟩
    · refine ⟨true, Hc.mt, fun _ a ha => ?_, fun z => by cases z⟩
      refine ⟨(by show 2 ≤ sizeLine; decide), fun y hy => ?_⟩
      refine ⟨_, rfl, (by show 3 ≤ sizeLine; decide), fun t ht => ?_⟩
      have s2 := two y hy t [.ref c.u, .ref c.o, .ref c.r] ht
      refine ⟨t, _, _, false, c.t, dd, _, rfl, upd_same, (.cons (.own _) (.cons (.own _) (.cons (.own _) .nil))), rfl, Hc.et, rfl, s2 _ _ hdd, (kit_skip Hc.ktu (kit_skip Hc.kto (kit_skip Hc.ktr rfl))), _, rfl, iteF ?_⟩
      refine ⟨_, rfl, (by show 2 ≤ sizeLine; decide), fun t3 ht3 => ?_⟩
      have s3 := s2.new (o := .tup [.ref c.n, .ref c.t]) ht3
      refine ⟨t3, _, _, true, c.t, dd, _, rfl, upd_same, (.cons (.own _) (.cons (.own _) .nil)), rfl, Hc.et, rfl, s3 _ _ hdd, (kit_skip Hc.ktn (kit_fst kit_self)), _, rfl, iteT ?_⟩
      refine ⟨_, rfl, .ref c.n, .ref c.n, false, c.t, dd, _, rfl, fun _ r => r, rfl, Hc.et, rfl, s3 _ _ hdd, Hc.ktn, _, rfl, iteF ?_⟩
      refine ⟨_, rfl, rfl, c.t, dd, _, _, rfl, Hc.xt, Hc.ft, rfl, s3 _ _ hdd, by simp [List.lookup]; rfl, _, rfl, by assumption, (by show 2 ≤ sizeLine; decide), fun p hp => ?_⟩
      exact ⟨_, rfl, q p _ (s3.new hp) upd_same⟩
/-- a lambda that raises is heard; Z: how things stand where it raises -/
theorem hear {c : Hs} {C : Addr} {n : Str} {v : V} {its : List V} (te : HTells c C n v its) {T : List (Addr × Str)} {H : Hp} {σ : L2.St} {t : XK → TE} {Q : VK} (Z : Hp → Prop) (tab : Tabs T H)
    (body : ∀ (E' : XK) (J : Hp) (Q' : VK), ExtN H J → Tabs T J → (∀ J2 : Hp, Z J2 → Errs E' C n v J2) → t E' σ J Q') (k : ∀ J2 M p, Z J2 → Same J2 M → M p = some (.tup its) → Q (.ref p) M) : tLam T (THeard c) t σ H Q := by
  refine ⟨tab, fun I extI tabsI R => ?_⟩
  refine body _ _ _ extI tabsI fun J2 z d L sL nd xd => ⟨C, d, n, v, its, rfl, rfl, xd, te, fun p M sM hp => k J2 M p z (sL.trans sM) hp⟩
end K
namespace K
open PySem L2 Rg LamX NdefX
open Evl (pss_cut)
def OddV (l : Addr) (ls : List Int) (M : Hp) (v : V) : Prop := v = .non ∨ v = .int 5 ∨ (∃ z, v = .str z) ∨ (v = .ref l ∧ M l = some (.lst (ls.map V.int)))
structure KitT (K : PySem.W.Frag) (C : Addr) : Prop where
  kN : PySem.W.kitOne K (.type "NoneType") (.ref C) = some false
  kI : PySem.W.kitOne K (.type "int") (.ref C) = some false
  kS : PySem.W.kitOne K (.type "str") (.ref C) = some false
  kL : PySem.W.kitOne K (.type "list") (.ref C) = some false
theorem OddV.no {K : PySem.W.Frag} {C l : Addr} {ls : List Int} {M : Hp} {v : V} (G : KitT K C) (h : OddV l ls M v) : NoR K C M v := by
  rcases h with rfl | rfl | ⟨z, rfl⟩ | ⟨rfl, h⟩
  · exact ⟨_, .base .non, G.kN⟩
  · exact ⟨_, .base (.int _), G.kI⟩
  · exact ⟨_, .base (.str _), G.kS⟩
  · exact ⟨_, .base (.lst h), G.kL⟩
theorem OddV.kp {l p : Addr} {ls : List Int} {M M' : Hp} {v : V} (h : OddV l ls M v) (n : l ≠ p) (s : Kp p M M') : OddV l ls M' v := by
  rcases h with h | h | h | ⟨h, g⟩
  · exact .inl h
  · exact .inr (.inl h)
  · exact .inr (.inr (.inl h))
  · exact .inr (.inr (.inr ⟨h, s _ _ g n (fun _ z => nomatch z)⟩))
/-! ### asked wrongly -/
def spRF (K : PySem.W.Frag) (CR cR : Addr) (c : Cs) (cL : Addr) : Sp := fun vs H _ E => ∃ v u : V, vs = [v, u] ∧ AskP K CR cR c cL E H v u fun _ _ _ => False
def spSF (K : PySem.W.Frag) (CR cR : Addr) (c : Cs) (cL : Addr) : Sp := fun vs H _ E => ∃ v u x : V, vs = [v, u, x] ∧ AskP K CR cR c cL E H v u fun _ _ _ => False
theorem LotsAsk.imp {K : PySem.W.Frag} {c : Cs} {E : XK} {many : Int} {part : Str} {H : Hp} {xs : List V} {rs : List (Option (List Int))} {k k' : List (List Int) → Prop} (h : LotsAsk K c E many part H xs rs k) (i : ∀ n, k n → k' n) : LotsAsk K c E many part H xs rs k' :=
  ⟨h.1, h.2.1, h.2.2.imp_right fun ⟨nss, e, z⟩ => ⟨nss, e, z.imp_right fun ⟨a, b⟩ => ⟨a, i _ b⟩⟩⟩
theorem AskL.imp {K : PySem.W.Frag} {c : Cs} {cL : Addr} {E : XK} {n : Nat} {H : Hp} {v : V} {q q' : List (List Int) → Prop} (h : AskL K c cL E n H v q) (i : ∀ o, q o → q' o) : AskL K c cL E n H v q' :=
  h.imp_right fun ⟨a, xs, rs, e, ha, z⟩ => ⟨a, xs, rs, e, ha, z.imp fun n k => k.imp_right fun ⟨ol, cn, lo, q⟩ => ⟨ol, cn, lo, i _ q⟩⟩
theorem AskP.imp {K : PySem.W.Frag} {CR cR : Addr} {c : Cs} {cL : Addr} {E : XK} {H : Hp} {v u : V} {q q' : Addr → List Int → List (List Int) → Prop} (h : AskP K CR cR c cL E H v u q) (i : ∀ r ls o, q r ls o → q' r ls o) : AskP K CR cR c cL E H v u q' :=
  h.imp_right fun ⟨r, ls, e, ra, l3, l8, z⟩ => ⟨r, ls, e, ra, l3, l8, z.imp fun o => i r ls o⟩
/-! ### the lambda of two parameters -/
def lamE : Expr := match (defBody sLwRefusedRight).getD 3 (.Pass ⟨0, 0, 0, 0⟩) with
  | .For _ (.Tuple [_, l] _ _) _ _ _ => l
  | _ => .Tuple [] 0 ⟨0, 0, 0, 0⟩
def lamP : Arguments := match lamE with
  | .Lambda a _ _ _ => a
  | _ => { posonlyargs := [], args := [], vararg := none, kwonlyargs := [], kw_defaults := [], kwarg := none, defaults := [] }
def lamB : Expr := match lamE with
  | .Lambda _ b _ _ => b
  | _ => .Tuple [] 0 ⟨0, 0, 0, 0⟩
def lamS : Scope := match lamE with
  | .Lambda _ _ s _ => s
  | _ => { kind := .function, names := [], isGenerator := false, isCoroutine := false }
theorem scLam : NScope ["_law_ring", "_law_lots"] ["_law_ring", "_law_lots"] [] lamS := nscope_by (by decide +kernel)
theorem lam_ask {P : Program} {w : World} {K : PySem.W.Frag} {mg : Str → Option Value} {base : Heap} {CR cR cL f c' fS : Addr} {c : Cs} {fdS : FuncData} (SG : DefAt P w K mg base (L2.CX P w) 8 "shows_signs" ["ring", "lots", "value"] (spSF K CR cR c cL) fS fdS) :
    LOk P w K mg base (L2.CX P w) 9 f c' qRr lamP lamB lamS ["_law_ring", "_law_lots"] (spRF K CR cR c cL) := by
  refine lok_of scLam (fun pmz ctvz us hl => match us, hl with | [_, _], _ => rfl) (fun vs H Q E h => ?_) fun A outer s H vs Q E hr h => ⟨_, (show PE _ lamB _ from pe_call SG.ok hr rfl SG.g SG.kp SG.b .nil (passes_call (takes_of rfl rfl rfl rfl) (fun _ _ _ _ h => h)) (pa_cons (pv 0) (pa_cons (pv 1) (pa_cons pe_non pa_nil)))), ?_⟩
  · obtain ⟨v, u, rfl, _⟩ := h
    rfl
  · obtain ⟨v, u, rfl, z⟩ := h
    exact ⟨_, rfl, _, rfl, v, u, .non, rfl, z⟩
end K
namespace K
open PySem L2 Rg LamX NdefX
open Evl (pss_cut)
/-! ### what is told wrongly -/
def Bad1 (p : Addr) (H : Hp) (v : V) : Prop := v = .non ∨ (∃ i, v = .int i) ∨ (∃ z, v = .str z) ∨ ∃ (a : Addr) (xs : List V), v = .ref a ∧ a ≠ p ∧ H a = some (.lst xs) ∧ (xs = [.bl true] ∨ xs = [.int 0, .non])
def TLb (p : Addr) (H : Hp) (v : V) : Option (List Int) → Prop
  | some ns => LI H v ns ∧ v ≠ .ref p ∧ ns.length ≤ 8
  | none => Bad1 p H v
def NoneV (p : Addr) (H : Hp) (v : V) : Prop := v = .non ∨ (∃ i, v = .int i) ∨ (∃ z, v = .str z) ∨ (∃ a, v = .ref a ∧ H a = some (.dK [])) ∨
  ∃ (a : Addr) (xs : List V) (rs : List (Option (List Int))), v = .ref a ∧ a ≠ p ∧ H a = some (.lst xs) ∧ Paired (TLb p H) xs rs ∧ xs.length ≤ 100 ∧ rs.all Option.isSome = false
def BadV (p : Addr) (n : Nat) (H : Hp) (v : V) : Prop := ∃ (a : Addr) (xs : List V) (nss : List (List Int)), v = .ref a ∧ a ≠ p ∧ H a = some (.lst xs) ∧ Paired (fun v l => LI H v l ∧ v ≠ .ref p) xs nss ∧ nss.length ≤ 50 ∧ (∀ l ∈ nss, l.length ≤ 50) ∧ (∀ ns ∈ nss, res n ns = .ok ns) ∧ ¬ Parts n nss
section
variable {p : Addr} {px : List V} {H H' : Hp} {v : V}
theorem LI.kp2 {l : List Int} (h : LI H v l ∧ v ≠ .ref p) (k : Kp p H H') : LI H' v l ∧ v ≠ .ref p := by
  obtain ⟨⟨a, rfl, h⟩, n⟩ := h
  exact ⟨⟨a, rfl, k.lst (fun z => n (by rw [z])) h⟩, n⟩
theorem Bad1.kp (h : Bad1 p H v) (k : Kp p H H') : Bad1 p H' v := by
  rcases h with h | h | h | ⟨a, xs, rfl, n, h, z⟩
  · exact .inl h
  · exact .inr (.inl h)
  · exact .inr (.inr (.inl h))
  · exact .inr (.inr (.inr ⟨a, xs, rfl, n, k.lst n h, z⟩))
theorem TLb.kp : ∀ {r : Option (List Int)}, TLb p H v r → Kp p H H' → TLb p H' v r
  | some _, h, k => let z := LI.kp2 ⟨h.1, h.2.1⟩ k; ⟨z.1, z.2, h.2.2⟩
  | none, h, k => Bad1.kp h k
theorem NoneV.kp (h : NoneV p H v) (k : Kp p H H') (hp : H p = some (.lst px)) : NoneV p H' v := by
  rcases h with h | h | h | ⟨a, rfl, h⟩ | ⟨a, xs, rs, rfl, n, h, t, l, z⟩
  · exact .inl h
  · exact .inr (.inl h)
  · exact .inr (.inr (.inl h))
  · exact .inr (.inr (.inr (.inl ⟨a, rfl, k _ _ h (fun z => by rw [z, hp] at h; cases h) (fun _ z => nomatch z)⟩)))
  · exact .inr (.inr (.inr (.inr ⟨a, xs, rs, rfl, n, k.lst n h, par_imp (fun _ _ z => TLb.kp z k) t, l, z⟩)))
theorem BadV.kp {n : Nat} (h : BadV p n H v) (k : Kp p H H') : BadV p n H' v := by
  obtain ⟨a, xs, nss, rfl, m, h, t, z⟩ := h
  exact ⟨a, xs, nss, rfl, m, k.lst m h, par_imp (fun _ _ z => LI.kp2 z k) t, z⟩
variable {K : PySem.W.Frag}
theorem tlot_b : ∀ {r : Option (List Int)}, TLb p H v r → TLot K H v r
  | some ns, ⟨⟨a, e, h⟩, _, l⟩ => ⟨by omega, a, e, .inl h⟩
  | none, h => by
    rcases h with rfl | ⟨i, rfl⟩ | ⟨z, rfl⟩ | ⟨a, xs, rfl, _, h, z⟩
    · exact .inl ⟨"NoneType", ⟨.base .non, by decide⟩, by decide, by decide⟩
    · exact .inl ⟨"int", ⟨.base (.int i), by decide⟩, by decide, by decide⟩
    · exact .inl ⟨"str", ⟨.base (.str z), by decide⟩, by decide, by decide⟩
    · rcases z with rfl | rfl
      · refine .inr ⟨a, _, fun _ => "bool", rfl, h, by decide, fun x m => ?_, by decide⟩
        rw [List.mem_singleton.mp m]
        exact ⟨.base (.bl true), by decide⟩
      · refine .inr ⟨a, _, fun x => match x with | .int _ => "int" | _ => "NoneType", rfl, h, by decide, fun x m => ?_, by decide⟩
        simp only [List.mem_cons, List.not_mem_nil, or_false] at m
        rcases m with rfl | rfl
        · exact ⟨.base (.int 0), by decide⟩
        · exact ⟨.base .non, by decide⟩
theorem NoneV.ask {c : Cs} {cL : Addr} {E : XK} {n : Nat} {q : List (List Int) → Prop} (h : NoneV p H v) (er : Errs E c.l "part" (.str "lots") H) : AskL K c cL E n H v q := by
  rcases h with rfl | ⟨i, rfl⟩ | ⟨z, rfl⟩ | ⟨a, rfl, h⟩ | ⟨a, xs, rs, rfl, _, h, t, l, z⟩
  · exact .inl ⟨"NoneType", ⟨.base .non, by decide⟩, by decide, by decide, er⟩
  · exact .inl ⟨"int", ⟨.base (.int i), by decide⟩, by decide, by decide, er⟩
  · exact .inl ⟨"str", ⟨.base (.str z), by decide⟩, by decide, by decide, er⟩
  · exact .inl ⟨"dict", ⟨.base (.dK h), by decide⟩, by decide, by decide, er⟩
  · exact .inr ⟨a, xs, rs, rfl, .inl h, par_imp (fun _ _ z => tlot_b z) t, l, .inl ⟨z, er⟩⟩
theorem par_some {xs : List V} {nss : List (List Int)} (h : Paired (fun v l => LI H v l ∧ l.length ≤ 1000) xs nss) : Paired (TLot K H) xs (nss.map some) := by
  induction h with
  | nil => exact .nil
  | cons h _ ih =>
    obtain ⟨⟨a, e, z⟩, l⟩ := h
    exact .cons ⟨l, a, e, .inl z⟩ ih
theorem BadV.ask {c : Cs} {cL : Addr} {E : XK} {n : Nat} {q : List (List Int) → Prop} (h : BadV p n H v) (er : Errs E cL "part" (.str "lots") H) : AskL K c cL E n H v q := by
  obtain ⟨a, xs, nss, rfl, _, h, t, l50, ll, ok, np⟩ := h
  refine .inr ⟨a, xs, _, rfl, .inl h, par_some (par_memr t fun _ y m z => ⟨z.1, by have := ll y m; omega⟩), by rw [par_len t]; omega, .inr ⟨nss, rfl, .inr ⟨ok, .inl ⟨np, ll, l50, er⟩⟩⟩⟩
end
theorem parts_len {n : Nat} {nss : List (List Int)} (h : Parts n nss) : (nss.flatMap id).length = n := by rw [h.2.length_eq, rngI_len]
/-! ### the turn's things -/
structure RT (K : PySem.W.Frag) (CR P0 P1 p : Addr) (e : Addr × List Int) (n : Nat) (la r : Addr) (ls : List Int) (odd no ba : V) (H : Hp) : Prop where
  pen : PenAt K H p e n
  hla : H la = some (.lst (ls.map V.int))
  lap : la ≠ p
  ra : RingAt K CR H r ls
  od : OddV la ls H odd
  nn : NoneV p H no
  bb : BadV p ls.length H ba
theorem RT.kp {K : PySem.W.Frag} {CR P0 P1 p la r : Addr} {e : Addr × List Int} {n m : Nat} {ls : List Int} {odd no ba : V} {H H' : Hp} (h : RT K CR P0 P1 p e n la r ls odd no ba H) (k : Kp p H H') (pen : PenAt K H' p e m) : RT K CR P0 P1 p e m la r ls odd no ba H' :=
  let ⟨_, hp⟩ := h.pen.some
  ⟨pen, k.lst h.lap h.hla, h.lap, h.ra.kp k hp, h.od.kp h.lap k, h.nn.kp k hp, h.bb.kp k⟩
theorem RT.ext {K : PySem.W.Frag} {CR P0 P1 p la r : Addr} {e : Addr × List Int} {n : Nat} {ls : List Int} {odd no ba : V} {H H' : Hp} (h : RT K CR P0 P1 p e n la r ls odd no ba H) (x : ExtN H H') : RT K CR P0 P1 p e n la r ls odd no ba H' := h.kp (Kp.of x) (h.pen.ext x)
/-- with_signs, or the lambda -/
def AskOk (fW : Addr) (x : V) (H : Hp) : Prop := x = .ref fW ∨ ∃ f c', x = .ref f ∧ H f = some (LamO f qRr lamP lamB lamS c') ∧ H c' = some (CodeO c' qRr)
theorem AskOk.ext {fW : Addr} {x : V} {H H' : Hp} (h : AskOk fW x H) (e : ExtN H H') : AskOk fW x H' := h.imp_right fun ⟨f, c', a, b, c⟩ => ⟨f, c', a, e _ _ b (fun _ => lamO_ne _), e _ _ c (fun _ => codeO_ne _)⟩
theorem ask_at {K : PySem.W.Frag} {CR cR cL fW : Addr} {c : Cs} {E : XK} {x : V} {σ : L2.St} {H : Hp} {t : TA} {Q : VK} (hx : σ[8]? = some (some x)) (ok : AskOk fW x H) (h : ∀ R : List V → Hp → Prop, (∀ vs H1, ExtN H H1 → spRF K CR cR c cL vs H1 Q E → R vs H1) → t σ H R) :
    tCallY 8 fW qRr lamP lamB lamS (spRF K CR cR c cL) (spRF K CR cR c cL) E t σ H Q := by
  rcases ok with rfl | ⟨f, c', rfl, hf, hc⟩
  · exact ⟨fW, hx, .inl ⟨rfl, h _ fun _ _ _ z => z⟩⟩
  · exact ⟨f, hx, .inr ⟨c', hf, h _ fun _ _ e z => ⟨e _ _ hf (fun _ => lamO_ne _), e _ _ hc (fun _ => codeO_ne _), z⟩⟩⟩
/-- what was heard, in the list at D -/
def TS (D : Addr) (us : List V) (L : List (Str × Str)) (H : Hp) : Prop := H D = some (.lst us) ∧ Paired (fun v (ab : Str × Str) => ∃ a, v = V.ref a ∧ H a = some (.tup [.str ab.1, .str ab.2])) us L
theorem TS.ext {D : Addr} {us : List V} {L : List (Str × Str)} {H H' : Hp} (h : TS D us L H) (e : ExtN H H') : TS D us L H' := ⟨e _ _ h.1 (fun _ z => nomatch z), par_imp (fun _ _ ⟨a, x, y⟩ => ⟨a, x, e _ _ y (fun _ z => nomatch z)⟩) h.2⟩
theorem TS.push {D q : Addr} {us : List V} {L : List (Str × Str)} {ab : Str × Str} {H : Hp} (h : TS D us L H) (hq : H q = some (.tup [.str ab.1, .str ab.2])) : TS D (us ++ [.ref q]) (L ++ [ab]) (upd H D (.lst (us ++ [.ref q]))) := by
  have go : ∀ {a : Addr} {x y : V}, H a = some (.tup [x, y]) → upd H D (.lst (us ++ [.ref q])) a = some (.tup [x, y]) := fun {a _ _} z => by
    rw [upd_ne fun e => by rw [e, h.1] at z; cases z]
    exact z
  exact ⟨upd_same, par_app (par_imp (fun _ _ ⟨a, x, y⟩ => ⟨a, x, go y⟩) h.2) (.cons ⟨q, rfl, go hq⟩ .nil)⟩
theorem ask_step {hc : Hs} {C : Addr} {nm : Str} {v : V} {ab : Str × Str} {T : List (Addr × Str)} {Hs0 H : Hp} {σ : L2.St} {t : XK → TE} {Q : VK} {D : Addr} {us : List V} {L : List (Str × Str)} (te : HTells hc C nm v [.str ab.1, .str ab.2]) (xs : ExtN Hs0 H) (tab : Tabs T H) (ts : TS D us L H)
    (body : ∀ (E' : XK) (J : Hp) (Q' : VK), ExtN Hs0 J → (∀ J2, Same J J2 → Errs E' C nm v J2) → t E' σ J Q') (k : ∀ M p, ExtN Hs0 M → Tabs T M → TS D us L M → M p = some (.tup [.str ab.1, .str ab.2]) → Q (.ref p) M) : tLam T (THeard hc) t σ H Q :=
  hear te (fun J2 => ExtN H J2 ∧ Tabs T J2) tab (fun E' J Q' x tJ er => body E' J Q' (xs.trans x) fun J2 s => er J2 ⟨x.trans (ExtN.of s), tJ.ext s⟩)
    fun J2 M p z s hp => k M p ((xs.trans z.1).trans (ExtN.of s)) (z.2.ext s) (ts.ext (z.1.trans (ExtN.of s))) hp
def dueL (n : Nat) : List (Str × Str) := [("ring", "ring"), ("lot", "lots"), ("lineup", "lots"), ("bar", toString (n : Int)), ("bar", "-1"), ("twice", "0"), ("twice", "2")]
def dueD (L : List (Str × Str)) : PyData := .list (L.map fun ab => .tuple [.str ab.1, .str ab.2])
theorem due_ok {n : Nat} (h3 : 3 ≤ n) (h8 : n ≤ 8) : SeqAt.shaped (dueD (dueL n)) = true ∧ PyData.eqv (dueD (dueL n)) (dueD (dueL n)) = true := by
  have : n = 3 ∨ n = 4 ∨ n = 5 ∨ n = 6 ∨ n = 7 ∨ n = 8 := by omega
  rcases this with rfl | rfl | rfl | rfl | rfl | rfl <;> exact ⟨by decide +kernel, by decide +kernel⟩
theorem ts_dp {K : PySem.W.Frag} {D : Addr} {us : List V} {L : List (Str × Str)} {H : Hp} (h : TS D us L H) : Dp K H (.ref D) (dueD L) := by
  refine .lst (SqL.of h.1) ?_
  have := h.2
  clear h
  induction this with
  | nil => exact .nil
  | cons h _ ih =>
    obtain ⟨a, rfl, z⟩ := h
    exact .cons (.tup (.inl (.inl z)) (.cons (.str _) (.cons (.str _) .nil))) ih
theorem log_n {n : Nat} (h : n ≤ 8) : ((n : Nat) : Int).natAbs.log2 < 1920 := by
  have : n = 0 ∨ n = 1 ∨ n = 2 ∨ n = 3 ∨ n = 4 ∨ n = 5 ∨ n = 6 ∨ n = 7 ∨ n = 8 := by omega
  rcases this with rfl | rfl | rfl | rfl | rfl | rfl | rfl | rfl | rfl <;> decide +kernel
/-! ### the lots told that have no answer -/
theorem res_fix {n : Nat} (h3 : 3 ≤ n) (h8 : n ≤ 8) : res n [0, 1] = .ok [0, 1] ∧ res n [2, (n : Int), -1] = .bar n ∧ res n [2, 1, 2, 1, -1] = .bar (-1) ∧ res n [0, 1, 0] = .twice 0 ∧ res n [0] = .ok [0] ∧ res n [1, 2, 2, 1] = .twice 2 ∧ res n [] = .ok [] := by
  have : n = 3 ∨ n = 4 ∨ n = 5 ∨ n = 6 ∨ n = 7 ∨ n = 8 := by omega
  rcases this with rfl | rfl | rfl | rfl | rfl | rfl <;> exact ⟨rfl, rfl, rfl, rfl, rfl, rfl, rfl⟩
theorem tlb_all {p : Addr} {H : Hp} {xs : List V} {ol : List (List Int)} (z : Paired (fun v l => (LI H v l ∧ v ≠ .ref p) ∧ l.length ≤ 8) xs ol) : Paired (TLb p H) xs (ol.map some) := by
  induction z with
  | nil => exact .nil
  | cons h _ ih => exact .cons ⟨h.1.1, h.1.2, h.2⟩ ih
theorem ask_bar {K : PySem.W.Frag} {c : Cs} {cL : Addr} {E : XK} {n : Nat} {H : Hp} {a : Addr} {xs : List V} {nss : List (List Int)} {i : Nat} {ns : List Int} {b : Int} {q : List (List Int) → Prop} (ha : H a = some (.lst xs)) (p : Paired (TLot K H) xs (nss.map some)) (l : xs.length ≤ 100) (hi : nss[i]? = some ns)
    (pr : ∀ (j : Nat) ms, j < i → nss[j]? = some ms → res n ms = .ok ms) (hr : res n ns = .bar b) (er : Errs E c.n "value" (.int b) H) : AskL K c cL E n H (.ref a) q :=
  .inr ⟨a, xs, _, rfl, .inl ha, p, l, .inr ⟨nss, rfl, .inl ⟨i, ns, hi, pr, .inl ⟨b, hr, er⟩⟩⟩⟩
theorem ask_twice {K : PySem.W.Frag} {c : Cs} {cL : Addr} {E : XK} {n : Nat} {H : Hp} {a : Addr} {xs : List V} {nss : List (List Int)} {i : Nat} {ns : List Int} {b : Int} {q : List (List Int) → Prop} (ha : H a = some (.lst xs)) (p : Paired (TLot K H) xs (nss.map some)) (l : xs.length ≤ 100) (hi : nss[i]? = some ns)
    (pr : ∀ (j : Nat) ms, j < i → nss[j]? = some ms → res n ms = .ok ms) (hr : res n ns = .twice b) (er : Errs E c.t "value" (.int b) H) : AskL K c cL E n H (.ref a) q :=
  .inr ⟨a, xs, _, rfl, .inl ha, p, l, .inr ⟨nss, rfl, .inl ⟨i, ns, hi, pr, .inr ⟨b, hr, er⟩⟩⟩⟩
theorem pr0 {n : Nat} {nss : List (List Int)} : ∀ (j : Nat) ms, j < 0 → nss[j]? = some ms → res n ms = .ok ms := fun _ _ h => absurd h (Nat.not_lt_zero _)
theorem pr1 {n : Nat} {ns : List Int} {nss : List (List Int)} (h : res n ns = .ok ns) : ∀ (j : Nat) ms, j < 1 → (ns :: nss)[j]? = some ms → res n ms = .ok ms := fun j ms hj e => by
  obtain rfl : j = 0 := by omega
  cases e
  exact h
theorem tells_m1 {c : Hs} : HTells c c.n "value" (.int (-1)) [.str "bar", .str "-1"] := HTells.n (-1) (by decide)
theorem tells_0 {c : Hs} : HTells c c.t "value" (.int 0) [.str "twice", .str "0"] := HTells.t 0 (by decide)
theorem tells_2 {c : Hs} : HTells c c.t "value" (.int 2) [.str "twice", .str "2"] := HTells.t 2 (by decide)
theorem ask_step0 {hc : Hs} {C : Addr} {nm : Str} {v : V} {ab : Str × Str} {T : List (Addr × Str)} {Hs0 : Hp} {σ : L2.St} {t : XK → TE} {Q : VK} (te : HTells hc C nm v [.str ab.1, .str ab.2]) (tab : Tabs T Hs0)
    (body : ∀ (E' : XK) (J : Hp) (Q' : VK), ExtN Hs0 J → (∀ J2, Same J J2 → Errs E' C nm v J2) → t E' σ J Q') (k : ∀ M p, ExtN Hs0 M → Tabs T M → M p = some (.tup [.str ab.1, .str ab.2]) → Q (.ref p) M) : tLam T (THeard hc) t σ Hs0 Q :=
  hear te (fun J2 => ExtN Hs0 J2 ∧ Tabs T J2) tab (fun E' J Q' x tJ er => body E' J Q' x fun J2 s => er J2 ⟨x.trans (ExtN.of s), tJ.ext s⟩)
    fun J2 M p z s hp => k M p (z.1.trans (ExtN.of s)) (z.2.ext s) hp
theorem res_lots {n : Nat} {ol : List (List Int)} (cn : Cn n ol) : ∀ l ∈ ol, res n l = .ok l := by
  refine lots_res cn ⟨ol, List.Perm.refl _, ?_⟩
  clear cn
  induction ol with
  | nil => exact .nil
  | cons h _ ih => exact .cons (List.Perm.refl _) ih
end K
namespace K
open PySem L2 Rg LamX NdefX
open Evl (pss_cut)
section
variable {P : Program} {w : World} {K : PySem.W.Frag} {mg : Str → Option Value} {base : Heap}
def spRR (K : PySem.W.Frag) (T : List (Addr × Str)) : Sp := fun vs H Q _ => ∃ (p la lo : Addr) (e : Addr × List Int) (ls : List Int) (xs : List V) (ol : List (List Int)) (n : Nat), vs = [.ref p, .ref la, .ref lo] ∧ H la = some (.lst (ls.map V.int)) ∧ la ≠ p ∧ 3 ≤ ls.length ∧ ls.length ≤ 8 ∧ Bd 1000000 ls ∧
  H lo = some (.lst xs) ∧ lo ≠ p ∧ Paired (LI H) xs ol ∧ Cn ls.length ol ∧ n < 700000 ∧ PenAt K H p e n ∧ Tabs T H ∧ ∀ H', Kp p H H' → PenAt K H' p e (n + 10) → Tabs T H' → Q (.bl true) H'
abbrev nRR : List Str := ["_law_bench_here", "_law_lengths_here", "_law_lots", "_law_odd", "_law_ring", "_law_many", "_law_none", "_law_bad", "_law_ask", "_law_heard_here", "_law_due"]
theorem scRR : FnScope nRR ["_law_bench_here", "_law_lengths_here", "_law_lots"] (defScope sLwRefusedRight) := ⟨rfl, rfl, rfl, by decide +kernel, rfl, by decide +kernel, by decide +kernel⟩
theorem ok_rr {CR P0 P1 cd eR f fR fPK fWG fSG fH : Addr} {hc : Hs} {fd fdR fdPK fdWG fdSG fdH : FuncData} (F : FunC K "_law_refused_right" "_law_refused_right" sLwRefusedRight f fd cd) (T : Bi mg) (B2 : Bi2 mg) (R : RingP P w K mg base CR fR fdR) (RG : RingC K mg CR) (KT : KitT K CR)
    (PK : DefAt P w K mg base CX0 3 "_law_pick" ["_law_bench_here", "_law_some"] (spPick K) fPK fdPK)
    (WG : DefAt P w K mg base (L2.CX P w) 9 "with_signs" ["ring", "lots"] (spRF K CR hc.r ⟨hc.o, hc.n, hc.t⟩ hc.u) fWG fdWG) (SG : DefAt P w K mg base (L2.CX P w) 8 "shows_signs" ["ring", "lots", "value"] (spSF K CR hc.r ⟨hc.o, hc.n, hc.t⟩ hc.u) fSG fdSG)
    (Hc : HeardC K mg hc eR) (TB : TabB base mg cd P1) (hmT : (P1, qRr) ∈ T2 P0 P1) (hu : ∀ p ∈ T2 P0 P1, p.1 = P1 → p.2 = qRr)
    (FH : Fun K "_law_heard" "_law_heard" sLwHeard fH fdH) (BH : Binds K fdH ["_law_ask"] []) (GH : mg "_law_heard" = some (.ref fH)) : FnOk P w K mg base CX0 12 f fd ["_law_bench_here", "_law_lengths_here", "_law_lots"] (spRR K (T2 P0 P1)) := by
  refine F.ok scRR (fun vs H Q E h => ?_) (fun A outer s H vs Q E hr h => ?_)
  · obtain ⟨p, la, lo, e, ls, xs, ol, n, rfl, _⟩ := h
    rfl
  · have nd := scRR.nd
    obtain ⟨oc, od, kV, doc, pm, an, cdv, ct, osl, rfl, lk, hcd⟩ := FH.ex
    have FL := fun f c' => lam_ask (f := f) (c' := c') SG
    have FW := WG.ok
    refine ⟨_, (pss_cons (ps_asg (pe_tup (pa_cons (pe_call PK.ok (hr.mono (by decide)) rfl PK.g PK.kp PK.b .nil pass0 (pa_cons (pv 0) (pa_cons (pe_lst (pa_cons pe_non (pa_cons pe_int (pa_cons (pv 1) (pa_cons pe_str pa_nil))))) pa_nil))) (pa_cons (pe_make R.made R.ok (hr.mono (by decide)) (by rfl) RG.g R.b .nil pass0 (pa_cons (pv 1) pa_nil)) (pa_cons (pe_callB (r := rLenS K) call_len_seq (by rfl) T.len PySem.boot_len (pa_cons (pv 1) pa_nil)) pa_nil)))) (pg_tup (by rfl) (pgs_cons (pg_name (i := 3) nd rfl (Or.inr rfl)) (pgs_cons (pg_name (i := 4) nd rfl (Or.inr rfl)) (pgs_cons (pg_name (i := 5) nd rfl (Or.inr rfl)) pgs_nil)))))
      (pss_cons (ps_set (i := 6) nd rfl (Or.inr rfl) (pe_call PK.ok (hr.mono (by decide)) rfl PK.g PK.kp PK.b .nil pass0 (pa_cons (pv 0) (pa_cons (pe_lst (pa_cons pe_non (pa_cons pe_int (pa_cons pe_str (pa_cons pe_dnewK (pa_cons (pe_op op_cat (pv 2) (pe_lst (pa_cons pe_non pa_nil))) (pa_cons (pe_op op_cat (pv 2) (pe_lst (pa_cons pe_str pa_nil))) (pa_cons (pe_lst (pa_cons pe_int (pa_cons pe_int (pa_cons pe_int pa_nil)))) (pa_cons (pe_op op_cat (pv 2) (pe_lst (pa_cons (pe_lst (pa_cons pe_bl pa_nil)) pa_nil))) (pa_cons (pe_lst (pa_cons (pe_lst (pa_cons pe_int (pa_cons pe_non pa_nil))) pa_nil)) (pa_cons (pe_op op_cat (pe_lst (pa_cons (pe_lst (pa_cons (pv 5) pa_nil)) pa_nil)) (pe_lst (pa_cons pe_int pa_nil))) pa_nil))))))))))) pa_nil))))
      (pss_cons (ps_set (i := 7) nd rfl (Or.inr rfl) (pe_call PK.ok (hr.mono (by decide)) rfl PK.g PK.kp PK.b .nil pass0 (pa_cons (pv 0) (pa_cons (pe_lst (pa_cons (pe_lst pa_nil) (pa_cons (pe_op op_cat (pv 2) (pe_lst (pa_cons (pe_lst pa_nil) pa_nil))) (pa_cons (pe_op op_cat (pe_lst (pa_cons (pe_lst pa_nil) pa_nil)) (pv 2)) (pa_cons (pe_slice sl_list (pv 2) (po_some pe_int) po_none) (pa_cons (pe_op op_cat (pv 2) (pe_lst (pa_cons (pe_lst (pa_cons pe_int pa_nil)) pa_nil))) (pa_cons (pe_lst (pa_cons (pe_lst (pa_cons pe_int (pa_cons pe_int pa_nil))) pa_nil)) (pa_cons (pe_op op_cat (pv 2) (pe_slice sl_list (pv 2) po_none (po_some pe_int))) pa_nil)))))))) pa_nil))))
      (pss_cons (ps_for PassesOwn.never rfl (pi_tup (pe_tup (pa_cons (pe_glob (v := .ref fWG) rfl WG.g rfl) (pa_cons (pe_lamval (T := T2 P0 P1) TB rfl hmT hu rfl (by decide +kernel) rfl) pa_nil)))) (pg_name (i := 8) nd rfl (Or.inr rfl)) (pss_cons (ps_set (i := 9) nd rfl (Or.inl rfl) (pe_lst (pa_cons (pe_lamcall (T := T2 P0 P1) (TT := THeard hc) (a := "_law_ask") (g := fH) (c := cd) (P := P1) (k := 9) (Ng := nHeard) rfl GH FH.kp lk hcd BH scHeard rfl (Or.inl rfl) (heard_gives T B2 Hc) TB rfl hmT hu (hr.mono (by decide)) (lamS_by (sc := defScope sLwRefusedRight) (by decide +kernel)) rfl (fun _ _ _ _ _ => rfl) (fun A outer s H E f c2 hr2 => (pe_callY (i := 8) (fW := fWG) FW WG.kp WG.b FL hr2 rfl (Or.inr (Or.inr rfl)) (passes_call (takes_of rfl rfl rfl rfl) (fun _ _ _ _ h => h)) (pa_cons (pv 3) (pa_cons (pv 6) pa_nil))))) pa_nil)))
          (pss_cons (ps_expr (pe_bm PySem.F.plainAttrs_list PySem.F.slot_list_append PySem.F.type_list_append mt_append (pv 9) (pa_cons (pe_lamcall (T := T2 P0 P1) (TT := THeard hc) (a := "_law_ask") (g := fH) (c := cd) (P := P1) (k := 9) (Ng := nHeard) rfl GH FH.kp lk hcd BH scHeard rfl (Or.inl rfl) (heard_gives T B2 Hc) TB rfl hmT hu (hr.mono (by decide)) (lamS_by (sc := defScope sLwRefusedRight) (by decide +kernel)) rfl (fun _ _ _ _ _ => rfl) (fun A outer s H E f c2 hr2 => (pe_callY (i := 8) (fW := fWG) FW WG.kp WG.b FL hr2 rfl (Or.inr (Or.inr rfl)) (passes_call (takes_of rfl rfl rfl rfl) (fun _ _ _ _ h => h)) (pa_cons (pv 4) (pa_cons (pv 6) pa_nil))))) pa_nil)))
          (pss_cons (ps_expr (pe_bm PySem.F.plainAttrs_list PySem.F.slot_list_append PySem.F.type_list_append mt_append (pv 9) (pa_cons (pe_lamcall (T := T2 P0 P1) (TT := THeard hc) (a := "_law_ask") (g := fH) (c := cd) (P := P1) (k := 9) (Ng := nHeard) rfl GH FH.kp lk hcd BH scHeard rfl (Or.inl rfl) (heard_gives T B2 Hc) TB rfl hmT hu (hr.mono (by decide)) (lamS_by (sc := defScope sLwRefusedRight) (by decide +kernel)) rfl (fun _ _ _ _ _ => rfl) (fun A outer s H E f c2 hr2 => (pe_callY (i := 8) (fW := fWG) FW WG.kp WG.b FL hr2 rfl (Or.inr (Or.inr rfl)) (passes_call (takes_of rfl rfl rfl rfl) (fun _ _ _ _ h => h)) (pa_cons (pv 4) (pa_cons (pv 7) pa_nil))))) pa_nil)))
          (pss_cons (ps_expr (pe_bm PySem.F.plainAttrs_list PySem.F.slot_list_append PySem.F.type_list_append mt_append (pv 9) (pa_cons (pe_lamcall (T := T2 P0 P1) (TT := THeard hc) (a := "_law_ask") (g := fH) (c := cd) (P := P1) (k := 9) (Ng := nHeard) rfl GH FH.kp lk hcd BH scHeard rfl (Or.inl rfl) (heard_gives T B2 Hc) TB rfl hmT hu (hr.mono (by decide)) (lamS_by (sc := defScope sLwRefusedRight) (by decide +kernel)) rfl (fun _ _ _ _ _ => rfl) (fun A outer s H E f c2 hr2 => (pe_callY (i := 8) (fW := fWG) FW WG.kp WG.b FL hr2 rfl (Or.inr (Or.inr rfl)) (passes_call (takes_of rfl rfl rfl rfl) (fun _ _ _ _ h => h)) (pa_cons (pv 4) (pa_cons (pe_lst (pa_cons (pe_lst (pa_cons pe_int (pa_cons pe_int pa_nil))) (pa_cons (pe_lst (pa_cons pe_int (pa_cons (pv 5) (pa_cons (pe_un un_neg pe_int) pa_nil)))) (pa_cons (pe_lst (pa_cons pe_int (pa_cons pe_int pa_nil))) pa_nil)))) pa_nil))))) pa_nil)))
          (pss_cons (ps_expr (pe_bm PySem.F.plainAttrs_list PySem.F.slot_list_append PySem.F.type_list_append mt_append (pv 9) (pa_cons (pe_lamcall (T := T2 P0 P1) (TT := THeard hc) (a := "_law_ask") (g := fH) (c := cd) (P := P1) (k := 9) (Ng := nHeard) rfl GH FH.kp lk hcd BH scHeard rfl (Or.inl rfl) (heard_gives T B2 Hc) TB rfl hmT hu (hr.mono (by decide)) (lamS_by (sc := defScope sLwRefusedRight) (by decide +kernel)) rfl (fun _ _ _ _ _ => rfl) (fun A outer s H E f c2 hr2 => (pe_callY (i := 8) (fW := fWG) FW WG.kp WG.b FL hr2 rfl (Or.inr (Or.inr rfl)) (passes_call (takes_of rfl rfl rfl rfl) (fun _ _ _ _ h => h)) (pa_cons (pv 4) (pa_cons (pe_lst (pa_cons (pe_lst (pa_cons pe_int (pa_cons pe_int (pa_cons pe_int (pa_cons pe_int (pa_cons (pe_un un_neg pe_int) pa_nil)))))) pa_nil)) pa_nil))))) pa_nil)))
          (pss_cons (ps_expr (pe_bm PySem.F.plainAttrs_list PySem.F.slot_list_append PySem.F.type_list_append mt_append (pv 9) (pa_cons (pe_lamcall (T := T2 P0 P1) (TT := THeard hc) (a := "_law_ask") (g := fH) (c := cd) (P := P1) (k := 9) (Ng := nHeard) rfl GH FH.kp lk hcd BH scHeard rfl (Or.inl rfl) (heard_gives T B2 Hc) TB rfl hmT hu (hr.mono (by decide)) (lamS_by (sc := defScope sLwRefusedRight) (by decide +kernel)) rfl (fun _ _ _ _ _ => rfl) (fun A outer s H E f c2 hr2 => (pe_callY (i := 8) (fW := fWG) FW WG.kp WG.b FL hr2 rfl (Or.inr (Or.inr rfl)) (passes_call (takes_of rfl rfl rfl rfl) (fun _ _ _ _ h => h)) (pa_cons (pv 4) (pa_cons (pe_lst (pa_cons (pe_lst (pa_cons pe_int (pa_cons pe_int (pa_cons pe_int pa_nil)))) (pa_cons (pe_lst (pa_cons (pe_op op_add (pv 5) pe_int) pa_nil)) pa_nil))) pa_nil))))) pa_nil)))
          (pss_cons (ps_expr (pe_bm PySem.F.plainAttrs_list PySem.F.slot_list_append PySem.F.type_list_append mt_append (pv 9) (pa_cons (pe_lamcall (T := T2 P0 P1) (TT := THeard hc) (a := "_law_ask") (g := fH) (c := cd) (P := P1) (k := 9) (Ng := nHeard) rfl GH FH.kp lk hcd BH scHeard rfl (Or.inl rfl) (heard_gives T B2 Hc) TB rfl hmT hu (hr.mono (by decide)) (lamS_by (sc := defScope sLwRefusedRight) (by decide +kernel)) rfl (fun _ _ _ _ _ => rfl) (fun A outer s H E f c2 hr2 => (pe_callY (i := 8) (fW := fWG) FW WG.kp WG.b FL hr2 rfl (Or.inr (Or.inr rfl)) (passes_call (takes_of rfl rfl rfl rfl) (fun _ _ _ _ h => h)) (pa_cons (pv 4) (pa_cons (pe_lst (pa_cons (pe_tup (pa_cons pe_int pa_nil)) (pa_cons (pe_lst (pa_cons pe_int (pa_cons pe_int (pa_cons pe_int (pa_cons pe_int pa_nil))))) pa_nil))) pa_nil))))) pa_nil)))
          (pss_cons (ps_set (i := 10) nd rfl (Or.inl rfl) (pe_lst (pa_cons (pe_tup (pa_cons pe_str (pa_cons pe_str pa_nil))) (pa_cons (pe_tup (pa_cons pe_str (pa_cons pe_str pa_nil))) (pa_cons (pe_tup (pa_cons pe_str (pa_cons pe_str pa_nil))) (pa_cons (pe_tup (pa_cons pe_str (pa_cons (pe_callB SkE.call_repr_int (by rfl) B2.repr (by decide +kernel) (pa_cons (pv 5) pa_nil)) pa_nil))) (pa_cons (pe_tup (pa_cons pe_str (pa_cons pe_str pa_nil))) (pa_cons (pe_tup (pa_cons pe_str (pa_cons pe_str pa_nil))) (pa_cons (pe_tup (pa_cons pe_str (pa_cons pe_str pa_nil))) pa_nil)))))))))
          (pss_one (ps_if (pt_cmpR (op_neD hr.units) (pv 9) (pv 10) (nomark _)) (pss_one ps_never) pss_nil)))))))))))
      (pss_one (ps_ret pe_bl)))))), ?_⟩
    obtain ⟨p, la, lo, e, ls, xs, ol, n, rfl, hla, lap, l3, l8, bd, hlo, lop, px, cn, hn, pen, tab, k⟩ := h
    have xl := par_len px
    have ol8 := cn.len
    have ol0 : 0 < ol.length := by
      cases ol with
      | nil =>
        have := cn.pm.length_eq
        rw [rngI_len] at this
        have : 0 = ls.length := this
        omega
      | cons _ _ => simp
    -- what is odd
    refine ⟨_, rfl, _, rfl, (by show 4 ≤ sizeLine; decide), fun u nu => ?_⟩
    have npu := pen.ne nu
    have s1 : Same H (upd H u (.lst [.non, .int 5, .ref la, .str "3 2 2"])) := (Same.refl H).new nu
    have hu1 : upd H u (.lst [.non, .int 5, .ref la, .str "3 2 2"]) u = some (.lst [.non, .int 5, .ref la, .str "3 2 2"]) := upd_same
    generalize upd H u (.lst [.non, .int 5, .ref la, .str "3 2 2"]) = H1 at s1 hu1 ⊢
    have pen1 := pen.same s1
    refine ⟨p, u, e, _, n, rfl, SqL.of hu1, npu, (by show 1 ≤ 4; decide), (by show 4 ≤ 1000; decide), by omega, pen1, fun i0 odd H2 hv0 b2 pen2 => ?_⟩
    obtain ⟨px1, hp1⟩ := pen1.some
    have tab2 := tabs_but (tab.ext s1) b2 hp1
    have kb2 : Kp p H1 H2 := (Kp.refl p H1).but b2
    have k02 : Kp p H H2 := (Kp.of (ExtN.of s1)).trans kb2
    have hla2 := k02.lst lap hla
    have od2 : OddV la ls H2 odd := by
      have hm := List.mem_of_getElem? hv0
      simp only [List.mem_cons, List.not_mem_nil, or_false] at hm
      rcases hm with z | z | z | z
      · exact .inl z
      · exact .inr (.inl z)
      · exact .inr (.inr (.inr ⟨z, hla2⟩))
      · exact .inr (.inr (.inl ⟨_, z⟩))
    refine ⟨_, rfl, madeL2 hla2 l3 l8 bd fun r H3 ra s3 nr => ⟨rfl, ?_⟩⟩
    refine ⟨_, rfl, la, _, rfl, .inl (SqL.of (s3 _ _ hla2)), (by show 3 ≤ sizeLine; decide), fun t nt => ?_⟩
    rw [List.length_map]
    have s4 : Same H3 (upd H3 t (.tup [odd, .ref r, .int (ls.length : Nat)])) := (Same.refl H3).new nt
    have ht : upd H3 t (.tup [odd, .ref r, .int (ls.length : Nat)]) t = some (.tup [odd, .ref r, .int (ls.length : Nat)]) := upd_same
    generalize upd H3 t (.tup [odd, .ref r, .int (ls.length : Nat)]) = H4 at s4 ht ⊢
    refine ⟨t, _, rfl, .inl (.inl ht), rfl, _, _, rfl, _, _, rfl, _, _, rfl, rfl, ?_⟩
    have s24 := s3.trans s4
    have k04 := k02.same s24
    have pen4 := pen2.same s24
    have tab4 := tab2.ext s24
    have hla4 := s24 _ _ hla2
    have ra4 := ra.same s4
    have od4 : OddV la ls H4 odd := od2.kp lap (Kp.of (ExtN.of s24))
    have hlo4 := k04.lst lop hlo
    have px4 : Paired (fun v l => LI H4 v l ∧ v ≠ .ref p) xs ol := by
      refine par_imp (fun v l z => ?_) px
      have z4 := LI.kp z pen k04
      obtain ⟨b, e1, z5⟩ := id z4
      exact ⟨z4, fun q => LI.nePen z5 pen4 (by rw [e1] at q; cases q; rfl)⟩
    clear s1 hu1 pen1 hp1 tab2 kb2 hla2 od2 ra s3 s4 ht s24 pen2 k02 nt nr hv0 b2
    -- no lots
    have hlo := hlo4
    have c4 : Same H4 H4 := Same.refl H4
    refine ⟨_, rfl, ?_⟩
    refine fun d0 nd0 => ?_
    have s5 : Same H4 (upd H4 d0 (.dK [])) := (Same.refl H4).new nd0
    have hd0 : upd H4 d0 (.dK []) d0 = some (.dK []) := upd_same
    have ad0 := pen4.ne nd0
    generalize upd H4 d0 (.dK []) = H5 at s5 hd0 ⊢
    have pen5 := pen4.same s5
    have c5 := c4.trans s5
    have hlo := s5 _ _ hlo
    refine ⟨_, rfl, ?_⟩
    refine ⟨(by show 1 ≤ sizeLine; decide), fun z1 nz1 => ?_⟩
    have s6 : Same H5 (upd H5 z1 (.lst [.non])) := (Same.refl H5).new nz1
    have hz1 : upd H5 z1 (.lst [.non]) z1 = some (.lst [.non]) := upd_same
    have az1 := pen5.ne nz1
    generalize upd H5 z1 (.lst [.non]) = H6 at s6 hz1 ⊢
    have pen6 := pen5.same s6
    have c6 := c5.trans s6
    have hlo := s6 _ _ hlo
    have hd0 := s6 _ _ hd0
    refine ⟨lo, z1, xs, [.non], rfl, rfl, hlo, hz1, (Nat.le_of_lt (sm (by simp only [List.length_cons, List.length_nil]; omega))), fun q1 nq1 => ?_⟩
    have s7 : Same H6 (upd H6 q1 (.lst (xs ++ [.non]))) := (Same.refl H6).new nq1
    have hq1 : upd H6 q1 (.lst (xs ++ [.non])) q1 = some (.lst (xs ++ [.non])) := upd_same
    have aq1 := pen6.ne nq1
    generalize upd H6 q1 (.lst (xs ++ [.non])) = H7 at s7 hq1 ⊢
    have pen7 := pen6.same s7
    have c7 := c6.trans s7
    have hlo := s7 _ _ hlo
    have hd0 := s7 _ _ hd0
    have hz1 := s7 _ _ hz1
    refine ⟨_, rfl, ?_⟩
    refine ⟨(by show 1 ≤ sizeLine; decide), fun z2 nz2 => ?_⟩
    have s8 : Same H7 (upd H7 z2 (.lst [.str "0"])) := (Same.refl H7).new nz2
    have hz2 : upd H7 z2 (.lst [.str "0"]) z2 = some (.lst [.str "0"]) := upd_same
    have az2 := pen7.ne nz2
    generalize upd H7 z2 (.lst [.str "0"]) = H8 at s8 hz2 ⊢
    have pen8 := pen7.same s8
    have c8 := c7.trans s8
    have hlo := s8 _ _ hlo
    have hd0 := s8 _ _ hd0
    have hz1 := s8 _ _ hz1
    have hq1 := s8 _ _ hq1
    refine ⟨lo, z2, xs, [.str "0"], rfl, rfl, hlo, hz2, (Nat.le_of_lt (sm (by simp only [List.length_cons, List.length_nil]; omega))), fun q2 nq2 => ?_⟩
    have s9 : Same H8 (upd H8 q2 (.lst (xs ++ [.str "0"]))) := (Same.refl H8).new nq2
    have hq2 : upd H8 q2 (.lst (xs ++ [.str "0"])) q2 = some (.lst (xs ++ [.str "0"])) := upd_same
    have aq2 := pen8.ne nq2
    generalize upd H8 q2 (.lst (xs ++ [.str "0"])) = H9 at s9 hq2 ⊢
    have pen9 := pen8.same s9
    have c9 := c8.trans s9
    have hlo := s9 _ _ hlo
    have hd0 := s9 _ _ hd0
    have hz1 := s9 _ _ hz1
    have hq1 := s9 _ _ hq1
    have hz2 := s9 _ _ hz2
    refine ⟨(by show 3 ≤ sizeLine; decide), fun q3 nq3 => ?_⟩
    have s10 : Same H9 (upd H9 q3 (.lst [.int 0, .int 1, .int 2])) := (Same.refl H9).new nq3
    have hq3 : upd H9 q3 (.lst [.int 0, .int 1, .int 2]) q3 = some (.lst [.int 0, .int 1, .int 2]) := upd_same
    have aq3 := pen9.ne nq3
    generalize upd H9 q3 (.lst [.int 0, .int 1, .int 2]) = H10 at s10 hq3 ⊢
    have pen10 := pen9.same s10
    have c10 := c9.trans s10
    have hlo := s10 _ _ hlo
    have hd0 := s10 _ _ hd0
    have hz1 := s10 _ _ hz1
    have hq1 := s10 _ _ hq1
    have hz2 := s10 _ _ hz2
    have hq2 := s10 _ _ hq2
    refine ⟨_, rfl, ?_⟩
    refine ⟨(by show 1 ≤ sizeLine; decide), fun z4 nz4 => ?_⟩
    have s11 : Same H10 (upd H10 z4 (.lst [.bl true])) := (Same.refl H10).new nz4
    have hz4 : upd H10 z4 (.lst [.bl true]) z4 = some (.lst [.bl true]) := upd_same
    have az4 := pen10.ne nz4
    generalize upd H10 z4 (.lst [.bl true]) = H11 at s11 hz4 ⊢
    have pen11 := pen10.same s11
    have c11 := c10.trans s11
    have hlo := s11 _ _ hlo
    have hd0 := s11 _ _ hd0
    have hz1 := s11 _ _ hz1
    have hq1 := s11 _ _ hq1
    have hz2 := s11 _ _ hz2
    have hq2 := s11 _ _ hq2
    have hq3 := s11 _ _ hq3
    refine ⟨(by show 1 ≤ sizeLine; decide), fun y4 ny4 => ?_⟩
    have s12 : Same H11 (upd H11 y4 (.lst [.ref z4])) := (Same.refl H11).new ny4
    have hy4 : upd H11 y4 (.lst [.ref z4]) y4 = some (.lst [.ref z4]) := upd_same
    have ay4 := pen11.ne ny4
    generalize upd H11 y4 (.lst [.ref z4]) = H12 at s12 hy4 ⊢
    have pen12 := pen11.same s12
    have c12 := c11.trans s12
    have hlo := s12 _ _ hlo
    have hd0 := s12 _ _ hd0
    have hz1 := s12 _ _ hz1
    have hq1 := s12 _ _ hq1
    have hz2 := s12 _ _ hz2
    have hq2 := s12 _ _ hq2
    have hq3 := s12 _ _ hq3
    have hz4 := s12 _ _ hz4
    refine ⟨lo, y4, xs, [.ref z4], rfl, rfl, hlo, hy4, (Nat.le_of_lt (sm (by simp only [List.length_cons, List.length_nil]; omega))), fun q4 nq4 => ?_⟩
    have s13 : Same H12 (upd H12 q4 (.lst (xs ++ [.ref z4]))) := (Same.refl H12).new nq4
    have hq4 : upd H12 q4 (.lst (xs ++ [.ref z4])) q4 = some (.lst (xs ++ [.ref z4])) := upd_same
    have aq4 := pen12.ne nq4
    generalize upd H12 q4 (.lst (xs ++ [.ref z4])) = H13 at s13 hq4 ⊢
    have pen13 := pen12.same s13
    have c13 := c12.trans s13
    have hlo := s13 _ _ hlo
    have hd0 := s13 _ _ hd0
    have hz1 := s13 _ _ hz1
    have hq1 := s13 _ _ hq1
    have hz2 := s13 _ _ hz2
    have hq2 := s13 _ _ hq2
    have hq3 := s13 _ _ hq3
    have hz4 := s13 _ _ hz4
    have hy4 := s13 _ _ hy4
    refine ⟨(by show 2 ≤ sizeLine; decide), fun z5 nz5 => ?_⟩
    have s14 : Same H13 (upd H13 z5 (.lst [.int 0, .non])) := (Same.refl H13).new nz5
    have hz5 : upd H13 z5 (.lst [.int 0, .non]) z5 = some (.lst [.int 0, .non]) := upd_same
    have az5 := pen13.ne nz5
    generalize upd H13 z5 (.lst [.int 0, .non]) = H14 at s14 hz5 ⊢
    have pen14 := pen13.same s14
    have c14 := c13.trans s14
    have hlo := s14 _ _ hlo
    have hd0 := s14 _ _ hd0
    have hz1 := s14 _ _ hz1
    have hq1 := s14 _ _ hq1
    have hz2 := s14 _ _ hz2
    have hq2 := s14 _ _ hq2
    have hq3 := s14 _ _ hq3
    have hz4 := s14 _ _ hz4
    have hy4 := s14 _ _ hy4
    have hq4 := s14 _ _ hq4
    refine ⟨(by show 1 ≤ sizeLine; decide), fun q5 nq5 => ?_⟩
    have s15 : Same H14 (upd H14 q5 (.lst [.ref z5])) := (Same.refl H14).new nq5
    have hq5 : upd H14 q5 (.lst [.ref z5]) q5 = some (.lst [.ref z5]) := upd_same
    have aq5 := pen14.ne nq5
    generalize upd H14 q5 (.lst [.ref z5]) = H15 at s15 hq5 ⊢
    have pen15 := pen14.same s15
    have c15 := c14.trans s15
    have hlo := s15 _ _ hlo
    have hd0 := s15 _ _ hd0
    have hz1 := s15 _ _ hz1
    have hq1 := s15 _ _ hq1
    have hz2 := s15 _ _ hz2
    have hq2 := s15 _ _ hq2
    have hq3 := s15 _ _ hq3
    have hz4 := s15 _ _ hz4
    have hy4 := s15 _ _ hy4
    have hq4 := s15 _ _ hq4
    have hz5 := s15 _ _ hz5
    refine ⟨_, rfl, ?_⟩
    refine ⟨(by show 1 ≤ sizeLine; decide), fun z6 nz6 => ?_⟩
    have s16 : Same H15 (upd H15 z6 (.lst [.int (ls.length : Nat)])) := (Same.refl H15).new nz6
    have hz6 : upd H15 z6 (.lst [.int (ls.length : Nat)]) z6 = some (.lst [.int (ls.length : Nat)]) := upd_same
    have az6 := pen15.ne nz6
    generalize upd H15 z6 (.lst [.int (ls.length : Nat)]) = H16 at s16 hz6 ⊢
    have pen16 := pen15.same s16
    have c16 := c15.trans s16
    have hlo := s16 _ _ hlo
    have hd0 := s16 _ _ hd0
    have hz1 := s16 _ _ hz1
    have hq1 := s16 _ _ hq1
    have hz2 := s16 _ _ hz2
    have hq2 := s16 _ _ hq2
    have hq3 := s16 _ _ hq3
    have hz4 := s16 _ _ hz4
    have hy4 := s16 _ _ hy4
    have hq4 := s16 _ _ hq4
    have hz5 := s16 _ _ hz5
    have hq5 := s16 _ _ hq5
    refine ⟨(by show 1 ≤ sizeLine; decide), fun y6 ny6 => ?_⟩
    have s17 : Same H16 (upd H16 y6 (.lst [.ref z6])) := (Same.refl H16).new ny6
    have hy6 : upd H16 y6 (.lst [.ref z6]) y6 = some (.lst [.ref z6]) := upd_same
    have ay6 := pen16.ne ny6
    generalize upd H16 y6 (.lst [.ref z6]) = H17 at s17 hy6 ⊢
    have pen17 := pen16.same s17
    have c17 := c16.trans s17
    have hlo := s17 _ _ hlo
    have hd0 := s17 _ _ hd0
    have hz1 := s17 _ _ hz1
    have hq1 := s17 _ _ hq1
    have hz2 := s17 _ _ hz2
    have hq2 := s17 _ _ hq2
    have hq3 := s17 _ _ hq3
    have hz4 := s17 _ _ hz4
    have hy4 := s17 _ _ hy4
    have hq4 := s17 _ _ hq4
    have hz5 := s17 _ _ hz5
    have hq5 := s17 _ _ hq5
    have hz6 := s17 _ _ hz6
    refine ⟨(by show 1 ≤ sizeLine; decide), fun x6 nx6 => ?_⟩
    have s18 : Same H17 (upd H17 x6 (.lst [.int 5])) := (Same.refl H17).new nx6
    have hx6 : upd H17 x6 (.lst [.int 5]) x6 = some (.lst [.int 5]) := upd_same
    have ax6 := pen17.ne nx6
    generalize upd H17 x6 (.lst [.int 5]) = H18 at s18 hx6 ⊢
    have pen18 := pen17.same s18
    have c18 := c17.trans s18
    have hlo := s18 _ _ hlo
    have hd0 := s18 _ _ hd0
    have hz1 := s18 _ _ hz1
    have hq1 := s18 _ _ hq1
    have hz2 := s18 _ _ hz2
    have hq2 := s18 _ _ hq2
    have hq3 := s18 _ _ hq3
    have hz4 := s18 _ _ hz4
    have hy4 := s18 _ _ hy4
    have hq4 := s18 _ _ hq4
    have hz5 := s18 _ _ hz5
    have hq5 := s18 _ _ hq5
    have hz6 := s18 _ _ hz6
    have hy6 := s18 _ _ hy6
    refine ⟨y6, x6, [.ref z6], [.int 5], rfl, rfl, hy6, hx6, (by show 2 ≤ sizeLine; decide), fun q6 nq6 => ?_⟩
    have s19 : Same H18 (upd H18 q6 (.lst ([.ref z6] ++ [.int 5]))) := (Same.refl H18).new nq6
    have hq6 : upd H18 q6 (.lst ([.ref z6] ++ [.int 5])) q6 = some (.lst ([.ref z6] ++ [.int 5])) := upd_same
    have aq6 := pen18.ne nq6
    generalize upd H18 q6 (.lst ([.ref z6] ++ [.int 5])) = H19 at s19 hq6 ⊢
    have pen19 := pen18.same s19
    have c19 := c18.trans s19
    have hlo := s19 _ _ hlo
    have hd0 := s19 _ _ hd0
    have hz1 := s19 _ _ hz1
    have hq1 := s19 _ _ hq1
    have hz2 := s19 _ _ hz2
    have hq2 := s19 _ _ hq2
    have hq3 := s19 _ _ hq3
    have hz4 := s19 _ _ hz4
    have hy4 := s19 _ _ hy4
    have hq4 := s19 _ _ hq4
    have hz5 := s19 _ _ hz5
    have hq5 := s19 _ _ hq5
    have hz6 := s19 _ _ hz6
    have hy6 := s19 _ _ hy6
    have hx6 := s19 _ _ hx6
    refine ⟨(by show 10 ≤ sizeLine; decide), fun u7 nu7 => ?_⟩
    have s20 : Same H19 (upd H19 u7 (.lst [.non, .int 5, .str "012", .ref d0, .ref q1, .ref q2, .ref q3, .ref q4, .ref q5, .ref q6])) := (Same.refl H19).new nu7
    have hu7 : upd H19 u7 (.lst [.non, .int 5, .str "012", .ref d0, .ref q1, .ref q2, .ref q3, .ref q4, .ref q5, .ref q6]) u7 = some (.lst [.non, .int 5, .str "012", .ref d0, .ref q1, .ref q2, .ref q3, .ref q4, .ref q5, .ref q6]) := upd_same
    have au7 := pen19.ne nu7
    generalize upd H19 u7 (.lst [.non, .int 5, .str "012", .ref d0, .ref q1, .ref q2, .ref q3, .ref q4, .ref q5, .ref q6]) = H20 at s20 hu7 ⊢
    have pen20 := pen19.same s20
    have c20 := c19.trans s20
    have hlo := s20 _ _ hlo
    have hd0 := s20 _ _ hd0
    have hz1 := s20 _ _ hz1
    have hq1 := s20 _ _ hq1
    have hz2 := s20 _ _ hz2
    have hq2 := s20 _ _ hq2
    have hq3 := s20 _ _ hq3
    have hz4 := s20 _ _ hz4
    have hy4 := s20 _ _ hy4
    have hq4 := s20 _ _ hq4
    have hz5 := s20 _ _ hz5
    have hq5 := s20 _ _ hq5
    have hz6 := s20 _ _ hz6
    have hy6 := s20 _ _ hy6
    have hx6 := s20 _ _ hx6
    have hq6 := s20 _ _ hq6
    have pl20 : Paired (TLb p H20) xs (ol.map some) := tlb_all (par_memr px4 fun _ y m z => ⟨⟨z.1.same c20, z.2⟩, by have := ol8.2 y m; omega⟩)
    refine ⟨p, u7, e, _, n + 1, rfl, SqL.of hu7, au7, (by show 1 ≤ 10; decide), (by show 10 ≤ 1000; decide), by omega, pen20, fun i5 vN H21 hvn b21 pen21 => ?_⟩
    have no20 : NoneV p H20 vN := by
      have hm := List.mem_of_getElem? hvn
      simp only [List.mem_cons, List.not_mem_nil, or_false] at hm
      have lst : ∀ (a : Addr) (zs : List V) (rs : List (Option (List Int))), a ≠ p → H20 a = some (.lst zs) → Paired (TLb p H20) zs rs → zs.length ≤ 100 → rs.all Option.isSome = false → NoneV p H20 (.ref a) := fun a zs rs n h t l z => .inr (.inr (.inr (.inr ⟨a, zs, rs, rfl, n, h, t, l, z⟩)))
      have lots : ∀ (a : Addr) (v : V), a ≠ p → H20 a = some (.lst (xs ++ [v])) → Bad1 p H20 v → NoneV p H20 (.ref a) := fun a v n h b => lst a _ (ol.map some ++ [none]) n h (par_app pl20 (.cons b .nil)) (by rw [List.length_append, List.length_singleton]; omega) (by rw [List.all_append]; simp)
      rcases hm with z | z | z | z | z | z | z | z | z | z
      · exact .inl z
      · exact .inr (.inl ⟨_, z⟩)
      · exact .inr (.inr (.inl ⟨_, z⟩))
      · exact .inr (.inr (.inr (.inl ⟨d0, z, hd0⟩)))
      · rw [z]; exact lots q1 _ aq1 hq1 (.inl rfl)
      · rw [z]; exact lots q2 _ aq2 hq2 (.inr (.inr (.inl ⟨_, rfl⟩)))
      · rw [z]; exact lst q3 _ [none, none, none] aq3 hq3 (.cons (.inr (.inl ⟨_, rfl⟩)) (.cons (.inr (.inl ⟨_, rfl⟩)) (.cons (.inr (.inl ⟨_, rfl⟩)) .nil))) (by show 3 ≤ 100; decide) rfl
      · rw [z]; exact lots q4 _ aq4 hq4 (.inr (.inr (.inr ⟨z4, _, rfl, az4, hz4, .inl rfl⟩)))
      · rw [z]; exact lst q5 _ [none] aq5 hq5 (.cons (.inr (.inr (.inr ⟨z5, _, rfl, az5, hz5, .inr rfl⟩))) .nil) (by show 1 ≤ 100; decide) rfl
      · rw [z]; exact lst q6 _ [some [(ls.length : Int)], none] aq6 hq6 (.cons ⟨⟨z6, rfl, hz6⟩, fun q => by cases q; exact az6 rfl, by show 1 ≤ 8; decide⟩ (.cons (.inr (.inl ⟨_, rfl⟩)) .nil)) (by show 2 ≤ 100; decide) rfl
    obtain ⟨px20, hp20⟩ := pen20.some
    have kb21 : Kp p H20 H21 := (Kp.refl p H20).but b21
    have k4_21 : Kp p H4 H21 := (Kp.of (ExtN.of c20)).trans kb21
    have no21 : NoneV p H21 vN := no20.kp kb21 hp20
    have tab21 := tabs_but (tab4.ext c20) b21 hp20
    have hlo21 := k4_21.lst lop hlo4
    have px21 : Paired (fun v l => LI H21 v l ∧ v ≠ .ref p) xs ol := par_imp (fun _ _ z => LI.kp2 z k4_21) px4
    have t21 : RT K CR P0 P1 p e (n + 1 + 1) la r ls odd vN .non H21 ∨ True := .inr trivial
    clear t21 no20 pl20 hd0 hq1 hq2 hq3 hq4 hq5 hq6 hz1 hz2 hz4 hz5 hz6 hy4 hy6 hx6 hu7 hvn hlo px4
    -- lots that do not part
    clear s5 s6 s7 s8 s9 s10 s11 s12 s13 s14 s15 s16 s17 s18 s19 s20
    clear c4 c5 c6 c7 c8 c9 c10 c11 c12 c13 c14 c15 c16 c17 c18 c19 pen5 pen6 pen7 pen8 pen9 pen10 pen11 pen12 pen13 pen14 pen15 pen16 pen17 pen18 pen19
    have hlo := hlo21
    have c21 : Same H21 H21 := Same.refl H21
    refine ⟨_, rfl, ?_⟩
    refine ⟨(by show 0 ≤ sizeLine; decide), fun e1 ne1 => ?_⟩
    have s22 : Same H21 (upd H21 e1 (.lst [])) := (Same.refl H21).new ne1
    have he1 : upd H21 e1 (.lst []) e1 = some (.lst []) := upd_same
    have ae1 := pen21.ne ne1
    generalize upd H21 e1 (.lst []) = H22 at s22 he1 ⊢
    have pen22 := pen21.same s22
    have c22 := c21.trans s22
    have hlo := s22 _ _ hlo
    refine ⟨_, rfl, ?_⟩
    refine ⟨(by show 0 ≤ sizeLine; decide), fun e2 ne2 => ?_⟩
    have s23 : Same H22 (upd H22 e2 (.lst [])) := (Same.refl H22).new ne2
    have he2 : upd H22 e2 (.lst []) e2 = some (.lst []) := upd_same
    have ae2 := pen22.ne ne2
    generalize upd H22 e2 (.lst []) = H23 at s23 he2 ⊢
    have pen23 := pen22.same s23
    have c23 := c22.trans s23
    have hlo := s23 _ _ hlo
    have he1 := s23 _ _ he1
    refine ⟨(by show 1 ≤ sizeLine; decide), fun f2 nf2 => ?_⟩
    have s24 : Same H23 (upd H23 f2 (.lst [.ref e2])) := (Same.refl H23).new nf2
    have hf2 : upd H23 f2 (.lst [.ref e2]) f2 = some (.lst [.ref e2]) := upd_same
    have af2 := pen23.ne nf2
    generalize upd H23 f2 (.lst [.ref e2]) = H24 at s24 hf2 ⊢
    have pen24 := pen23.same s24
    have c24 := c23.trans s24
    have hlo := s24 _ _ hlo
    have he1 := s24 _ _ he1
    have he2 := s24 _ _ he2
    refine ⟨lo, f2, xs, [.ref e2], rfl, rfl, hlo, hf2, (Nat.le_of_lt (sm (by simp only [List.length_cons, List.length_nil, List.length_take]; omega))), fun g2 ng2 => ?_⟩
    have s25 : Same H24 (upd H24 g2 (.lst (xs ++ [.ref e2]))) := (Same.refl H24).new ng2
    have hg2 : upd H24 g2 (.lst (xs ++ [.ref e2])) g2 = some (.lst (xs ++ [.ref e2])) := upd_same
    have ag2 := pen24.ne ng2
    generalize upd H24 g2 (.lst (xs ++ [.ref e2])) = H25 at s25 hg2 ⊢
    have pen25 := pen24.same s25
    have c25 := c24.trans s25
    have hlo := s25 _ _ hlo
    have he1 := s25 _ _ he1
    have he2 := s25 _ _ he2
    have hf2 := s25 _ _ hf2
    refine ⟨(by show 0 ≤ sizeLine; decide), fun e3 ne3 => ?_⟩
    have s26 : Same H25 (upd H25 e3 (.lst [])) := (Same.refl H25).new ne3
    have he3 : upd H25 e3 (.lst []) e3 = some (.lst []) := upd_same
    have ae3 := pen25.ne ne3
    generalize upd H25 e3 (.lst []) = H26 at s26 he3 ⊢
    have pen26 := pen25.same s26
    have c26 := c25.trans s26
    have hlo := s26 _ _ hlo
    have he1 := s26 _ _ he1
    have he2 := s26 _ _ he2
    have hf2 := s26 _ _ hf2
    have hg2 := s26 _ _ hg2
    refine ⟨(by show 1 ≤ sizeLine; decide), fun f3 nf3 => ?_⟩
    have s27 : Same H26 (upd H26 f3 (.lst [.ref e3])) := (Same.refl H26).new nf3
    have hf3 : upd H26 f3 (.lst [.ref e3]) f3 = some (.lst [.ref e3]) := upd_same
    have af3 := pen26.ne nf3
    generalize upd H26 f3 (.lst [.ref e3]) = H27 at s27 hf3 ⊢
    have pen27 := pen26.same s27
    have c27 := c26.trans s27
    have hlo := s27 _ _ hlo
    have he1 := s27 _ _ he1
    have he2 := s27 _ _ he2
    have hf2 := s27 _ _ hf2
    have hg2 := s27 _ _ hg2
    have he3 := s27 _ _ he3
    refine ⟨_, rfl, ?_⟩
    refine ⟨f3, lo, [.ref e3], xs, rfl, rfl, hf3, hlo, (Nat.le_of_lt (sm (by simp only [List.length_cons, List.length_nil, List.length_take]; omega))), fun g3 ng3 => ?_⟩
    have s28 : Same H27 (upd H27 g3 (.lst ([.ref e3] ++ xs))) := (Same.refl H27).new ng3
    have hg3 : upd H27 g3 (.lst ([.ref e3] ++ xs)) g3 = some (.lst ([.ref e3] ++ xs)) := upd_same
    have ag3 := pen27.ne ng3
    generalize upd H27 g3 (.lst ([.ref e3] ++ xs)) = H28 at s28 hg3 ⊢
    have pen28 := pen27.same s28
    have c28 := c27.trans s28
    have hlo := s28 _ _ hlo
    have he1 := s28 _ _ he1
    have he2 := s28 _ _ he2
    have hf2 := s28 _ _ hf2
    have hg2 := s28 _ _ hg2
    have he3 := s28 _ _ he3
    have hf3 := s28 _ _ hf3
    refine ⟨_, rfl, ?_⟩
    dsimp only [tNoPart]
    refine ⟨_, rfl, lo, xs, rfl, SqL.of hlo, ?_⟩
    rw [show cutV xs (some 1) none = xs.drop 1 from cut_from xs (k := 1) rfl]
    refine fun g4 ng4 => ?_
    have s29 : Same H28 (upd H28 g4 (.lst (xs.drop 1))) := (Same.refl H28).new ng4
    have hg4 : upd H28 g4 (.lst (xs.drop 1)) g4 = some (.lst (xs.drop 1)) := upd_same
    have ag4 := pen28.ne ng4
    generalize upd H28 g4 (.lst (xs.drop 1)) = H29 at s29 hg4 ⊢
    have pen29 := pen28.same s29
    have c29 := c28.trans s29
    have hlo := s29 _ _ hlo
    have he1 := s29 _ _ he1
    have he2 := s29 _ _ he2
    have hf2 := s29 _ _ hf2
    have hg2 := s29 _ _ hg2
    have he3 := s29 _ _ he3
    have hf3 := s29 _ _ hf3
    have hg3 := s29 _ _ hg3
    refine ⟨_, rfl, ?_⟩
    refine ⟨(by show 1 ≤ sizeLine; decide), fun e5 ne5 => ?_⟩
    have s30 : Same H29 (upd H29 e5 (.lst [.int 0])) := (Same.refl H29).new ne5
    have he5 : upd H29 e5 (.lst [.int 0]) e5 = some (.lst [.int 0]) := upd_same
    have ae5 := pen29.ne ne5
    generalize upd H29 e5 (.lst [.int 0]) = H30 at s30 he5 ⊢
    have pen30 := pen29.same s30
    have c30 := c29.trans s30
    have hlo := s30 _ _ hlo
    have he1 := s30 _ _ he1
    have he2 := s30 _ _ he2
    have hf2 := s30 _ _ hf2
    have hg2 := s30 _ _ hg2
    have he3 := s30 _ _ he3
    have hf3 := s30 _ _ hf3
    have hg3 := s30 _ _ hg3
    have hg4 := s30 _ _ hg4
    refine ⟨(by show 1 ≤ sizeLine; decide), fun f5 nf5 => ?_⟩
    have s31 : Same H30 (upd H30 f5 (.lst [.ref e5])) := (Same.refl H30).new nf5
    have hf5 : upd H30 f5 (.lst [.ref e5]) f5 = some (.lst [.ref e5]) := upd_same
    have af5 := pen30.ne nf5
    generalize upd H30 f5 (.lst [.ref e5]) = H31 at s31 hf5 ⊢
    have pen31 := pen30.same s31
    have c31 := c30.trans s31
    have hlo := s31 _ _ hlo
    have he1 := s31 _ _ he1
    have he2 := s31 _ _ he2
    have hf2 := s31 _ _ hf2
    have hg2 := s31 _ _ hg2
    have he3 := s31 _ _ he3
    have hf3 := s31 _ _ hf3
    have hg3 := s31 _ _ hg3
    have hg4 := s31 _ _ hg4
    have he5 := s31 _ _ he5
    refine ⟨lo, f5, xs, [.ref e5], rfl, rfl, hlo, hf5, (Nat.le_of_lt (sm (by simp only [List.length_cons, List.length_nil, List.length_take]; omega))), fun g5 ng5 => ?_⟩
    have s32 : Same H31 (upd H31 g5 (.lst (xs ++ [.ref e5]))) := (Same.refl H31).new ng5
    have hg5 : upd H31 g5 (.lst (xs ++ [.ref e5])) g5 = some (.lst (xs ++ [.ref e5])) := upd_same
    have ag5 := pen31.ne ng5
    generalize upd H31 g5 (.lst (xs ++ [.ref e5])) = H32 at s32 hg5 ⊢
    have pen32 := pen31.same s32
    have c32 := c31.trans s32
    have hlo := s32 _ _ hlo
    have he1 := s32 _ _ he1
    have he2 := s32 _ _ he2
    have hf2 := s32 _ _ hf2
    have hg2 := s32 _ _ hg2
    have he3 := s32 _ _ he3
    have hf3 := s32 _ _ hf3
    have hg3 := s32 _ _ hg3
    have hg4 := s32 _ _ hg4
    have he5 := s32 _ _ he5
    have hf5 := s32 _ _ hf5
    refine ⟨(by show 2 ≤ sizeLine; decide), fun e6 ne6 => ?_⟩
    have s33 : Same H32 (upd H32 e6 (.lst [.int 0, .int 1])) := (Same.refl H32).new ne6
    have he6 : upd H32 e6 (.lst [.int 0, .int 1]) e6 = some (.lst [.int 0, .int 1]) := upd_same
    have ae6 := pen32.ne ne6
    generalize upd H32 e6 (.lst [.int 0, .int 1]) = H33 at s33 he6 ⊢
    have pen33 := pen32.same s33
    have c33 := c32.trans s33
    have hlo := s33 _ _ hlo
    have he1 := s33 _ _ he1
    have he2 := s33 _ _ he2
    have hf2 := s33 _ _ hf2
    have hg2 := s33 _ _ hg2
    have he3 := s33 _ _ he3
    have hf3 := s33 _ _ hf3
    have hg3 := s33 _ _ hg3
    have hg4 := s33 _ _ hg4
    have he5 := s33 _ _ he5
    have hf5 := s33 _ _ hf5
    have hg5 := s33 _ _ hg5
    refine ⟨(by show 1 ≤ sizeLine; decide), fun g6 ng6 => ?_⟩
    have s34 : Same H33 (upd H33 g6 (.lst [.ref e6])) := (Same.refl H33).new ng6
    have hg6 : upd H33 g6 (.lst [.ref e6]) g6 = some (.lst [.ref e6]) := upd_same
    have ag6 := pen33.ne ng6
    generalize upd H33 g6 (.lst [.ref e6]) = H34 at s34 hg6 ⊢
    have pen34 := pen33.same s34
    have c34 := c33.trans s34
    have hlo := s34 _ _ hlo
    have he1 := s34 _ _ he1
    have he2 := s34 _ _ he2
    have hf2 := s34 _ _ hf2
    have hg2 := s34 _ _ hg2
    have he3 := s34 _ _ he3
    have hf3 := s34 _ _ hf3
    have hg3 := s34 _ _ hg3
    have hg4 := s34 _ _ hg4
    have he5 := s34 _ _ he5
    have hf5 := s34 _ _ hf5
    have hg5 := s34 _ _ hg5
    have he6 := s34 _ _ he6
    refine ⟨_, rfl, ?_⟩
    refine ⟨_, rfl, ?_⟩
    dsimp only [tNoPart]
    refine ⟨_, rfl, lo, xs, rfl, SqL.of hlo, ?_⟩
    rw [show cutV xs none (some 1) = xs.take 1 from cutV_to xs 1]
    refine fun e7 ne7 => ?_
    have s35 : Same H34 (upd H34 e7 (.lst (xs.take 1))) := (Same.refl H34).new ne7
    have he7 : upd H34 e7 (.lst (xs.take 1)) e7 = some (.lst (xs.take 1)) := upd_same
    have ae7 := pen34.ne ne7
    generalize upd H34 e7 (.lst (xs.take 1)) = H35 at s35 he7 ⊢
    have pen35 := pen34.same s35
    have c35 := c34.trans s35
    have hlo := s35 _ _ hlo
    have he1 := s35 _ _ he1
    have he2 := s35 _ _ he2
    have hf2 := s35 _ _ hf2
    have hg2 := s35 _ _ hg2
    have he3 := s35 _ _ he3
    have hf3 := s35 _ _ hf3
    have hg3 := s35 _ _ hg3
    have hg4 := s35 _ _ hg4
    have he5 := s35 _ _ he5
    have hf5 := s35 _ _ hf5
    have hg5 := s35 _ _ hg5
    have he6 := s35 _ _ he6
    have hg6 := s35 _ _ hg6
    refine ⟨lo, e7, xs, (xs.take 1), rfl, rfl, hlo, he7, (Nat.le_of_lt (sm (by simp only [List.length_cons, List.length_nil, List.length_take]; omega))), fun g7 ng7 => ?_⟩
    have s36 : Same H35 (upd H35 g7 (.lst (xs ++ (xs.take 1)))) := (Same.refl H35).new ng7
    have hg7 : upd H35 g7 (.lst (xs ++ (xs.take 1))) g7 = some (.lst (xs ++ (xs.take 1))) := upd_same
    have ag7 := pen35.ne ng7
    generalize upd H35 g7 (.lst (xs ++ (xs.take 1))) = H36 at s36 hg7 ⊢
    have pen36 := pen35.same s36
    have c36 := c35.trans s36
    have hlo := s36 _ _ hlo
    have he1 := s36 _ _ he1
    have he2 := s36 _ _ he2
    have hf2 := s36 _ _ hf2
    have hg2 := s36 _ _ hg2
    have he3 := s36 _ _ he3
    have hf3 := s36 _ _ hf3
    have hg3 := s36 _ _ hg3
    have hg4 := s36 _ _ hg4
    have he5 := s36 _ _ he5
    have hf5 := s36 _ _ hf5
    have hg5 := s36 _ _ hg5
    have he6 := s36 _ _ he6
    have hg6 := s36 _ _ hg6
    have he7 := s36 _ _ he7
    refine ⟨(by show 7 ≤ sizeLine; decide), fun u8 nu8 => ?_⟩
    have s37 : Same H36 (upd H36 u8 (.lst [.ref e1, .ref g2, .ref g3, .ref g4, .ref g5, .ref g6, .ref g7])) := (Same.refl H36).new nu8
    have hu8 : upd H36 u8 (.lst [.ref e1, .ref g2, .ref g3, .ref g4, .ref g5, .ref g6, .ref g7]) u8 = some (.lst [.ref e1, .ref g2, .ref g3, .ref g4, .ref g5, .ref g6, .ref g7]) := upd_same
    have au8 := pen36.ne nu8
    generalize upd H36 u8 (.lst [.ref e1, .ref g2, .ref g3, .ref g4, .ref g5, .ref g6, .ref g7]) = H37 at s37 hu8 ⊢
    have pen37 := pen36.same s37
    have c37 := c36.trans s37
    have hlo := s37 _ _ hlo
    have he1 := s37 _ _ he1
    have he2 := s37 _ _ he2
    have hf2 := s37 _ _ hf2
    have hg2 := s37 _ _ hg2
    have he3 := s37 _ _ he3
    have hf3 := s37 _ _ hf3
    have hg3 := s37 _ _ hg3
    have hg4 := s37 _ _ hg4
    have he5 := s37 _ _ he5
    have hf5 := s37 _ _ hf5
    have hg5 := s37 _ _ hg5
    have he6 := s37 _ _ he6
    have hg6 := s37 _ _ hg6
    have he7 := s37 _ _ he7
    have hg7 := s37 _ _ hg7
    refine ⟨p, u8, e, _, n + 2, rfl, SqL.of hu8, au8, (by show 1 ≤ 7; decide), (by show 7 ≤ 1000; decide), by omega, pen37, fun i6 vB H38 hvb b38 pen38 => ?_⟩
    have px37 : Paired (fun v l => LI H37 v l ∧ v ≠ .ref p) xs ol := par_imp (fun _ _ z => ⟨z.1.same c37, z.2⟩) px21
    have ba37 : BadV p ls.length H37 vB := by
      have hm := List.mem_of_getElem? hvb
      simp only [List.mem_cons, List.not_mem_nil, or_false] at hm
      have rl := res_lots cn
      have l8' : ∀ l ∈ ol, l.length ≤ 50 := fun l m => by have := ol8.2 l m; omega
      have fx := res_fix l3 l8
      have fl : (ol.flatMap id).length = ls.length := by rw [cn.pm.length_eq, rngI_len]
      obtain ⟨o0, ol', eo⟩ : ∃ o0 ol', ol = o0 :: ol' := by
        cases ol with
        | nil => cases ol0
        | cons a b => exact ⟨a, b, rfl⟩
      have o0l : 0 < o0.length := List.length_pos_iff.mpr (cn.ne o0 (by rw [eo]; exact List.mem_cons_self ..))
      have f1 : o0.length + (ol'.flatMap id).length = ls.length := by rw [← fl, eo, List.flatMap_cons, List.length_append]; rfl
      have mk : ∀ (a : Addr) (zs : List V) (nss : List (List Int)), a ≠ p → H37 a = some (.lst zs) → Paired (fun v l => LI H37 v l ∧ v ≠ .ref p) zs nss → nss.length ≤ 50 → (∀ l ∈ nss, l.length ≤ 50) → (∀ ns ∈ nss, res ls.length ns = .ok ns) → ¬ Parts ls.length nss → BadV p ls.length H37 (.ref a) := fun a zs nss n h t l z r q => ⟨a, zs, nss, rfl, n, h, t, l, z, r, q⟩
      have e5 : LI H37 (.ref e5) [0] ∧ V.ref e5 ≠ .ref p := ⟨⟨e5, rfl, he5⟩, fun q => by cases q; exact ae5 rfl⟩
      have e2' : LI H37 (.ref e2) [] ∧ V.ref e2 ≠ .ref p := ⟨⟨e2, rfl, he2⟩, fun q => by cases q; exact ae2 rfl⟩
      have e3' : LI H37 (.ref e3) [] ∧ V.ref e3 ≠ .ref p := ⟨⟨e3, rfl, he3⟩, fun q => by cases q; exact ae3 rfl⟩
      have e6' : LI H37 (.ref e6) [0, 1] ∧ V.ref e6 ≠ .ref p := ⟨⟨e6, rfl, he6⟩, fun q => by cases q; exact ae6 rfl⟩
      rcases hm with z | z | z | z | z | z | z
      · rw [z]
        refine mk e1 [] [] ae1 he1 .nil (by decide) (fun _ m => nomatch m) (fun _ m => nomatch m) fun q => ?_
        have := parts_len q
        rw [List.flatMap_nil, List.length_nil] at this
        omega
      · rw [z]
        refine mk g2 _ (ol ++ [[]]) ag2 hg2 (par_app px37 (.cons e2' .nil)) (by rw [List.length_append, List.length_singleton]; omega) (fun l m => ?_) (fun l m => ?_) fun q => q.1 [] (by simp) rfl
        · rcases List.mem_append.mp m with m | m
          · exact l8' l m
          · rw [List.mem_singleton.mp m]; decide
        · rcases List.mem_append.mp m with m | m
          · exact rl l m
          · rw [List.mem_singleton.mp m]; exact fx.2.2.2.2.2.2
      · rw [z]
        refine mk g3 _ ([] :: ol) ag3 hg3 (.cons e3' px37) (by rw [List.length_cons]; omega) (fun l m => ?_) (fun l m => ?_) fun q => q.1 [] (List.mem_cons_self ..) rfl
        · rcases List.mem_cons.mp m with rfl | m
          · decide
          · exact l8' l m
        · rcases List.mem_cons.mp m with rfl | m
          · exact fx.2.2.2.2.2.2
          · exact rl l m
      · rw [z]
        refine mk g4 _ (ol.drop 1) ag4 hg4 (par_drop 1 px37) (by rw [List.length_drop]; omega) (fun l m => l8' l (List.mem_of_mem_drop m)) (fun l m => rl l (List.mem_of_mem_drop m)) fun q => ?_
        have := parts_len q
        rw [eo, List.drop_succ_cons, List.drop_zero] at this
        omega
      · rw [z]
        refine mk g5 _ (ol ++ [[0]]) ag5 hg5 (par_app px37 (.cons e5 .nil)) (by rw [List.length_append, List.length_singleton]; omega) (fun l m => ?_) (fun l m => ?_) fun q => ?_
        · rcases List.mem_append.mp m with m | m
          · exact l8' l m
          · rw [List.mem_singleton.mp m]; decide
        · rcases List.mem_append.mp m with m | m
          · exact rl l m
          · rw [List.mem_singleton.mp m]; exact fx.2.2.2.2.1
        · have := parts_len q
          rw [List.flatMap_append, List.length_append, fl] at this
          have : ls.length + 1 = ls.length := this
          omega
      · rw [z]
        refine mk g6 _ [[0, 1]] ag6 hg6 (.cons e6' .nil) (by decide) (fun l m => ?_) (fun l m => ?_) fun q => ?_
        · rw [List.mem_singleton.mp m]; decide
        · rw [List.mem_singleton.mp m]; exact fx.1
        · have := parts_len q
          have : 2 = ls.length := this
          omega
      · rw [z]
        refine mk g7 _ (ol ++ ol.take 1) ag7 hg7 (par_app px37 (par_take 1 px37)) (by rw [List.length_append, List.length_take]; omega) (fun l m => ?_) (fun l m => ?_) fun q => ?_
        · rcases List.mem_append.mp m with m | m
          · exact l8' l m
          · exact l8' l (List.mem_of_mem_take m)
        · rcases List.mem_append.mp m with m | m
          · exact rl l m
          · exact rl l (List.mem_of_mem_take m)
        · have := parts_len q
          rw [List.flatMap_append, List.length_append, fl, eo, List.take_succ_cons, List.take_zero, List.flatMap_cons, List.length_append] at this
          have : ls.length + (o0.length + _) = ls.length := this
          omega
    obtain ⟨px37', hp37⟩ := pen37.some
    have kb38 : Kp p H37 H38 := (Kp.refl p H37).but b38
    have k21_38 : Kp p H21 H38 := (Kp.of (ExtN.of c37)).trans kb38
    have k4_38 := k4_21.trans k21_38
    have k038 := k04.trans k4_38
    have tab38 := tabs_but (tab21.ext c37) b38 hp37
    obtain ⟨px4', hp4⟩ := pen4.some
    obtain ⟨px21', hp21⟩ := pen21.some
    have rt38 : RT K CR P0 P1 p e (n + 2 + 1) la r ls odd vN vB H38 := ⟨pen38, k4_38.lst lap hla4, lap, ra4.kp k4_38 hp4, od4.kp lap k4_38, no21.kp k21_38 hp21, ba37.kp kb38⟩
    clear he1 he2 hf2 hg2 he3 hf3 hg3 hg4 he5 hf5 hg5 he6 hg6 he7 hg7 hu8
    clear hlo ba37 px37 hvb
    clear s22 s23 s24 s25 s26 s27 s28 s29 s30 s31 s32 s33 s34 s35 s36 s37
    clear c21 c22 c23 c24 c25 c26 c27 c28 c29 c30 c31 c32 c33 c34 c35 c36 c37
    have HX : H38 = H38 := rfl
    clear HX
    refine ⟨tab38, fun fL cF H39 x39 tab39 nfL hfL hcF => ⟨(by show 2 ≤ sizeLine; decide), fun tt ntt => ?_⟩⟩
    have s40 : Same H39 (upd H39 tt (.tup [.ref fWG, .ref fL])) := (Same.refl H39).new ntt
    have htt : upd H39 tt (.tup [.ref fWG, .ref fL]) tt = some (.tup [.ref fWG, .ref fL]) := upd_same
    generalize upd H39 tt (.tup [.ref fWG, .ref fL]) = H40 at s40 htt ⊢
    have rt40 := rt38.ext (x39.trans (ExtN.of s40))
    have tab40 := tab39.ext s40
    have hfL40 := s40 _ _ hfL
    have hcF40 := s40 _ _ hcF
    have k040 := (k038.ext x39).same s40
    clear rt38 tab38 tab39 hfL hcF ntt nfL x39
    refine ⟨tt, rfl, ⟨_, .inl (.inl htt)⟩, ?_⟩
    refine for_tup (K := K) (a := tt) (xs := [.ref fWG, .ref fL]) (fun i σ G => ExtN H40 G ∧ Tabs (T2 P0 P1) G ∧ ∃ z8 z9 z10 : Option V, σ = [some (.ref p), some (.ref la), some (.ref lo), some odd, some (.ref r), some (.int (ls.length : Nat)), some vN, some vB, z8, z9, z10])
      ⟨fun _ _ z _ => z, tab40, _, _, _, rfl⟩ (fun i σ G _ q => .inl (.inl (q.1 _ _ htt (fun _ z => nomatch z)))) ?_ ?_
    · rintro i x σ G hx ⟨xG, tabG, z8, z9, z10, rfl⟩
      have ok0 : AskOk fWG x G := by
        have hm := List.mem_of_getElem? hx
        simp only [List.mem_cons, List.not_mem_nil, or_false] at hm
        rcases hm with rfl | rfl
        · exact .inl rfl
        · exact (AskOk.ext (fW := fWG) (.inr ⟨fL, cF, rfl, hfL40, hcF40⟩) xG)
      have rtG := rt40.ext xG
      have fx := res_fix l3 l8
      refine ask_step0 (ab := ("ring", "ring")) (.r (.str "ring")) tabG (fun E' J Q' xJ er => ask_at rfl (ok0.ext xJ) fun R hR => ?_) fun M q1 xM tM hq1 => ?_
      · exact ⟨_, rfl, _, rfl, hR _ _ (fun _ _ z _ => z) ⟨_, _, rfl, .inl ⟨(rtG.ext xJ).od.no KT, er J (Same.refl J)⟩⟩⟩
      have rtM := rtG.ext xM
      have okM := ok0.ext xM
      refine ⟨(by show 1 ≤ sizeLine; decide), fun D nD => ?_⟩
      have x1 : ExtN M (upd M D (.lst [.ref q1])) := ExtN.of ((Same.refl M).new nD)
      have t1 : TS D [.ref q1] [("ring", "ring")] (upd M D (.lst [.ref q1])) := ⟨upd_same, .cons ⟨q1, rfl, ((Same.refl M).new nD) _ _ hq1⟩ .nil⟩
      have b1 := tM.ext ((Same.refl M).new (o := .lst [.ref q1]) nD)
      generalize upd M D (.lst [.ref q1]) = G1 at x1 t1 b1 ⊢
      refine ⟨_, rfl, .inl ⟨rfl, _, SqL.of t1.1⟩, ask_step (ab := ("lot", "lots")) (D := D) (.o (.str "lots")) x1 b1 t1 (fun E' J Q' xJ er => ask_at rfl (okM.ext xJ) fun R hR => ?_) fun M2 q2 xM2 tM2 ts2 hq2 => ⟨D, _, _, rfl, rfl, ts2.1, sm (by show 1 ≤ 10000; decide), ?_⟩⟩
      · exact ⟨_, rfl, _, rfl, hR _ _ (fun _ _ z _ => z) ⟨_, _, rfl, .inr ⟨r, ls, rfl, (rtM.ext xJ).ra, l3, l8, (rtM.ext xJ).nn.ask (er J (Same.refl J))⟩⟩⟩
      have x2 := extn_mut (o := .lst ([.ref q1] ++ [.ref q2])) xM2 nD
      have t2 := ts2.push hq2
      have b2 := tabs_mut (ws := [.ref q1] ++ [.ref q2]) tM2 ts2.1
      generalize upd M2 D (.lst ([.ref q1] ++ [.ref q2])) = G2 at x2 t2 b2 ⊢
      refine ⟨_, rfl, .inl ⟨rfl, _, SqL.of t2.1⟩, ask_step (ab := ("lineup", "lots")) (D := D) (.u (.str "lots")) x2 b2 t2 (fun E' J Q' xJ er => ask_at rfl (okM.ext xJ) fun R hR => ?_) fun M3 q3 xM3 tM3 ts3 hq3 => ⟨D, _, _, rfl, rfl, ts3.1, sm (by show 2 ≤ 10000; decide), ?_⟩⟩
      · exact ⟨_, rfl, _, rfl, hR _ _ (fun _ _ z _ => z) ⟨_, _, rfl, .inr ⟨r, ls, rfl, (rtM.ext xJ).ra, l3, l8, (rtM.ext xJ).bb.ask (er J (Same.refl J))⟩⟩⟩
      have x3 := extn_mut (o := .lst (([.ref q1] ++ [.ref q2]) ++ [.ref q3])) xM3 nD
      have t3 := ts3.push hq3
      have b3 := tabs_mut (ws := ([.ref q1] ++ [.ref q2]) ++ [.ref q3]) tM3 ts3.1
      generalize upd M3 D (.lst (([.ref q1] ++ [.ref q2]) ++ [.ref q3])) = G3 at x3 t3 b3 ⊢
      refine ⟨_, rfl, .inl ⟨rfl, _, SqL.of t3.1⟩, ask_step (ab := ("bar", toString ((ls.length : Nat) : Int))) (D := D) (.n (ls.length : Nat) (log_n l8)) x3 b3 t3 (fun E' J Q' xJ er => ask_at rfl (okM.ext xJ) fun R hR => ?_) fun M4 q4 xM4 tM4 ts4 hq4 => ⟨D, _, _, rfl, rfl, ts4.1, sm (by show 3 ≤ 10000; decide), ?_⟩⟩
      · have rtJ := rtM.ext xJ
        refine ⟨_, rfl, ?_⟩
        have v0 : Same J J := Same.refl J
        refine ⟨(by show 2 ≤ sizeLine; decide), fun w20 nw20 => ?_⟩
        have sw20 : Same J (upd J w20 (.lst [.int (0), .int (1)])) := (Same.refl J).new nw20
        have hw20 : upd J w20 (.lst [.int (0), .int (1)]) w20 = some (.lst [.int (0), .int (1)]) := upd_same
        generalize upd J w20 (.lst [.int (0), .int (1)]) = J20 at sw20 hw20 ⊢
        have v0 := v0.trans sw20
        refine ⟨_, rfl, _, rfl, (by show 3 ≤ sizeLine; decide), fun w21 nw21 => ?_⟩
        have sw21 : Same J20 (upd J20 w21 (.lst [.int (2), .int (ls.length : Nat), .int (-1)])) := (Same.refl J20).new nw21
        have hw21 : upd J20 w21 (.lst [.int (2), .int (ls.length : Nat), .int (-1)]) w21 = some (.lst [.int (2), .int (ls.length : Nat), .int (-1)]) := upd_same
        generalize upd J20 w21 (.lst [.int (2), .int (ls.length : Nat), .int (-1)]) = J21 at sw21 hw21 ⊢
        have hw20 := sw21 _ _ hw20
        have v0 := v0.trans sw21
        refine ⟨(by show 2 ≤ sizeLine; decide), fun w22 nw22 => ?_⟩
        have sw22 : Same J21 (upd J21 w22 (.lst [.int (0), .int (0)])) := (Same.refl J21).new nw22
        have hw22 : upd J21 w22 (.lst [.int (0), .int (0)]) w22 = some (.lst [.int (0), .int (0)]) := upd_same
        generalize upd J21 w22 (.lst [.int (0), .int (0)]) = J22 at sw22 hw22 ⊢
        have hw20 := sw22 _ _ hw20
        have hw21 := sw22 _ _ hw21
        have v0 := v0.trans sw22
        refine ⟨(by show 3 ≤ sizeLine; decide), fun x2l nx2l => ?_⟩
        have sx2l : Same J22 (upd J22 x2l (.lst [.ref w20, .ref w21, .ref w22])) := (Same.refl J22).new nx2l
        have hx2l : upd J22 x2l (.lst [.ref w20, .ref w21, .ref w22]) x2l = some (.lst [.ref w20, .ref w21, .ref w22]) := upd_same
        generalize upd J22 x2l (.lst [.ref w20, .ref w21, .ref w22]) = JZ at sx2l hx2l ⊢
        have hw20 := sx2l _ _ hw20
        have hw21 := sx2l _ _ hw21
        have hw22 := sx2l _ _ hw22
        have v0 := v0.trans sx2l
        exact hR _ _ (ExtN.of v0) ⟨_, _, rfl, .inr ⟨r, ls, rfl, (rtJ.ext (ExtN.of v0)).ra, l3, l8, ask_bar (i := 1) (nss := [[0, 1], [2, ((ls.length : Nat) : Int), -1], [0, 0]]) hx2l (.cons ⟨(by show 2 ≤ 1000; decide), w20, rfl, .inl hw20⟩ (.cons ⟨(by show 3 ≤ 1000; decide), w21, rfl, .inl hw21⟩ (.cons ⟨(by show 2 ≤ 1000; decide), w22, rfl, .inl hw22⟩ .nil))) (by show 3 ≤ 100; decide) rfl (pr1 fx.1) fx.2.1 (er JZ v0)⟩⟩
      have x4 := extn_mut (o := .lst ((([.ref q1] ++ [.ref q2]) ++ [.ref q3]) ++ [.ref q4])) xM4 nD
      have t4 := ts4.push hq4
      have b4 := tabs_mut (ws := (([.ref q1] ++ [.ref q2]) ++ [.ref q3]) ++ [.ref q4]) tM4 ts4.1
      generalize upd M4 D (.lst ((([.ref q1] ++ [.ref q2]) ++ [.ref q3]) ++ [.ref q4])) = G4 at x4 t4 b4 ⊢
      refine ⟨_, rfl, .inl ⟨rfl, _, SqL.of t4.1⟩, ask_step (ab := ("bar", "-1")) (D := D) (tells_m1) x4 b4 t4 (fun E' J Q' xJ er => ask_at rfl (okM.ext xJ) fun R hR => ?_) fun M5 q5 xM5 tM5 ts5 hq5 => ⟨D, _, _, rfl, rfl, ts5.1, sm (by show 4 ≤ 10000; decide), ?_⟩⟩
      · have rtJ := rtM.ext xJ
        refine ⟨_, rfl, ?_⟩
        have v0 : Same J J := Same.refl J
        refine ⟨_, rfl, (by show 5 ≤ sizeLine; decide), fun w30 nw30 => ?_⟩
        have sw30 : Same J (upd J w30 (.lst [.int (2), .int (1), .int (2), .int (1), .int (-1)])) := (Same.refl J).new nw30
        have hw30 : upd J w30 (.lst [.int (2), .int (1), .int (2), .int (1), .int (-1)]) w30 = some (.lst [.int (2), .int (1), .int (2), .int (1), .int (-1)]) := upd_same
        generalize upd J w30 (.lst [.int (2), .int (1), .int (2), .int (1), .int (-1)]) = J30 at sw30 hw30 ⊢
        have v0 := v0.trans sw30
        refine ⟨(by show 1 ≤ sizeLine; decide), fun x3l nx3l => ?_⟩
        have sx3l : Same J30 (upd J30 x3l (.lst [.ref w30])) := (Same.refl J30).new nx3l
        have hx3l : upd J30 x3l (.lst [.ref w30]) x3l = some (.lst [.ref w30]) := upd_same
        generalize upd J30 x3l (.lst [.ref w30]) = JZ at sx3l hx3l ⊢
        have hw30 := sx3l _ _ hw30
        have v0 := v0.trans sx3l
        exact hR _ _ (ExtN.of v0) ⟨_, _, rfl, .inr ⟨r, ls, rfl, (rtJ.ext (ExtN.of v0)).ra, l3, l8, ask_bar (i := 0) (nss := [[2, 1, 2, 1, -1]]) hx3l (.cons ⟨(by show 5 ≤ 1000; decide), w30, rfl, .inl hw30⟩ .nil) (by show 1 ≤ 100; decide) rfl pr0 fx.2.2.1 (er JZ v0)⟩⟩
      have x5 := extn_mut (o := .lst (((([.ref q1] ++ [.ref q2]) ++ [.ref q3]) ++ [.ref q4]) ++ [.ref q5])) xM5 nD
      have t5 := ts5.push hq5
      have b5 := tabs_mut (ws := ((([.ref q1] ++ [.ref q2]) ++ [.ref q3]) ++ [.ref q4]) ++ [.ref q5]) tM5 ts5.1
      generalize upd M5 D (.lst (((([.ref q1] ++ [.ref q2]) ++ [.ref q3]) ++ [.ref q4]) ++ [.ref q5])) = G5 at x5 t5 b5 ⊢
      refine ⟨_, rfl, .inl ⟨rfl, _, SqL.of t5.1⟩, ask_step (ab := ("twice", "0")) (D := D) (tells_0) x5 b5 t5 (fun E' J Q' xJ er => ask_at rfl (okM.ext xJ) fun R hR => ?_) fun M6 q6 xM6 tM6 ts6 hq6 => ⟨D, _, _, rfl, rfl, ts6.1, sm (by show 5 ≤ 10000; decide), ?_⟩⟩
      · have rtJ := rtM.ext xJ
        refine ⟨_, rfl, ?_⟩
        have v0 : Same J J := Same.refl J
        refine ⟨(by show 3 ≤ sizeLine; decide), fun w40 nw40 => ?_⟩
        have sw40 : Same J (upd J w40 (.lst [.int (0), .int (1), .int (0)])) := (Same.refl J).new nw40
        have hw40 : upd J w40 (.lst [.int (0), .int (1), .int (0)]) w40 = some (.lst [.int (0), .int (1), .int (0)]) := upd_same
        generalize upd J w40 (.lst [.int (0), .int (1), .int (0)]) = J40 at sw40 hw40 ⊢
        have v0 := v0.trans sw40
        refine ⟨_, rfl, _, _, rfl, rfl, (by show 1 ≤ sizeLine; decide), fun w41 nw41 => ?_⟩
        have sw41 : Same J40 (upd J40 w41 (.lst [.int ((ls.length : Nat) + 3)])) := (Same.refl J40).new nw41
        have hw41 : upd J40 w41 (.lst [.int ((ls.length : Nat) + 3)]) w41 = some (.lst [.int ((ls.length : Nat) + 3)]) := upd_same
        generalize upd J40 w41 (.lst [.int ((ls.length : Nat) + 3)]) = J41 at sw41 hw41 ⊢
        have hw40 := sw41 _ _ hw40
        have v0 := v0.trans sw41
        refine ⟨(by show 2 ≤ sizeLine; decide), fun x4l nx4l => ?_⟩
        have sx4l : Same J41 (upd J41 x4l (.lst [.ref w40, .ref w41])) := (Same.refl J41).new nx4l
        have hx4l : upd J41 x4l (.lst [.ref w40, .ref w41]) x4l = some (.lst [.ref w40, .ref w41]) := upd_same
        generalize upd J41 x4l (.lst [.ref w40, .ref w41]) = JZ at sx4l hx4l ⊢
        have hw40 := sx4l _ _ hw40
        have hw41 := sx4l _ _ hw41
        have v0 := v0.trans sx4l
        exact hR _ _ (ExtN.of v0) ⟨_, _, rfl, .inr ⟨r, ls, rfl, (rtJ.ext (ExtN.of v0)).ra, l3, l8, ask_twice (i := 0) (nss := [[0, 1, 0], [((ls.length : Nat) : Int) + 3]]) hx4l (.cons ⟨(by show 3 ≤ 1000; decide), w40, rfl, .inl hw40⟩ (.cons ⟨(by show 1 ≤ 1000; decide), w41, rfl, .inl hw41⟩ .nil)) (by show 2 ≤ 100; decide) rfl pr0 fx.2.2.2.1 (er JZ v0)⟩⟩
      have x6 := extn_mut (o := .lst ((((([.ref q1] ++ [.ref q2]) ++ [.ref q3]) ++ [.ref q4]) ++ [.ref q5]) ++ [.ref q6])) xM6 nD
      have t6 := ts6.push hq6
      have b6 := tabs_mut (ws := (((([.ref q1] ++ [.ref q2]) ++ [.ref q3]) ++ [.ref q4]) ++ [.ref q5]) ++ [.ref q6]) tM6 ts6.1
      generalize upd M6 D (.lst ((((([.ref q1] ++ [.ref q2]) ++ [.ref q3]) ++ [.ref q4]) ++ [.ref q5]) ++ [.ref q6])) = G6 at x6 t6 b6 ⊢
      refine ⟨_, rfl, .inl ⟨rfl, _, SqL.of t6.1⟩, ask_step (ab := ("twice", "2")) (D := D) (tells_2) x6 b6 t6 (fun E' J Q' xJ er => ask_at rfl (okM.ext xJ) fun R hR => ?_) fun M7 q7 xM7 tM7 ts7 hq7 => ⟨D, _, _, rfl, rfl, ts7.1, sm (by show 6 ≤ 10000; decide), ?_⟩⟩
      · have rtJ := rtM.ext xJ
        refine ⟨_, rfl, ?_⟩
        have v0 : Same J J := Same.refl J
        refine ⟨(by show 1 ≤ sizeLine; decide), fun w50 nw50 => ?_⟩
        have sw50 : Same J (upd J w50 (.tup [.int (0)])) := (Same.refl J).new nw50
        have hw50 : upd J w50 (.tup [.int (0)]) w50 = some (.tup [.int (0)]) := upd_same
        generalize upd J w50 (.tup [.int (0)]) = J50 at sw50 hw50 ⊢
        have v0 := v0.trans sw50
        refine ⟨(by show 4 ≤ sizeLine; decide), fun w51 nw51 => ?_⟩
        have sw51 : Same J50 (upd J50 w51 (.lst [.int (1), .int (2), .int (2), .int (1)])) := (Same.refl J50).new nw51
        have hw51 : upd J50 w51 (.lst [.int (1), .int (2), .int (2), .int (1)]) w51 = some (.lst [.int (1), .int (2), .int (2), .int (1)]) := upd_same
        generalize upd J50 w51 (.lst [.int (1), .int (2), .int (2), .int (1)]) = J51 at sw51 hw51 ⊢
        have hw50 := sw51 _ _ hw50
        have v0 := v0.trans sw51
        refine ⟨(by show 2 ≤ sizeLine; decide), fun x5l nx5l => ?_⟩
        have sx5l : Same J51 (upd J51 x5l (.lst [.ref w50, .ref w51])) := (Same.refl J51).new nx5l
        have hx5l : upd J51 x5l (.lst [.ref w50, .ref w51]) x5l = some (.lst [.ref w50, .ref w51]) := upd_same
        generalize upd J51 x5l (.lst [.ref w50, .ref w51]) = JZ at sx5l hx5l ⊢
        have hw50 := sx5l _ _ hw50
        have hw51 := sx5l _ _ hw51
        have v0 := v0.trans sx5l
        exact hR _ _ (ExtN.of v0) ⟨_, _, rfl, .inr ⟨r, ls, rfl, (rtJ.ext (ExtN.of v0)).ra, l3, l8, ask_twice (i := 1) (nss := [[0], [1, 2, 2, 1]]) hx5l (.cons ⟨(by show 1 ≤ 1000; decide), w50, rfl, .inr hw50⟩ (.cons ⟨(by show 4 ≤ 1000; decide), w51, rfl, .inl hw51⟩ .nil)) (by show 2 ≤ 100; decide) rfl (pr1 fx.2.2.2.2.1) fx.2.2.2.2.2.1 (er JZ v0)⟩⟩
      have x7 := extn_mut (o := .lst (((((([.ref q1] ++ [.ref q2]) ++ [.ref q3]) ++ [.ref q4]) ++ [.ref q5]) ++ [.ref q6]) ++ [.ref q7])) xM7 nD
      have t7 := ts7.push hq7
      have b7 := tabs_mut (ws := ((((([.ref q1] ++ [.ref q2]) ++ [.ref q3]) ++ [.ref q4]) ++ [.ref q5]) ++ [.ref q6]) ++ [.ref q7]) tM7 ts7.1
      generalize upd M7 D (.lst (((((([.ref q1] ++ [.ref q2]) ++ [.ref q3]) ++ [.ref q4]) ++ [.ref q5]) ++ [.ref q6]) ++ [.ref q7])) = G7 at x7 t7 b7 ⊢
      have v0 : Same G7 G7 := Same.refl G7
      refine ⟨(by show 2 ≤ sizeLine; decide), fun d0 nd0 => ?_⟩
      have sd0 : Same G7 (upd G7 d0 (.tup [.str "ring", .str ("ring")])) := (Same.refl G7).new nd0
      have hd0 : upd G7 d0 (.tup [.str "ring", .str ("ring")]) d0 = some (.tup [.str "ring", .str ("ring")]) := upd_same
      generalize upd G7 d0 (.tup [.str "ring", .str ("ring")]) = U0 at sd0 hd0 ⊢
      have v0 := v0.trans sd0
      refine ⟨(by show 2 ≤ sizeLine; decide), fun d1 nd1 => ?_⟩
      have sd1 : Same U0 (upd U0 d1 (.tup [.str "lot", .str ("lots")])) := (Same.refl U0).new nd1
      have hd1 : upd U0 d1 (.tup [.str "lot", .str ("lots")]) d1 = some (.tup [.str "lot", .str ("lots")]) := upd_same
      generalize upd U0 d1 (.tup [.str "lot", .str ("lots")]) = U1 at sd1 hd1 ⊢
      have hd0 := sd1 _ _ hd0
      have v0 := v0.trans sd1
      refine ⟨(by show 2 ≤ sizeLine; decide), fun d2 nd2 => ?_⟩
      have sd2 : Same U1 (upd U1 d2 (.tup [.str "lineup", .str ("lots")])) := (Same.refl U1).new nd2
      have hd2 : upd U1 d2 (.tup [.str "lineup", .str ("lots")]) d2 = some (.tup [.str "lineup", .str ("lots")]) := upd_same
      generalize upd U1 d2 (.tup [.str "lineup", .str ("lots")]) = U2 at sd2 hd2 ⊢
      have hd0 := sd2 _ _ hd0
      have hd1 := sd2 _ _ hd1
      have v0 := v0.trans sd2
      refine ⟨_, rfl, _, rfl, log_n l8, (by show 2 ≤ sizeLine; decide), fun d3 nd3 => ?_⟩
      have sd3 : Same U2 (upd U2 d3 (.tup [.str "bar", .str (toString ((ls.length : Nat) : Int))])) := (Same.refl U2).new nd3
      have hd3 : upd U2 d3 (.tup [.str "bar", .str (toString ((ls.length : Nat) : Int))]) d3 = some (.tup [.str "bar", .str (toString ((ls.length : Nat) : Int))]) := upd_same
      generalize upd U2 d3 (.tup [.str "bar", .str (toString ((ls.length : Nat) : Int))]) = U3 at sd3 hd3 ⊢
      have hd0 := sd3 _ _ hd0
      have hd1 := sd3 _ _ hd1
      have hd2 := sd3 _ _ hd2
      have v0 := v0.trans sd3
      refine ⟨(by show 2 ≤ sizeLine; decide), fun d4 nd4 => ?_⟩
      have sd4 : Same U3 (upd U3 d4 (.tup [.str "bar", .str ("-1")])) := (Same.refl U3).new nd4
      have hd4 : upd U3 d4 (.tup [.str "bar", .str ("-1")]) d4 = some (.tup [.str "bar", .str ("-1")]) := upd_same
      generalize upd U3 d4 (.tup [.str "bar", .str ("-1")]) = U4 at sd4 hd4 ⊢
      have hd0 := sd4 _ _ hd0
      have hd1 := sd4 _ _ hd1
      have hd2 := sd4 _ _ hd2
      have hd3 := sd4 _ _ hd3
      have v0 := v0.trans sd4
      refine ⟨(by show 2 ≤ sizeLine; decide), fun d5 nd5 => ?_⟩
      have sd5 : Same U4 (upd U4 d5 (.tup [.str "twice", .str ("0")])) := (Same.refl U4).new nd5
      have hd5 : upd U4 d5 (.tup [.str "twice", .str ("0")]) d5 = some (.tup [.str "twice", .str ("0")]) := upd_same
      generalize upd U4 d5 (.tup [.str "twice", .str ("0")]) = U5 at sd5 hd5 ⊢
      have hd0 := sd5 _ _ hd0
      have hd1 := sd5 _ _ hd1
      have hd2 := sd5 _ _ hd2
      have hd3 := sd5 _ _ hd3
      have hd4 := sd5 _ _ hd4
      have v0 := v0.trans sd5
      refine ⟨(by show 2 ≤ sizeLine; decide), fun d6 nd6 => ?_⟩
      have sd6 : Same U5 (upd U5 d6 (.tup [.str "twice", .str ("2")])) := (Same.refl U5).new nd6
      have hd6 : upd U5 d6 (.tup [.str "twice", .str ("2")]) d6 = some (.tup [.str "twice", .str ("2")]) := upd_same
      generalize upd U5 d6 (.tup [.str "twice", .str ("2")]) = U6 at sd6 hd6 ⊢
      have hd0 := sd6 _ _ hd0
      have hd1 := sd6 _ _ hd1
      have hd2 := sd6 _ _ hd2
      have hd3 := sd6 _ _ hd3
      have hd4 := sd6 _ _ hd4
      have hd5 := sd6 _ _ hd5
      have v0 := v0.trans sd6
      refine ⟨(by show 7 ≤ sizeLine; decide), fun dd ndd => ?_⟩
      have sdd : Same U6 (upd U6 dd (.lst [.ref d0, .ref d1, .ref d2, .ref d3, .ref d4, .ref d5, .ref d6])) := (Same.refl U6).new ndd
      have hdd : upd U6 dd (.lst [.ref d0, .ref d1, .ref d2, .ref d3, .ref d4, .ref d5, .ref d6]) dd = some (.lst [.ref d0, .ref d1, .ref d2, .ref d3, .ref d4, .ref d5, .ref d6]) := upd_same
      generalize upd U6 dd (.lst [.ref d0, .ref d1, .ref d2, .ref d3, .ref d4, .ref d5, .ref d6]) = UZ at sdd hdd ⊢
      have hd0 := sdd _ _ hd0
      have hd1 := sdd _ _ hd1
      have hd2 := sdd _ _ hd2
      have hd3 := sdd _ _ hd3
      have hd4 := sdd _ _ hd4
      have hd5 := sdd _ _ hd5
      have hd6 := sdd _ _ hd6
      have v0 := v0.trans sdd
      have tdd : TS dd [.ref d0, .ref d1, .ref d2, .ref d3, .ref d4, .ref d5, .ref d6] (dueL ls.length) UZ := ⟨hdd, (.cons ⟨d0, rfl, hd0⟩ (.cons ⟨d1, rfl, hd1⟩ (.cons ⟨d2, rfl, hd2⟩ (.cons ⟨d3, rfl, hd3⟩ (.cons ⟨d4, rfl, hd4⟩ (.cons ⟨d5, rfl, hd5⟩ (.cons ⟨d6, rfl, hd6⟩ .nil)))))))⟩
      have t8 : TS D _ (dueL ls.length) UZ := t7.ext (ExtN.of v0)
      obtain ⟨sh, eq⟩ := due_ok l3 l8
      refine ⟨_, rfl, _, rfl, _, _, ts_dp t8, ts_dp tdd, sh, sh, ?_⟩
      rw [eq]
      exact ⟨_, rfl, iteF ⟨((xG.trans xM).trans x7).trans (ExtN.of v0), b7.ext v0, _, _, _, rfl⟩⟩
    · rintro σ G ⟨xG, tabG, z8, z9, z10, rfl⟩
      exact k G (k040.ext xG) ((rt40.pen.ext xG).mono (by omega)) tabG
end
end K
namespace K
open PySem L2 Rg LamX
open Evl (pss_cut)
structure LL (p la lo : Addr) (ls : List Int) (xs : List V) (ol : List (List Int)) (H : Hp) : Prop where
  hla : H la = some (.lst (ls.map V.int))
  lap : la ≠ p
  l3 : 3 ≤ ls.length
  l8 : ls.length ≤ 8
  bd : Bd 1000000 ls
  hlo : H lo = some (.lst xs)
  lop : lo ≠ p
  px : Paired (LI H) xs ol
  cn : Cn ls.length ol
section
variable {P : Program} {w : World} {K : PySem.W.Frag} {mg : Str → Option Value} {base : Heap}
/-! ### the law -/
abbrev nLW : List Str := ["_law_script", "_law_bench_here", "_law_turn", "_law_many", "_law_lengths_here", "_law_lots"]
theorem scLaw : FnScope nLW ["_law_script"] (defScope sLaw) := ⟨rfl, rfl, rfl, by decide +kernel, rfl, by decide +kernel, by decide +kernel⟩
def spLaw (K : PySem.W.Frag) (T : List (Addr × Str)) : Sp := fun vs H Q _ => ∃ (a : Addr) (ns : List Int), vs = [.ref a] ∧ SqL K H a (ns.map V.int) ∧ ns.length ≤ 63 ∧ Tabs T H ∧ ∀ H', Q (.bl true) H'
theorem ok_law {P0 P1 f fP fLn fK fPT fSR fRR : Addr} {fd fdP fdLn fdK fdPT fdSR fdRR : FuncData} (F : Fun K "law" "law" sLaw f fd) (T : Bi mg)
    (PN : DefAt P w K mg base CX0 2 "_law_bench" ["_law_script"] (spPen K) fP fdP) (LN : DefAt P w K mg base CX0 3 "_law_lengths" ["_law_bench_here", "_law_many"] (spLengths K) fLn fdLn) (PK : DefAt P w K mg base CX0 3 "_law_pick" ["_law_bench_here", "_law_some"] (spPick K) fK fdK)
    (PT : DefAt P w K mg base CX0 4 "_law_parting" ["_law_bench_here", "_law_many"] (spPT K) fPT fdPT)
    (SR : DefAtG P w K mg base CX0 10 "_law_signs_right" ["_law_bench_here", "_law_lengths_here", "_law_lots"] (spSR K (T2 P0 P1)) fSR fdSR) (RR : DefAt P w K mg base CX0 12 "_law_refused_right" ["_law_bench_here", "_law_lengths_here", "_law_lots"] (spRR K (T2 P0 P1)) fRR fdRR) :
    FnG P w K mg base CX0 13 f fd ["_law_script"] (spLaw K (T2 P0 P1)) := by
  refine F.okG scLaw (fun vs H Q E h => ?_) (fun cdv A outer s H vs Q E ga hr h => ?_)
  · obtain ⟨a, ns, rfl, _⟩ := h
    rfl
  · have nd := scLaw.nd
    have gX : (A.deeper (PyProof.Rows.envOfC "law" (defScope sLaw) s.heap.objs.size f cdv)).guards = some [] := ga
    refine ⟨_, (pss_cons (ps_set (i := 1) nd rfl (Or.inl rfl) (pe_call PN.ok (hr.mono (by decide)) rfl PN.g PN.kp PN.b .nil pass0 (pa_cons (pv 0) pa_nil)))
      (pss_cons (ps_for PassesOwn.never rfl (pi_range1 (by rfl) T.range (pa_cons pe_int pa_nil)) (pg_name (i := 2) nd rfl (Or.inl rfl))
        (pss_cons (ps_set (i := 3) nd rfl (Or.inl rfl) (pe_call PK.ok (hr.mono (by decide)) rfl PK.g PK.kp PK.b .nil pass0 (pa_cons (pv 1) (pa_cons (pe_lst (pa_cons pe_int (pa_cons pe_int (pa_cons pe_int (pa_cons pe_int (pa_cons pe_int (pa_cons pe_int (pa_cons pe_int pa_nil)))))))) pa_nil))))
        (pss_cons (ps_par (i := 4) (j := 5) (by rfl) nd rfl rfl (by decide) rfl rfl (pa_cons (pe_call LN.ok (hr.mono (by decide)) rfl LN.g LN.kp LN.b .nil pass0 (pa_cons (pv 1) (pa_cons (pv 3) pa_nil))) (pa_cons (pe_call PT.ok (hr.mono (by decide)) rfl PT.g PT.kp PT.b .nil pass0 (pa_cons (pv 1) (pa_cons (pv 3) pa_nil))) pa_nil)) (by rfl))
        (pss_one (ps_if (pt_not (pt_val (pe_callG SR.ok gX (hr.mono (by decide)) rfl SR.g SR.kp SR.b .nil pass0 (pa_cons (pv 1) (pa_cons (pv 4) (pa_cons (pv 5) pa_nil)))))) (pss_one ps_never) pss_nil)))))
      (pss_one (ps_ret (pe_call RR.ok (hr.mono (by decide)) rfl RR.g RR.kp RR.b .nil pass0 (pa_cons (pv 1) (pa_cons (pv 4) (pa_cons (pv 5) pa_nil)))))))), ?_⟩
    obtain ⟨a, ns, rfl, hs, hl, tab, q⟩ := h
    refine ⟨_, rfl, a, ns, rfl, hs, hl, fun p e H1 s1 np pen1 => ?_⟩
    have tab1 := tab.ext s1
    refine ⟨_, rfl, by decide, by decide, ?_⟩
    refine for_range (lo := 0) (n := (3 : Int).toNat) (fun i σ H' => PenAt K H' p e (i * 150) ∧ Tabs (T2 P0 P1) H' ∧ ∃ z2 z3 z4 z5 : Option V, σ = [some (.ref a), some (.ref p), z2, z3, z4, z5] ∧ (0 < i → ∃ (la lo : Addr) (ls : List Int) (xs : List V) (ol : List (List Int)), z4 = some (.ref la) ∧ z5 = some (.ref lo) ∧ LL p la lo ls xs ol H'))
      ⟨by simpa using pen1, tab1, _, _, _, _, rfl, fun z => absurd z (Nat.lt_irrefl _)⟩ ?_ ?_
    · rintro i σ H1 hi ⟨pen1, tab1, z2, z3, z4, z5, rfl, _⟩
      have hi3 : i < 3 := hi
      refine ⟨_, rfl, (by show 7 ≤ sizeLine; decide), fun u nu => ?_⟩
      have npu := pen1.ne nu
      have s2 : Same H1 (upd H1 u (.lst [.int 3, .int 4, .int 5, .int 5, .int 6, .int 7, .int 8])) := (Same.refl H1).new nu
      have hu : upd H1 u (.lst [.int 3, .int 4, .int 5, .int 5, .int 6, .int 7, .int 8]) u = some (.lst [.int 3, .int 4, .int 5, .int 5, .int 6, .int 7, .int 8]) := upd_same
      generalize upd H1 u (.lst [.int 3, .int 4, .int 5, .int 5, .int 6, .int 7, .int 8]) = H2 at s2 hu ⊢
      have pen2 := pen1.same s2
      refine ⟨p, u, e, _, _, rfl, SqL.of hu, npu, (by show 1 ≤ 7; decide), (by show 7 ≤ 1000; decide), by omega, pen2, fun i0 v0 H3 hv0 b3 pen3 => ?_⟩
      obtain ⟨px2, hp2⟩ := pen2.some
      have tab3 := tabs_but (tab1.ext s2) b3 hp2
      obtain ⟨m, rfl, m3, m8⟩ : ∃ m : Nat, v0 = .int (m : Nat) ∧ 3 ≤ m ∧ m ≤ 8 := by
        have hm := List.mem_of_getElem? hv0
        simp only [List.mem_cons, List.not_mem_nil, or_false] at hm
        rcases hm with z | z | z | z | z | z | z
        · exact ⟨3, z, by decide, by decide⟩
        · exact ⟨4, z, by decide, by decide⟩
        · exact ⟨5, z, by decide, by decide⟩
        · exact ⟨5, z, by decide, by decide⟩
        · exact ⟨6, z, by decide, by decide⟩
        · exact ⟨7, z, by decide, by decide⟩
        · exact ⟨8, z, by decide, by decide⟩
      refine ⟨_, rfl, _, rfl, p, e, m, _, rfl, m3, m8, by omega, pen3, fun la ls H4 ll bd nl b4 hl4 pen4 => ?_⟩
      obtain ⟨px3, hp3⟩ := pen3.some
      have tab4 := tabs_but tab3 b4 hp3
      have lap := pen3.ne nl
      refine ⟨_, rfl, _, rfl, p, e, m, _, rfl, m3, m8, by omega, pen4, fun lo xs ol H5 nlo hlo5 px5 ne hd pm b5 pen5 => ?_⟩
      obtain ⟨px4, hp4⟩ := pen4.some
      have tab5 := tabs_but tab4 b5 hp4
      have lop := pen4.ne nlo
      refine ⟨_, _, rfl, ?_⟩
      have cn : Cn ls.length ol := by
        rw [ll]
        exact ⟨fun l h => (ne l h).1, fun l h => (ne l h).2, hd, pm⟩
      have l3 : 3 ≤ ls.length := by omega
      have l8 : ls.length ≤ 8 := by omega
      have hla5 := b5 _ _ lap hl4
      refine ⟨_, rfl, _, rfl, _, rfl, p, la, lo, e, ls, xs, ol, _, rfl, hla5, lap, l3, l8, bd, hlo5, lop, px5, cn, by omega, pen5, tab5, fun H6 k6 pen6 tab6 => ⟨_, rfl, iteF ?_⟩⟩
      refine ⟨pen6.mono (by omega), tab6, _, _, _, _, rfl, fun _ => ⟨la, lo, ls, xs, ol, rfl, rfl, k6.lst lap hla5, lap, l3, l8, bd, k6.lst lop hlo5, lop, par_imp (fun _ _ z => LI.kp z pen5 k6) px5, cn⟩⟩
    · rintro σ H' ⟨pen, tab, z2, z3, z4, z5, rfl, z⟩
      obtain ⟨la, lo, ls, xs, ol, rfl, rfl, L⟩ := z (by decide)
      exact ⟨_, rfl, _, rfl, _, rfl, p, la, lo, e, ls, xs, ol, _, rfl, L.hla, L.lap, L.l3, L.l8, L.bd, L.hlo, L.lop, L.px, L.cn, by decide, pen, tab, fun H' _ _ _ => q H'⟩
end
end K
/-! the head by one kernel run, with the empty tables of the makers behind the written part -/
namespace K
open PySem
def tabF (ts : List Addr) : PySem.W.Frag := ts.map fun P => (P, PySem.W.tabObj #[])
theorem tabF_fst : ∀ ts : List Addr, (tabF ts).map (·.1) = ts
  | [] => rfl
  | P :: ts => congrArg (P :: ·) (tabF_fst ts)
theorem tabF_at : ∀ {ts : List Addr} {P : Addr}, P ∈ ts → List.lookup P (tabF ts) = some (PySem.W.tabObj #[])
  | Q :: ts, P, h => by
    show List.lookup P ((Q, PySem.W.tabObj #[]) :: tabF ts) = _
    rw [List.lookup_cons]
    by_cases c : P = Q
    · rw [c]
      simp
    · rw [show (P == Q) = false from beq_eq_false_iff_ne.mpr c]
      exact tabF_at ((List.mem_cons.mp h).resolve_left c)
section
variable {K : Params → PySem.W.Frag} {as ts : List Addr} {e : ∀ P, as ++ ts = (K P ++ tabF ts).map (·.1)} {w : World} {h : Heap}
theorem kk_in_of (Y : (PySem.W.kHook (fun P => K P ++ tabF ts) (as ++ ts) e).says w h) : (K w.params).In h := fun a o q => (show (K w.params ++ tabF ts).In h from Y) a o (by
  show List.lookup a (K w.params ++ tabF ts) = _
  rw [List.lookup_append, show List.lookup a (K w.params) = some o from q]
  rfl)
theorem kk_out_of (_ : (PySem.W.kHook (fun P => K P ++ tabF ts) (as ++ ts) e).says w h) {P : Addr} (hP : P ∉ as) : (K w.params).lookup P = none := by
  have q := e w.params
  rw [List.map_append, tabF_fst] at q
  have q2 : as = (K w.params).map (·.1) := List.append_cancel_right q
  show List.lookup P (K w.params) = none
  rw [q2] at hP
  clear q q2
  generalize K w.params = l at hP
  induction l with
  | nil => rfl
  | cons x l ih =>
    obtain ⟨a, o⟩ := x
    rw [List.lookup_cons]
    rw [List.map_cons] at hP
    rw [show (P == a) = false from beq_eq_false_iff_ne.mpr fun z => hP (by rw [z]; exact List.mem_cons_self ..)]
    exact ih fun z => hP (List.mem_cons_of_mem _ z)
theorem kk_tabs_of (Y : (PySem.W.kHook (fun P => K P ++ tabF ts) (as ++ ts) e).says w h) {P : Addr} (hP : P ∈ ts) (hn : P ∉ as) : h.get? P = some (PySem.W.tabObj #[]) := (show (K w.params ++ tabF ts).In h from Y) P _ (by
  show List.lookup P (K w.params ++ tabF ts) = _
  rw [List.lookup_append, show List.lookup P (K w.params) = none from kk_out_of Y hn, tabF_at hP]
  rfl)
end
end K
/-! the head by three kernel runs: the looks, the view (law alone), the written part -/
namespace K
open PySem PySem.W PySem.Calls PyProof.Rows HeadRun
def lo52_0 : List PySem.Str := ["_wall", "__name__", "fixed", "Paper", "Denial", "are_equal", "is_called", "__name__", "is_integer", "is_within", "is_list", "is_numbers", "is_exactly", "first_twice", "twice_at", "__name__", "RingError", "BadRing", "BadLot", "BadLineUp", "Misfit", "Missing", "NoBar", "Twice", "TooMany", "BadText", "__name__", "want_bar", "want_lot", "want_lots", "want_as_many", "__name__"]
def lo52_1 : List PySem.Str := ["MOST_DIGITS", "items_of", "integer_of", "item_at", "number_at", "__name__", "LEAST_BARS", "MOST_BARS", "MOST_LENGTH", "Ring", "are_lengths", "has_level", "read_ring", "want_ring", "__name__", "LineUp", "are_strands", "is_strand", "as_strand", "lineup_items", "item_of", "read_lineup", "pairs_next", "__name__", "Nets", "TooGreat", "Signs", "NoSigns", "can_line", "with_signs", "nets_of", "too_great"]
def lo52_2 : List PySem.Str := ["is_had", "first_signs", "choices", "with_sign", "want_lineup", "want_lined", "want_parted", "__name__", "shows_signs", "__name__", "_law_bench", "_law_draw", "_law_pick", "_law_mixed", "_law_lengths", "_law_parting", "_law_is_had", "_law_choices", "_law_great", "_law_signs_right", "_law_heard", "_law_refused_right"]
def lo52 : List PySem.Str := lo52_0 ++ lo52_1 ++ lo52_2
abbrev rr52 : OpenRow := OpenLaw.row PySem.Challenge.rw_ringbars_k52_signs_for_told_lots
abbrev qv52 : Program := view rr52.prog [86]
def topD (p : Program) (i : Nat) : DefRec := match p.main.body[i]? with
  | some (.FunctionDef n a b _ _ _ sc _ _ pos) => ⟨n, a, b, sc, pos⟩
  | _ => ⟨"law", ⟨[], [], none, [], [], none, []⟩, [], ⟨.function, [], false, false, []⟩, default⟩
abbrev d52 : DefRec := topD rr52.prog 86
theorem d52_name : d52.name = ("law" : PySem.Str) := by kernel_rfl
theorem seen52 (w : World) (os : OsState) : (endF (stepQ (denQ tabQ) rr52.prog w) 14736 rr52.prog w os).map (fun s => seenQ qv52 lo52 (importedModules rr52.prog.main.body) (fun s => xlAt qv52 [] s && recOk (RowW.records rr52.toRowW) s) s.abs) = some (openGood qv52 lo52) := by kernel_rfl
theorem looks52 (w : World) (os : OsState) : (endF (stepQ (denQ tabQ) rr52.prog w) 14736 rr52.prog w os).map (fun s => looksF rr52.prog (boot_heap w.params) s.abs) = some true := by kernel_rfl
theorem map3 {α β γ δ : Type} {o : Option α} {A : α → β} {B : α → γ} {C : α → δ} {a : β} {b : γ} {c : δ} (h1 : o.map A = some a) (h2 : o.map B = some b) (h3 : o.map C = some c) : o.map (fun s => (A s, B s, C s)) = some (a, b, c) := by
  cases o with
  | none => cases h1
  | some x =>
    cases h1
    cases h2
    cases h3
    rfl
section
variable {Kf : Params → Frag} {as ts : List Addr}
theorem left52 (e : ∀ P, as ++ ts = (Kf P ++ tabF ts).map (·.1)) (ob : ∀ (w : World) (os : OsState), (endF (stepQ (denQ tabQ) rr52.prog w) 14736 rr52.prog w os).map (fun s => (as ++ ts).map (getT s)) = some ((Kf w.params ++ tabF ts).map fun x => some x.2)) :
    LeftO rr52.prog qv52 lo52 (fun s => xlAt qv52 [] s && recOk (RowW.records rr52.toRowW) s) (Hook.obs (kHook (fun P => Kf P ++ tabF ts) (as ++ ts) e)) (Hook.val (kHook (fun P => Kf P ++ tabF ts) (as ++ ts) e)) 15436 true :=
  left_oneK (M := 14736) (by kernel_rfl) (by rfl) (fun s => by kernel_rfl) (by rfl) fun w os => map3 (looks52 w os) (seen52 w os) (ob w os)
theorem head52 (e : ∀ P, as ++ ts = (Kf P ++ tabF ts).map (·.1)) (ob : ∀ (w : World) (os : OsState), (endF (stepQ (denQ tabQ) rr52.prog w) 14736 rr52.prog w os).map (fun s => (as ++ ts).map (getT s)) = some ((Kf w.params ++ tabF ts).map fun x => some x.2))
    (hw : rr52.toRowW.promised) (call : WalkO qv52 lo52 (XL qv52 []) (Hook.says (kHook (fun P => Kf P ++ tabF ts) (as ++ ts) e)) rr52.toRowW d52 [] fun f vs => PySem.call f vs) : rr52.Holds :=
  holds_open (r := rr52) (q := qv52) (loose := lo52) (XP := XL qv52 []) (YP := Hook.says (kHook (fun P => Kf P ++ tabF ts) (as ++ ts) e)) (d := d52) (kwd := []) (left52 e ob) (Hook.of _) (Hook.keeps _) (fun s z => xl_of s (Bool.and_eq_true_iff.mp z).1) XL.keeps (by kernel_rfl) (by kernel_rfl) (by kernel_rfl) (fun s z => recFacts_of (Bool.and_eq_true_iff.mp z).2) (by kernel_rfl) (by first | assumption | decide +kernel) (by decide +kernel) ⟨rfl, rfl, rfl, rfl, rfl, by decide +kernel⟩ hw call
end
end K
namespace K
open PySem L2 Rg LamX
theorem kb_lr {K : PySem.W.Frag} {fd : FuncData} (h : ∀ (a b : Value) (s : Shared), BindsTo s fd ⟨[], [("lots", a), ("ring", b)]⟩ [("ring", b), ("lots", a)]) : KBinds K fd ["ring", "lots"] ["lots", "ring"] gK2 gK2 := by
  refine ⟨fun s us ws _ hl => ?_, fun {vs us zs ws} r1 r2 => ?_⟩
  · match us, ws, hl with
    | [], [a, b], _ => exact h a b s
  · cases r1 with
    | nil =>
      cases r2 with
      | nil => exact .nil
      | cons x t =>
        cases t with
        | nil => exact .nil
        | cons y t2 =>
          cases t2 with
          | nil => exact .cons y (.cons x .nil)
          | cons _ _ => exact .nil
    | cons _ _ => exact .nil
theorem kb_vlr {K : PySem.W.Frag} {fd : FuncData} (h : ∀ (v a b : Value) (s : Shared), BindsTo s fd ⟨[], [("value", v), ("lots", a), ("ring", b)]⟩ [("ring", b), ("lots", a), ("value", v)]) : KBinds K fd ["ring", "lots", "value"] ["value", "lots", "ring"] gK3 gK3 := by
  refine ⟨fun s us ws _ hl => ?_, fun {vs us zs ws} r1 r2 => ?_⟩
  · match us, ws, hl with
    | [], [v, a, b], _ => exact h v a b s
  · cases r1 with
    | nil =>
      cases r2 with
      | nil => exact .nil
      | cons x t =>
        cases t with
        | nil => exact .nil
        | cons y t2 =>
          cases t2 with
          | nil => exact .nil
          | cons z t3 =>
            cases t3 with
            | nil => exact .cons z (.cons y (.cons x .nil))
            | cons _ _ => exact .nil
    | cons _ _ => exact .nil
theorem kbn_two {K : PySem.W.Frag} {fd : FuncData} (h : ∀ (a b : Value) (s : Shared), BindsTo s fd ⟨[a], [("lineup", b)]⟩ [("self", a), ("lineup", b)]) : KBn K fd ["self", "lineup"] 1 ["lineup"] gM2 gM2 := by
  refine ⟨fun s us ws _ h1 h2 => ?_, fun {vs us zs ws} r1 r2 => ?_⟩
  · match us, ws, h1, h2 with
    | [a], [b], _, _ => exact h a b s
  · cases r1 with
    | nil => cases r2 <;> exact .nil
    | cons x t =>
      cases t with
      | nil =>
        cases r2 with
        | nil => exact .nil
        | cons y t2 =>
          cases t2 with
          | nil => exact .cons x (.cons y .nil)
          | cons _ _ => exact .nil
      | cons _ _ => exact .nil
section
variable {P : Program} {w : World} {K : PySem.W.Frag} {mg : Str → Option Value} {base : Heap}
theorem scBadRing : FnScope ["self", "part"] ["self", "part"] (defScope sBadRingInit) := ⟨rfl, rfl, rfl, by decide +kernel, rfl, by decide +kernel, by decide +kernel⟩
theorem ok_badRingI {f : Addr} {fd : FuncData} (F : Fun K "__init__" "BadRing.__init__" sBadRingInit f fd) : FnOk P w K mg base CX0 1 f fd ["self", "part"] (spIni K "part") := by
  refine F.ok scBadRing (fun vs H Q E h => ?_) (fun cdv A outer s H vs Q E hr h => ?_)
  · obtain ⟨a, C, v, rfl, _⟩ := h
    rfl
  · refine ⟨_, pss_one (ps_ost (pv 0) (pv 1)), ?_⟩
    obtain ⟨a, C, v, rfl, o, n, ha, k⟩ := h
    exact ⟨_, rfl, _, rfl, a, C, rfl, o, n, .inl ⟨ha, fun d h1 h2 => k d h1 h2⟩⟩
theorem scBadLineUp : FnScope ["self", "part"] ["self", "part"] (defScope sBadLineUpInit) := ⟨rfl, rfl, rfl, by decide +kernel, rfl, by decide +kernel, by decide +kernel⟩
theorem ok_badLineUpI {f : Addr} {fd : FuncData} (F : Fun K "__init__" "BadLineUp.__init__" sBadLineUpInit f fd) : FnOk P w K mg base CX0 1 f fd ["self", "part"] (spIni K "part") := by
  refine F.ok scBadLineUp (fun vs H Q E h => ?_) (fun cdv A outer s H vs Q E hr h => ?_)
  · obtain ⟨a, C, v, rfl, _⟩ := h
    rfl
  · refine ⟨_, pss_one (ps_ost (pv 0) (pv 1)), ?_⟩
    obtain ⟨a, C, v, rfl, o, n, ha, k⟩ := h
    exact ⟨_, rfl, _, rfl, a, C, rfl, o, n, .inl ⟨ha, fun d h1 h2 => k d h1 h2⟩⟩
theorem scMisfit : FnScope ["self", "part"] ["self", "part"] (defScope sMisfitInit) := ⟨rfl, rfl, rfl, by decide +kernel, rfl, by decide +kernel, by decide +kernel⟩
theorem ok_misfitI {f : Addr} {fd : FuncData} (F : Fun K "__init__" "Misfit.__init__" sMisfitInit f fd) : FnOk P w K mg base CX0 1 f fd ["self", "part"] (spIni K "part") := by
  refine F.ok scMisfit (fun vs H Q E h => ?_) (fun cdv A outer s H vs Q E hr h => ?_)
  · obtain ⟨a, C, v, rfl, _⟩ := h
    rfl
  · refine ⟨_, pss_one (ps_ost (pv 0) (pv 1)), ?_⟩
    obtain ⟨a, C, v, rfl, o, n, ha, k⟩ := h
    exact ⟨_, rfl, _, rfl, a, C, rfl, o, n, .inl ⟨ha, fun d h1 h2 => k d h1 h2⟩⟩
theorem scPBT : FnScope ["self"] ["self"] (defScope sPaperBool) := ⟨rfl, rfl, rfl, by decide +kernel, rfl, by decide +kernel, by decide +kernel⟩
theorem ok_PBT {f : Addr} {fd : FuncData} (F : Fun K "__bool__" "Paper.__bool__" sPaperBool f fd) : FnOk P w K mg base CX0 1 f fd ["self"] (fun vs H Q _ => ∃ v, vs = [v] ∧ Q (.bl true) H) := by
  refine F.ok scPBT (fun vs H Q E h => ?_) (fun cdv A outer s H vs Q E hr h => ?_)
  · obtain ⟨v, rfl, _⟩ := h
    rfl
  · refine ⟨_, (pss_one (ps_ret pe_bl)), ?_⟩
    obtain ⟨v, rfl, q⟩ := h
    exact q
theorem scPBF : FnScope ["self"] ["self"] (defScope sDenialBool) := ⟨rfl, rfl, rfl, by decide +kernel, rfl, by decide +kernel, by decide +kernel⟩
theorem ok_PBF {f : Addr} {fd : FuncData} (F : Fun K "__bool__" "Denial.__bool__" sDenialBool f fd) : FnOk P w K mg base CX0 1 f fd ["self"] (fun vs H Q _ => ∃ v, vs = [v] ∧ Q (.bl false) H) := by
  refine F.ok scPBF (fun vs H Q E h => ?_) (fun cdv A outer s H vs Q E hr h => ?_)
  · obtain ⟨v, rfl, _⟩ := h
    rfl
  · refine ⟨_, (pss_one (ps_ret pe_bl)), ?_⟩
    obtain ⟨v, rfl, q⟩ := h
    exact q
theorem ok_wgf {CR CL CM CO cR cL : Addr} {c : Cs} {f : Addr} {fd : FuncData} (F : FnOk P w K mg base (L2.CX P w) 8 f fd ["ring", "lots"] (spWG K CR CL CM CO cR c cL)) : FnOk P w K mg base (L2.CX P w) 9 f fd ["ring", "lots"] (spRF K CR cR c cL) :=
  (F.mono (by decide)).imp fun vs H Q E ⟨v, u, e, z⟩ => ⟨v, u, e, AskP.imp z fun _ _ _ q => q.elim⟩
theorem ok_sgf {CR CL CM CO cR cL : Addr} {c : Cs} {f : Addr} {fd : FuncData} (F : FnOk P w K mg base (L2.CX P w) 8 f fd ["ring", "lots", "value"] (spSG K CR CL CM CO cR c cL)) : FnOk P w K mg base (L2.CX P w) 8 f fd ["ring", "lots", "value"] (spSF K CR cR c cL) :=
  F.imp fun vs H Q E ⟨v, u, x, e, z⟩ => ⟨v, u, x, e, AskP.imp z fun _ _ _ q => q.elim⟩
end
theorem code_hd {K : PySem.W.Frag} {c P : Addr} {o : Obj} (l : K.lookup c = some o) (h : PySem.W.codeHdIn [(c, o)] c P = true) : PySem.W.codeHdIn K c P = true := by
  have e : List.lookup c [(c, o)] = some o := by simp [List.lookup]
  unfold PySem.W.codeHdIn at h ⊢
  rw [e] at h
  rw [l]
  exact h
theorem lookup_out {K : PySem.W.Frag} {P : Addr} : ∀ {as : List Addr}, as = K.map (·.1) → P ∉ as → K.lookup P = none := by
  intro as e h
  subst e
  induction K with
  | nil => rfl
  | cons x r ih =>
    obtain ⟨a, o⟩ := x
    rw [List.map_cons, List.mem_cons, not_or] at h
    have hne : (P == a) = false := by simpa using h.1
    rw [List.lookup_cons, hne]
    exact ih h.2
theorem out_of {K : Params → PySem.W.Frag} {as : List Addr} {e : ∀ P, as = (K P).map (·.1)} {ts : List Addr} {w : World} {h : Heap} (_ : (PySem.W.kmHook K as e ts).says w h) {P : Addr} (hP : P ∉ as) : (K w.params).lookup P = none := lookup_out (e w.params) hP


theorem all_mk {oM oO : Obj} {fileEN fileEG fileEM fileEO : Str} {l : PySem.W.OpenLaw} {w : World} {K : PySem.W.Frag} {h : Heap} {mg : Str → Option Value} {fa : Addr} (X : K.In h) (G : h.Ns mainGlobals mg) (hfa : mg "law" = some (.ref fa))
    {C CL CN CG CM CO eX eR eL eN eT eU eM f0 f1 f2 f3 f4 f5 f6 f7 f8 f9 f10 f11 f12 f13 f14 f15 f16 f17 f18 f19 f20 f21 f22 f23 f24 f25 f26 f27 f28 f29 f30 f31 f32 f33 f34 f35 f36 f37 f38 f39 cCO f40 f41 f42 f43 cRR f44 fm0 fm1 fm2 fm3 fm4 fm5 fm6 fm7 fm8 fm9 fm10 fm11 fm12 fm13 fm14 fm15 P1 P2 Pa fPi fEN ccEN cEN fEG ccEG cEG fEM ccEM cEM fEO ccEO cEO : Addr} {od0 an0 od1 an1 od2 an2 od3 an3 od4 an4 od5 an5 od6 an6 od7 an7 od8 an8 od9 an9 od10 an10 od11 an11 od12 an12 od13 an13 od14 an14 od15 an15 od16 an16 od17 an17 od18 an18 od19 an19 od20 an20 od21 an21 od22 an22 od23 an23 od24 an24 od25 an25 od26 an26 od27 an27 od28 an28 od29 an29 od30 an30 od31 an31 od32 an32 od33 an33 od34 an34 od35 an35 od36 an36 od37 an37 od38 an38 od39 an39 od40 an40 od41 an41 od42 an42 od43 an43 od44 an44 odm0 anm0 odm1 anm1 odm2 anm2 odm3 anm3 odm4 anm4 odm5 anm5 odm6 anm6 odm7 anm7 odm8 anm8 odm9 anm9 odm10 anm10 odm11 anm11 odm12 anm12 odm13 anm13 odm14 anm14 odm15 anm15 odc1 odc2 odP anP odEN anEN cddEN kcdEN odEG anEG cddEG kcdEG odEM anEM cddEM kcdEM odEO anEO cddEO kcdEO : Option Addr} {sl0 sl1 sl2 sl3 sl4 sl5 sl6 sl7 sl8 sl9 sl10 sl11 sl12 sl13 sl14 sl15 sl16 sl17 sl18 sl19 sl20 sl21 sl22 sl23 sl24 sl25 sl26 sl27 sl28 sl29 sl30 sl31 sl32 sl33 sl34 sl35 sl36 sl37 sl38 sl39 sl40 sl41 sl42 sl43 sl44 slm0 slm1 slm2 slm3 slm4 slm5 slm6 slm7 slm8 slm9 slm10 slm11 slm12 slm13 slm14 slm15 slc1 slc2 slP slEN ccsEN kcsEN slEG ccsEG kcsEG slEM ccsEM kcsEM slEO ccsEO kcsEO : Array (Option Value)} {oc0 kV0 dc0 pm0 ct0 cd0 oc1 kV1 dc1 pm1 ct1 cd1 oc2 kV2 dc2 pm2 ct2 cd2 oc3 kV3 dc3 pm3 ct3 cd3 oc4 kV4 dc4 pm4 ct4 cd4 oc5 kV5 dc5 pm5 ct5 cd5 oc6 kV6 dc6 pm6 ct6 cd6 oc7 kV7 dc7 pm7 ct7 cd7 oc8 kV8 dc8 pm8 ct8 cd8 oc9 kV9 dc9 pm9 ct9 cd9 oc10 kV10 dc10 pm10 ct10 cd10 oc11 kV11 dc11 pm11 ct11 cd11 oc12 kV12 dc12 pm12 ct12 cd12 oc13 kV13 dc13 pm13 ct13 cd13 oc14 kV14 dc14 pm14 ct14 cd14 oc15 kV15 dc15 pm15 ct15 cd15 oc16 kV16 dc16 pm16 ct16 cd16 oc17 kV17 dc17 pm17 ct17 cd17 oc18 kV18 dc18 pm18 ct18 cd18 oc19 kV19 dc19 pm19 ct19 cd19 oc20 kV20 dc20 pm20 ct20 cd20 oc21 kV21 dc21 pm21 ct21 cd21 oc22 kV22 dc22 pm22 ct22 cd22 oc23 kV23 dc23 pm23 ct23 cd23 oc24 kV24 dc24 pm24 ct24 cd24 oc25 kV25 dc25 pm25 ct25 cd25 oc26 kV26 dc26 pm26 ct26 cd26 oc27 kV27 dc27 pm27 ct27 cd27 oc28 kV28 dc28 pm28 ct28 cd28 oc29 kV29 dc29 pm29 ct29 cd29 oc30 kV30 dc30 pm30 ct30 cd30 oc31 kV31 dc31 pm31 ct31 cd31 oc32 kV32 dc32 pm32 ct32 cd32 oc33 kV33 dc33 pm33 ct33 cd33 oc34 kV34 dc34 pm34 ct34 cd34 oc35 kV35 dc35 pm35 ct35 cd35 oc36 kV36 dc36 pm36 ct36 cd36 oc37 kV37 dc37 pm37 ct37 cd37 oc38 kV38 dc38 pm38 ct38 cd38 oc39 kV39 dc39 pm39 ct39 oc40 kV40 dc40 pm40 ct40 cd40 oc41 kV41 dc41 pm41 ct41 cd41 oc42 kV42 dc42 pm42 ct42 cd42 oc43 kV43 dc43 pm43 ct43 oc44 kV44 dc44 pm44 ct44 cd44 ocm0 kVm0 dcm0 pmm0 ctm0 cdm0 ocm1 kVm1 dcm1 pmm1 ctm1 cdm1 ocm2 kVm2 dcm2 pmm2 ctm2 cdm2 ocm3 kVm3 dcm3 pmm3 ctm3 cdm3 ocm4 kVm4 dcm4 pmm4 ctm4 cdm4 ocm5 kVm5 dcm5 pmm5 ctm5 cdm5 ocm6 kVm6 dcm6 pmm6 ctm6 cdm6 ocm7 kVm7 dcm7 pmm7 ctm7 cdm7 ocm8 kVm8 dcm8 pmm8 ctm8 cdm8 ocm9 kVm9 dcm9 pmm9 ctm9 cdm9 ocm10 kVm10 dcm10 pmm10 ctm10 cdm10 ocm11 kVm11 dcm11 pmm11 ctm11 cdm11 ocm12 kVm12 dcm12 pmm12 ctm12 cdm12 ocm13 kVm13 dcm13 pmm13 ctm13 cdm13 ocm14 kVm14 dcm14 pmm14 ctm14 cdm14 ocm15 kVm15 dcm15 pmm15 ctm15 cdm15 ocP kVP dcP pmP cdP ctP ocEN kVEN dcEN pmEN ctEN cclEN kclEN ocEG kVEG dcEG pmEG ctEG cclEG kclEG ocEM kVEM dcEM pmEM ctEM cclEM kclEM ocEO kVEO dcEO pmEO ctEO cclEO kclEO : Value} {tkMOST_LENGTH tkLEAST_BARS tkMOST_BARS tkM tkO tfEN tfEG tfEM tfEO : Tok} {vsc1 vsc2 vsEN vsEG vsEM vsEO : Array Value}
    {nmeR nmeL nmeN nmeT nmeU nmeM qqeR qqeL qqeN qqeT qqeU qqeM : Str} {NeR NeL NeN NeT NeU NeM : Addr} {bseR bseL bseN bseT bseU bseM : List Value} {bmeR bmeL bmeN bmeT bmeU bmeM : List Value} {sneR sneL sneN sneT sneU sneM : List Str} {subeR subeL subeN subeT subeU subeM : List Value} {abeR abeL abeN abeT abeU abeM : Bool} {coleR coleL coleN coleT coleU coleM : Option Bool} {ddeR ddeL ddeN ddeT ddeU ddeM : Option Addr} {k0eR k1eR k2eR k3eR k5eR k0eL k1eL k2eL k3eL k5eL k0eN k1eN k2eN k3eN k5eN k0eT k1eT k2eT k3eT k5eT k0eU k1eU k2eU k3eU k5eU k0eM k1eM k2eM k3eM k5eM : Option Value}
    (aC : PySem.W.nsIn K mainGlobals "Ring" = some (some (.ref C)))
    (aCL : PySem.W.nsIn K mainGlobals "LineUp" = some (some (.ref CL)))
    (aCN : PySem.W.nsIn K mainGlobals "Nets" = some (some (.ref CN)))
    (aCG : PySem.W.nsIn K mainGlobals "TooGreat" = some (some (.ref CG)))
    (aCM : PySem.W.nsIn K mainGlobals "Signs" = some (some (.ref CM)))
    (aCO : PySem.W.nsIn K mainGlobals "NoSigns" = some (some (.ref CO)))
    (aeX : PySem.W.nsIn K mainGlobals "RingError" = some (some (.ref eX)))
    (aeR : PySem.W.nsIn K mainGlobals "BadRing" = some (some (.ref eR)))
    (aeL : PySem.W.nsIn K mainGlobals "BadLot" = some (some (.ref eL)))
    (aeN : PySem.W.nsIn K mainGlobals "NoBar" = some (some (.ref eN)))
    (aeT : PySem.W.nsIn K mainGlobals "Twice" = some (some (.ref eT)))
    (aeU : PySem.W.nsIn K mainGlobals "BadLineUp" = some (some (.ref eU)))
    (aeM : PySem.W.nsIn K mainGlobals "Misfit" = some (some (.ref eM)))
    (a0 : PySem.W.nsIn K mainGlobals "are_equal" = some (some (.ref f0)))
    (l0 : K.lookup f0 = some ⟨oc0, od0, .func (PySem.W.fnOf "are_equal" "are_equal" (defArgs sAreEqual) (defBody sAreEqual) (defScope sAreEqual) .none kV0 dc0 pm0 an0 cd0 ct0), sl0⟩)
    (c0 : PySem.W.codeIn K cd0 "are_equal" = true)
    (k0 : PySem.W.keepIn K (.ref f0) = true)
    (a1 : PySem.W.nsIn K mainGlobals "is_called" = some (some (.ref f1)))
    (l1 : K.lookup f1 = some ⟨oc1, od1, .func (PySem.W.fnOf "is_called" "is_called" (defArgs sIsCalled) (defBody sIsCalled) (defScope sIsCalled) .none kV1 dc1 pm1 an1 cd1 ct1), sl1⟩)
    (c1 : PySem.W.codeIn K cd1 "is_called" = true)
    (k1 : PySem.W.keepIn K (.ref f1) = true)
    (a2 : PySem.W.nsIn K mainGlobals "is_integer" = some (some (.ref f2)))
    (l2 : K.lookup f2 = some ⟨oc2, od2, .func (PySem.W.fnOf "is_integer" "is_integer" (defArgs sIsInteger) (defBody sIsInteger) (defScope sIsInteger) .none kV2 dc2 pm2 an2 cd2 ct2), sl2⟩)
    (c2 : PySem.W.codeIn K cd2 "is_integer" = true)
    (k2 : PySem.W.keepIn K (.ref f2) = true)
    (a3 : PySem.W.nsIn K mainGlobals "is_within" = some (some (.ref f3)))
    (l3 : K.lookup f3 = some ⟨oc3, od3, .func (PySem.W.fnOf "is_within" "is_within" (defArgs sIsWithin) (defBody sIsWithin) (defScope sIsWithin) .none kV3 dc3 pm3 an3 cd3 ct3), sl3⟩)
    (c3 : PySem.W.codeIn K cd3 "is_within" = true)
    (k3 : PySem.W.keepIn K (.ref f3) = true)
    (a4 : PySem.W.nsIn K mainGlobals "is_list" = some (some (.ref f4)))
    (l4 : K.lookup f4 = some ⟨oc4, od4, .func (PySem.W.fnOf "is_list" "is_list" (defArgs sIsList) (defBody sIsList) (defScope sIsList) .none kV4 dc4 pm4 an4 cd4 ct4), sl4⟩)
    (c4 : PySem.W.codeIn K cd4 "is_list" = true)
    (k4 : PySem.W.keepIn K (.ref f4) = true)
    (a5 : PySem.W.nsIn K mainGlobals "is_numbers" = some (some (.ref f5)))
    (l5 : K.lookup f5 = some ⟨oc5, od5, .func (PySem.W.fnOf "is_numbers" "is_numbers" (defArgs sIsNumbers) (defBody sIsNumbers) (defScope sIsNumbers) .none kV5 dc5 pm5 an5 cd5 ct5), sl5⟩)
    (c5 : PySem.W.codeIn K cd5 "is_numbers" = true)
    (k5 : PySem.W.keepIn K (.ref f5) = true)
    (a6 : PySem.W.nsIn K mainGlobals "is_exactly" = some (some (.ref f6)))
    (l6 : K.lookup f6 = some ⟨oc6, od6, .func (PySem.W.fnOf "is_exactly" "is_exactly" (defArgs sIsExactly) (defBody sIsExactly) (defScope sIsExactly) .none kV6 dc6 pm6 an6 cd6 ct6), sl6⟩)
    (c6 : PySem.W.codeIn K cd6 "is_exactly" = true)
    (k6 : PySem.W.keepIn K (.ref f6) = true)
    (a7 : PySem.W.nsIn K mainGlobals "fixed" = some (some (.ref f7)))
    (l7 : K.lookup f7 = some ⟨oc7, od7, .func (PySem.W.fnOf "fixed" "fixed" (defArgs sFixed) (defBody sFixed) (defScope sFixed) .none kV7 dc7 pm7 an7 cd7 ct7), sl7⟩)
    (c7 : PySem.W.codeIn K cd7 "fixed" = true)
    (k7 : PySem.W.keepIn K (.ref f7) = true)
    (a8 : PySem.W.nsIn K mainGlobals "first_twice" = some (some (.ref f8)))
    (l8 : K.lookup f8 = some ⟨oc8, od8, .func (PySem.W.fnOf "first_twice" "first_twice" (defArgs sFirstTwice) (defBody sFirstTwice) (defScope sFirstTwice) .none kV8 dc8 pm8 an8 cd8 ct8), sl8⟩)
    (c8 : PySem.W.codeIn K cd8 "first_twice" = true)
    (k8 : PySem.W.keepIn K (.ref f8) = true)
    (a9 : PySem.W.nsIn K mainGlobals "twice_at" = some (some (.ref f9)))
    (l9 : K.lookup f9 = some ⟨oc9, od9, .func (PySem.W.fnOf "twice_at" "twice_at" (defArgs sTwiceAt) (defBody sTwiceAt) (defScope sTwiceAt) .none kV9 dc9 pm9 an9 cd9 ct9), sl9⟩)
    (c9 : PySem.W.codeIn K cd9 "twice_at" = true)
    (k9 : PySem.W.keepIn K (.ref f9) = true)
    (a10 : PySem.W.nsIn K mainGlobals "want_bar" = some (some (.ref f10)))
    (l10 : K.lookup f10 = some ⟨oc10, od10, .func (PySem.W.fnOf "want_bar" "want_bar" (defArgs sWantBar) (defBody sWantBar) (defScope sWantBar) .none kV10 dc10 pm10 an10 cd10 ct10), sl10⟩)
    (c10 : PySem.W.codeIn K cd10 "want_bar" = true)
    (k10 : PySem.W.keepIn K (.ref f10) = true)
    (a11 : PySem.W.nsIn K mainGlobals "want_lot" = some (some (.ref f11)))
    (l11 : K.lookup f11 = some ⟨oc11, od11, .func (PySem.W.fnOf "want_lot" "want_lot" (defArgs sWantLot) (defBody sWantLot) (defScope sWantLot) .none kV11 dc11 pm11 an11 cd11 ct11), sl11⟩)
    (c11 : PySem.W.codeIn K cd11 "want_lot" = true)
    (k11 : PySem.W.keepIn K (.ref f11) = true)
    (a12 : PySem.W.nsIn K mainGlobals "want_lots" = some (some (.ref f12)))
    (l12 : K.lookup f12 = some ⟨oc12, od12, .func (PySem.W.fnOf "want_lots" "want_lots" (defArgs sWantLots) (defBody sWantLots) (defScope sWantLots) .none kV12 dc12 pm12 an12 cd12 ct12), sl12⟩)
    (c12 : PySem.W.codeIn K cd12 "want_lots" = true)
    (k12 : PySem.W.keepIn K (.ref f12) = true)
    (a13 : PySem.W.nsIn K mainGlobals "want_as_many" = some (some (.ref f13)))
    (l13 : K.lookup f13 = some ⟨oc13, od13, .func (PySem.W.fnOf "want_as_many" "want_as_many" (defArgs sWantAsMany) (defBody sWantAsMany) (defScope sWantAsMany) .none kV13 dc13 pm13 an13 cd13 ct13), sl13⟩)
    (c13 : PySem.W.codeIn K cd13 "want_as_many" = true)
    (k13 : PySem.W.keepIn K (.ref f13) = true)
    (a14 : PySem.W.nsIn K mainGlobals "are_lengths" = some (some (.ref f14)))
    (l14 : K.lookup f14 = some ⟨oc14, od14, .func (PySem.W.fnOf "are_lengths" "are_lengths" (defArgs sAreLengths) (defBody sAreLengths) (defScope sAreLengths) .none kV14 dc14 pm14 an14 cd14 ct14), sl14⟩)
    (c14 : PySem.W.codeIn K cd14 "are_lengths" = true)
    (k14 : PySem.W.keepIn K (.ref f14) = true)
    (a15 : PySem.W.nsIn K mainGlobals "has_level" = some (some (.ref f15)))
    (l15 : K.lookup f15 = some ⟨oc15, od15, .func (PySem.W.fnOf "has_level" "has_level" (defArgs sHasLevel) (defBody sHasLevel) (defScope sHasLevel) .none kV15 dc15 pm15 an15 cd15 ct15), sl15⟩)
    (c15 : PySem.W.codeIn K cd15 "has_level" = true)
    (k15 : PySem.W.keepIn K (.ref f15) = true)
    (a16 : PySem.W.nsIn K mainGlobals "want_ring" = some (some (.ref f16)))
    (l16 : K.lookup f16 = some ⟨oc16, od16, .func (PySem.W.fnOf "want_ring" "want_ring" (defArgs sWantRing) (defBody sWantRing) (defScope sWantRing) .none kV16 dc16 pm16 an16 cd16 ct16), sl16⟩)
    (c16 : PySem.W.codeIn K cd16 "want_ring" = true)
    (k16 : PySem.W.keepIn K (.ref f16) = true)
    (a17 : PySem.W.nsIn K mainGlobals "are_strands" = some (some (.ref f17)))
    (l17 : K.lookup f17 = some ⟨oc17, od17, .func (PySem.W.fnOf "are_strands" "are_strands" (defArgs sAreStrands) (defBody sAreStrands) (defScope sAreStrands) .none kV17 dc17 pm17 an17 cd17 ct17), sl17⟩)
    (c17 : PySem.W.codeIn K cd17 "are_strands" = true)
    (k17 : PySem.W.keepIn K (.ref f17) = true)
    (a18 : PySem.W.nsIn K mainGlobals "is_strand" = some (some (.ref f18)))
    (l18 : K.lookup f18 = some ⟨oc18, od18, .func (PySem.W.fnOf "is_strand" "is_strand" (defArgs sIsStrand) (defBody sIsStrand) (defScope sIsStrand) .none kV18 dc18 pm18 an18 cd18 ct18), sl18⟩)
    (c18 : PySem.W.codeIn K cd18 "is_strand" = true)
    (k18 : PySem.W.keepIn K (.ref f18) = true)
    (a19 : PySem.W.nsIn K mainGlobals "as_strand" = some (some (.ref f19)))
    (l19 : K.lookup f19 = some ⟨oc19, od19, .func (PySem.W.fnOf "as_strand" "as_strand" (defArgs sAsStrand) (defBody sAsStrand) (defScope sAsStrand) .none kV19 dc19 pm19 an19 cd19 ct19), sl19⟩)
    (c19 : PySem.W.codeIn K cd19 "as_strand" = true)
    (k19 : PySem.W.keepIn K (.ref f19) = true)
    (a20 : PySem.W.nsIn K mainGlobals "can_line" = some (some (.ref f20)))
    (l20 : K.lookup f20 = some ⟨oc20, od20, .func (PySem.W.fnOf "can_line" "can_line" (defArgs sCanLine) (defBody sCanLine) (defScope sCanLine) .none kV20 dc20 pm20 an20 cd20 ct20), sl20⟩)
    (c20 : PySem.W.codeIn K cd20 "can_line" = true)
    (k20 : PySem.W.keepIn K (.ref f20) = true)
    (a21 : PySem.W.nsIn K mainGlobals "with_signs" = some (some (.ref f21)))
    (l21 : K.lookup f21 = some ⟨oc21, od21, .func (PySem.W.fnOf "with_signs" "with_signs" (defArgs sWithSigns) (defBody sWithSigns) (defScope sWithSigns) .none kV21 dc21 pm21 an21 cd21 ct21), sl21⟩)
    (c21 : PySem.W.codeIn K cd21 "with_signs" = true)
    (k21 : PySem.W.keepIn K (.ref f21) = true)
    (a22 : PySem.W.nsIn K mainGlobals "nets_of" = some (some (.ref f22)))
    (l22 : K.lookup f22 = some ⟨oc22, od22, .func (PySem.W.fnOf "nets_of" "nets_of" (defArgs sNetsOf) (defBody sNetsOf) (defScope sNetsOf) .none kV22 dc22 pm22 an22 cd22 ct22), sl22⟩)
    (c22 : PySem.W.codeIn K cd22 "nets_of" = true)
    (k22 : PySem.W.keepIn K (.ref f22) = true)
    (a23 : PySem.W.nsIn K mainGlobals "too_great" = some (some (.ref f23)))
    (l23 : K.lookup f23 = some ⟨oc23, od23, .func (PySem.W.fnOf "too_great" "too_great" (defArgs sTooGreat) (defBody sTooGreat) (defScope sTooGreat) .none kV23 dc23 pm23 an23 cd23 ct23), sl23⟩)
    (c23 : PySem.W.codeIn K cd23 "too_great" = true)
    (k23 : PySem.W.keepIn K (.ref f23) = true)
    (a24 : PySem.W.nsIn K mainGlobals "is_had" = some (some (.ref f24)))
    (l24 : K.lookup f24 = some ⟨oc24, od24, .func (PySem.W.fnOf "is_had" "is_had" (defArgs sIsHad) (defBody sIsHad) (defScope sIsHad) .none kV24 dc24 pm24 an24 cd24 ct24), sl24⟩)
    (c24 : PySem.W.codeIn K cd24 "is_had" = true)
    (k24 : PySem.W.keepIn K (.ref f24) = true)
    (a25 : PySem.W.nsIn K mainGlobals "first_signs" = some (some (.ref f25)))
    (l25 : K.lookup f25 = some ⟨oc25, od25, .func (PySem.W.fnOf "first_signs" "first_signs" (defArgs sFirstSigns) (defBody sFirstSigns) (defScope sFirstSigns) .none kV25 dc25 pm25 an25 cd25 ct25), sl25⟩)
    (c25 : PySem.W.codeIn K cd25 "first_signs" = true)
    (k25 : PySem.W.keepIn K (.ref f25) = true)
    (a26 : PySem.W.nsIn K mainGlobals "choices" = some (some (.ref f26)))
    (l26 : K.lookup f26 = some ⟨oc26, od26, .func (PySem.W.fnOf "choices" "choices" (defArgs sChoices) (defBody sChoices) (defScope sChoices) .none kV26 dc26 pm26 an26 cd26 ct26), sl26⟩)
    (c26 : PySem.W.codeIn K cd26 "choices" = true)
    (k26 : PySem.W.keepIn K (.ref f26) = true)
    (a27 : PySem.W.nsIn K mainGlobals "with_sign" = some (some (.ref f27)))
    (l27 : K.lookup f27 = some ⟨oc27, od27, .func (PySem.W.fnOf "with_sign" "with_sign" (defArgs sWithSign) (defBody sWithSign) (defScope sWithSign) .none kV27 dc27 pm27 an27 cd27 ct27), sl27⟩)
    (c27 : PySem.W.codeIn K cd27 "with_sign" = true)
    (k27 : PySem.W.keepIn K (.ref f27) = true)
    (a28 : PySem.W.nsIn K mainGlobals "want_lineup" = some (some (.ref f28)))
    (l28 : K.lookup f28 = some ⟨oc28, od28, .func (PySem.W.fnOf "want_lineup" "want_lineup" (defArgs sWantLineup) (defBody sWantLineup) (defScope sWantLineup) .none kV28 dc28 pm28 an28 cd28 ct28), sl28⟩)
    (c28 : PySem.W.codeIn K cd28 "want_lineup" = true)
    (k28 : PySem.W.keepIn K (.ref f28) = true)
    (a29 : PySem.W.nsIn K mainGlobals "want_lined" = some (some (.ref f29)))
    (l29 : K.lookup f29 = some ⟨oc29, od29, .func (PySem.W.fnOf "want_lined" "want_lined" (defArgs sWantLined) (defBody sWantLined) (defScope sWantLined) .none kV29 dc29 pm29 an29 cd29 ct29), sl29⟩)
    (c29 : PySem.W.codeIn K cd29 "want_lined" = true)
    (k29 : PySem.W.keepIn K (.ref f29) = true)
    (a30 : PySem.W.nsIn K mainGlobals "want_parted" = some (some (.ref f30)))
    (l30 : K.lookup f30 = some ⟨oc30, od30, .func (PySem.W.fnOf "want_parted" "want_parted" (defArgs sWantParted) (defBody sWantParted) (defScope sWantParted) .none kV30 dc30 pm30 an30 cd30 ct30), sl30⟩)
    (c30 : PySem.W.codeIn K cd30 "want_parted" = true)
    (k30 : PySem.W.keepIn K (.ref f30) = true)
    (a31 : PySem.W.nsIn K mainGlobals "shows_signs" = some (some (.ref f31)))
    (l31 : K.lookup f31 = some ⟨oc31, od31, .func (PySem.W.fnOf "shows_signs" "shows_signs" (defArgs sShowsSigns) (defBody sShowsSigns) (defScope sShowsSigns) .none kV31 dc31 pm31 an31 cd31 ct31), sl31⟩)
    (c31 : PySem.W.codeIn K cd31 "shows_signs" = true)
    (k31 : PySem.W.keepIn K (.ref f31) = true)
    (a32 : PySem.W.nsIn K mainGlobals "_law_bench" = some (some (.ref f32)))
    (l32 : K.lookup f32 = some ⟨oc32, od32, .func (PySem.W.fnOf "_law_bench" "_law_bench" (defArgs sLwBench) (defBody sLwBench) (defScope sLwBench) .none kV32 dc32 pm32 an32 cd32 ct32), sl32⟩)
    (c32 : PySem.W.codeIn K cd32 "_law_bench" = true)
    (k32 : PySem.W.keepIn K (.ref f32) = true)
    (a33 : PySem.W.nsIn K mainGlobals "_law_draw" = some (some (.ref f33)))
    (l33 : K.lookup f33 = some ⟨oc33, od33, .func (PySem.W.fnOf "_law_draw" "_law_draw" (defArgs sLwDraw) (defBody sLwDraw) (defScope sLwDraw) .none kV33 dc33 pm33 an33 cd33 ct33), sl33⟩)
    (c33 : PySem.W.codeIn K cd33 "_law_draw" = true)
    (k33 : PySem.W.keepIn K (.ref f33) = true)
    (a34 : PySem.W.nsIn K mainGlobals "_law_pick" = some (some (.ref f34)))
    (l34 : K.lookup f34 = some ⟨oc34, od34, .func (PySem.W.fnOf "_law_pick" "_law_pick" (defArgs sLwPick) (defBody sLwPick) (defScope sLwPick) .none kV34 dc34 pm34 an34 cd34 ct34), sl34⟩)
    (c34 : PySem.W.codeIn K cd34 "_law_pick" = true)
    (k34 : PySem.W.keepIn K (.ref f34) = true)
    (a35 : PySem.W.nsIn K mainGlobals "_law_mixed" = some (some (.ref f35)))
    (l35 : K.lookup f35 = some ⟨oc35, od35, .func (PySem.W.fnOf "_law_mixed" "_law_mixed" (defArgs sLwMixed) (defBody sLwMixed) (defScope sLwMixed) .none kV35 dc35 pm35 an35 cd35 ct35), sl35⟩)
    (c35 : PySem.W.codeIn K cd35 "_law_mixed" = true)
    (k35 : PySem.W.keepIn K (.ref f35) = true)
    (a36 : PySem.W.nsIn K mainGlobals "_law_lengths" = some (some (.ref f36)))
    (l36 : K.lookup f36 = some ⟨oc36, od36, .func (PySem.W.fnOf "_law_lengths" "_law_lengths" (defArgs sLwLengths) (defBody sLwLengths) (defScope sLwLengths) .none kV36 dc36 pm36 an36 cd36 ct36), sl36⟩)
    (c36 : PySem.W.codeIn K cd36 "_law_lengths" = true)
    (k36 : PySem.W.keepIn K (.ref f36) = true)
    (a37 : PySem.W.nsIn K mainGlobals "_law_parting" = some (some (.ref f37)))
    (l37 : K.lookup f37 = some ⟨oc37, od37, .func (PySem.W.fnOf "_law_parting" "_law_parting" (defArgs sLwParting) (defBody sLwParting) (defScope sLwParting) .none kV37 dc37 pm37 an37 cd37 ct37), sl37⟩)
    (c37 : PySem.W.codeIn K cd37 "_law_parting" = true)
    (k37 : PySem.W.keepIn K (.ref f37) = true)
    (a38 : PySem.W.nsIn K mainGlobals "_law_is_had" = some (some (.ref f38)))
    (l38 : K.lookup f38 = some ⟨oc38, od38, .func (PySem.W.fnOf "_law_is_had" "_law_is_had" (defArgs sLwIsHad) (defBody sLwIsHad) (defScope sLwIsHad) .none kV38 dc38 pm38 an38 cd38 ct38), sl38⟩)
    (c38 : PySem.W.codeIn K cd38 "_law_is_had" = true)
    (k38 : PySem.W.keepIn K (.ref f38) = true)
    (a39 : PySem.W.nsIn K mainGlobals "_law_choices" = some (some (.ref f39)))
    (l39 : K.lookup f39 = some ⟨oc39, od39, .func (PySem.W.fnOf "_law_choices" "_law_choices" (defArgs sLwChoices) (defBody sLwChoices) (defScope sLwChoices) .none kV39 dc39 pm39 an39 (.ref cCO) ct39), sl39⟩)
    (c39 : PySem.W.codeIn K (.ref cCO) "_law_choices" = true)
    (k39 : PySem.W.keepIn K (.ref f39) = true)
    (a40 : PySem.W.nsIn K mainGlobals "_law_great" = some (some (.ref f40)))
    (l40 : K.lookup f40 = some ⟨oc40, od40, .func (PySem.W.fnOf "_law_great" "_law_great" (defArgs sLwGreat) (defBody sLwGreat) (defScope sLwGreat) .none kV40 dc40 pm40 an40 cd40 ct40), sl40⟩)
    (c40 : PySem.W.codeIn K cd40 "_law_great" = true)
    (k40 : PySem.W.keepIn K (.ref f40) = true)
    (a41 : PySem.W.nsIn K mainGlobals "_law_signs_right" = some (some (.ref f41)))
    (l41 : K.lookup f41 = some ⟨oc41, od41, .func (PySem.W.fnOf "_law_signs_right" "_law_signs_right" (defArgs sLwSignsRight) (defBody sLwSignsRight) (defScope sLwSignsRight) .none kV41 dc41 pm41 an41 cd41 ct41), sl41⟩)
    (c41 : PySem.W.codeIn K cd41 "_law_signs_right" = true)
    (k41 : PySem.W.keepIn K (.ref f41) = true)
    (a42 : PySem.W.nsIn K mainGlobals "_law_heard" = some (some (.ref f42)))
    (l42 : K.lookup f42 = some ⟨oc42, od42, .func (PySem.W.fnOf "_law_heard" "_law_heard" (defArgs sLwHeard) (defBody sLwHeard) (defScope sLwHeard) .none kV42 dc42 pm42 an42 cd42 ct42), sl42⟩)
    (c42 : PySem.W.codeIn K cd42 "_law_heard" = true)
    (k42 : PySem.W.keepIn K (.ref f42) = true)
    (a43 : PySem.W.nsIn K mainGlobals "_law_refused_right" = some (some (.ref f43)))
    (l43 : K.lookup f43 = some ⟨oc43, od43, .func (PySem.W.fnOf "_law_refused_right" "_law_refused_right" (defArgs sLwRefusedRight) (defBody sLwRefusedRight) (defScope sLwRefusedRight) .none kV43 dc43 pm43 an43 (.ref cRR) ct43), sl43⟩)
    (c43 : PySem.W.codeIn K (.ref cRR) "_law_refused_right" = true)
    (k43 : PySem.W.keepIn K (.ref f43) = true)
    (a44 : PySem.W.nsIn K mainGlobals "law" = some (some (.ref f44)))
    (l44 : K.lookup f44 = some ⟨oc44, od44, .func (PySem.W.fnOf "law" "law" (defArgs sLaw) (defBody sLaw) (defScope sLaw) .none kV44 dc44 pm44 an44 cd44 ct44), sl44⟩)
    (c44 : PySem.W.codeIn K cd44 "law" = true)
    (k44 : PySem.W.keepIn K (.ref f44) = true)
    (am0 : PySem.W.findIn K (.ref C) "__init__" = some (some (.ref fm0)))
    (im0 : PySem.W.isFn K (.ref fm0) = true)
    (lm0 : K.lookup fm0 = some ⟨ocm0, odm0, .func (PySem.W.fnOf "__init__" "Ring.__init__" (defArgs sRingInit) (defBody sRingInit) (defScope sRingInit) .none kVm0 dcm0 pmm0 anm0 cdm0 ctm0), slm0⟩)
    (cm0 : PySem.W.codeIn K cdm0 "Ring.__init__" = true)
    (km0 : PySem.W.keepIn K (.ref fm0) = true)
    (am1 : PySem.W.findIn K (.ref C) "__len__" = some (some (.ref fm1)))
    (im1 : PySem.W.isFn K (.ref fm1) = true)
    (lm1 : K.lookup fm1 = some ⟨ocm1, odm1, .func (PySem.W.fnOf "__len__" "Ring.__len__" (defArgs sRingLen) (defBody sRingLen) (defScope sRingLen) .none kVm1 dcm1 pmm1 anm1 cdm1 ctm1), slm1⟩)
    (cm1 : PySem.W.codeIn K cdm1 "Ring.__len__" = true)
    (km1 : PySem.W.keepIn K (.ref fm1) = true)
    (am2 : PySem.W.findIn K (.ref CL) "__init__" = some (some (.ref fm2)))
    (im2 : PySem.W.isFn K (.ref fm2) = true)
    (lm2 : K.lookup fm2 = some ⟨ocm2, odm2, .func (PySem.W.fnOf "__init__" "LineUp.__init__" (defArgs sLineUpInit) (defBody sLineUpInit) (defScope sLineUpInit) .none kVm2 dcm2 pmm2 anm2 cdm2 ctm2), slm2⟩)
    (cm2 : PySem.W.codeIn K cdm2 "LineUp.__init__" = true)
    (km2 : PySem.W.keepIn K (.ref fm2) = true)
    (am3 : PySem.W.findIn K (.ref eR) "__init__" = some (some (.ref fm3)))
    (im3 : PySem.W.isFn K (.ref fm3) = true)
    (lm3 : K.lookup fm3 = some ⟨ocm3, odm3, .func (PySem.W.fnOf "__init__" "BadRing.__init__" (defArgs sBadRingInit) (defBody sBadRingInit) (defScope sBadRingInit) .none kVm3 dcm3 pmm3 anm3 cdm3 ctm3), slm3⟩)
    (cm3 : PySem.W.codeIn K cdm3 "BadRing.__init__" = true)
    (km3 : PySem.W.keepIn K (.ref fm3) = true)
    (tim3 : PySem.W.typeIn K (.ref fm3) = some (.type "function"))
    (am4 : PySem.W.findIn K (.ref eL) "__init__" = some (some (.ref fm4)))
    (im4 : PySem.W.isFn K (.ref fm4) = true)
    (lm4 : K.lookup fm4 = some ⟨ocm4, odm4, .func (PySem.W.fnOf "__init__" "BadLot.__init__" (defArgs sBadLotInit) (defBody sBadLotInit) (defScope sBadLotInit) .none kVm4 dcm4 pmm4 anm4 cdm4 ctm4), slm4⟩)
    (cm4 : PySem.W.codeIn K cdm4 "BadLot.__init__" = true)
    (km4 : PySem.W.keepIn K (.ref fm4) = true)
    (tim4 : PySem.W.typeIn K (.ref fm4) = some (.type "function"))
    (am5 : PySem.W.findIn K (.ref eN) "__init__" = some (some (.ref fm5)))
    (im5 : PySem.W.isFn K (.ref fm5) = true)
    (lm5 : K.lookup fm5 = some ⟨ocm5, odm5, .func (PySem.W.fnOf "__init__" "Missing.__init__" (defArgs sMissingInit) (defBody sMissingInit) (defScope sMissingInit) .none kVm5 dcm5 pmm5 anm5 cdm5 ctm5), slm5⟩)
    (cm5 : PySem.W.codeIn K cdm5 "Missing.__init__" = true)
    (km5 : PySem.W.keepIn K (.ref fm5) = true)
    (tim5 : PySem.W.typeIn K (.ref fm5) = some (.type "function"))
    (am6 : PySem.W.findIn K (.ref eT) "__init__" = some (some (.ref fm6)))
    (im6 : PySem.W.isFn K (.ref fm6) = true)
    (lm6 : K.lookup fm6 = some ⟨ocm6, odm6, .func (PySem.W.fnOf "__init__" "Twice.__init__" (defArgs sTwiceInit) (defBody sTwiceInit) (defScope sTwiceInit) .none kVm6 dcm6 pmm6 anm6 cdm6 ctm6), slm6⟩)
    (cm6 : PySem.W.codeIn K cdm6 "Twice.__init__" = true)
    (km6 : PySem.W.keepIn K (.ref fm6) = true)
    (tim6 : PySem.W.typeIn K (.ref fm6) = some (.type "function"))
    (am7 : PySem.W.findIn K (.ref eU) "__init__" = some (some (.ref fm7)))
    (im7 : PySem.W.isFn K (.ref fm7) = true)
    (lm7 : K.lookup fm7 = some ⟨ocm7, odm7, .func (PySem.W.fnOf "__init__" "BadLineUp.__init__" (defArgs sBadLineUpInit) (defBody sBadLineUpInit) (defScope sBadLineUpInit) .none kVm7 dcm7 pmm7 anm7 cdm7 ctm7), slm7⟩)
    (cm7 : PySem.W.codeIn K cdm7 "BadLineUp.__init__" = true)
    (km7 : PySem.W.keepIn K (.ref fm7) = true)
    (tim7 : PySem.W.typeIn K (.ref fm7) = some (.type "function"))
    (am8 : PySem.W.findIn K (.ref eM) "__init__" = some (some (.ref fm8)))
    (im8 : PySem.W.isFn K (.ref fm8) = true)
    (lm8 : K.lookup fm8 = some ⟨ocm8, odm8, .func (PySem.W.fnOf "__init__" "Misfit.__init__" (defArgs sMisfitInit) (defBody sMisfitInit) (defScope sMisfitInit) .none kVm8 dcm8 pmm8 anm8 cdm8 ctm8), slm8⟩)
    (cm8 : PySem.W.codeIn K cdm8 "Misfit.__init__" = true)
    (km8 : PySem.W.keepIn K (.ref fm8) = true)
    (tim8 : PySem.W.typeIn K (.ref fm8) = some (.type "function"))
    (am9 : PySem.W.findIn K (.ref CL) "__eq__" = some (some (.ref fm9)))
    (im9 : PySem.W.isFn K (.ref fm9) = true)
    (lm9 : K.lookup fm9 = some ⟨ocm9, odm9, .func (PySem.W.fnOf "__eq__" "LineUp.__eq__" (defArgs sLineUpEq) (defBody sLineUpEq) (defScope sLineUpEq) .none kVm9 dcm9 pmm9 anm9 cdm9 ctm9), slm9⟩)
    (cm9 : PySem.W.codeIn K cdm9 "LineUp.__eq__" = true)
    (km9 : PySem.W.keepIn K (.ref fm9) = true)
    (am10 : PySem.W.findIn K (.ref CM) "__eq__" = some (some (.ref fm10)))
    (im10 : PySem.W.isFn K (.ref fm10) = true)
    (lm10 : K.lookup fm10 = some ⟨ocm10, odm10, .func (PySem.W.fnOf "__eq__" "Paper.__eq__" (defArgs sPaperEq) (defBody sPaperEq) (defScope sPaperEq) .none kVm10 dcm10 pmm10 anm10 cdm10 ctm10), slm10⟩)
    (cm10 : PySem.W.codeIn K cdm10 "Paper.__eq__" = true)
    (km10 : PySem.W.keepIn K (.ref fm10) = true)
    (am11 : PySem.W.findIn K (.ref CO) "__eq__" = some (some (.ref fm11)))
    (im11 : PySem.W.isFn K (.ref fm11) = true)
    (lm11 : K.lookup fm11 = some ⟨ocm11, odm11, .func (PySem.W.fnOf "__eq__" "Denial.__eq__" (defArgs sDenialEq) (defBody sDenialEq) (defScope sDenialEq) .none kVm11 dcm11 pmm11 anm11 cdm11 ctm11), slm11⟩)
    (cm11 : PySem.W.codeIn K cdm11 "Denial.__eq__" = true)
    (km11 : PySem.W.keepIn K (.ref fm11) = true)
    (am12 : PySem.W.findIn K (.ref CM) "__bool__" = some (some (.ref fm12)))
    (im12 : PySem.W.isFn K (.ref fm12) = true)
    (lm12 : K.lookup fm12 = some ⟨ocm12, odm12, .func (PySem.W.fnOf "__bool__" "Paper.__bool__" (defArgs sPaperBool) (defBody sPaperBool) (defScope sPaperBool) .none kVm12 dcm12 pmm12 anm12 cdm12 ctm12), slm12⟩)
    (cm12 : PySem.W.codeIn K cdm12 "Paper.__bool__" = true)
    (km12 : PySem.W.keepIn K (.ref fm12) = true)
    (am13 : PySem.W.findIn K (.ref CO) "__bool__" = some (some (.ref fm13)))
    (im13 : PySem.W.isFn K (.ref fm13) = true)
    (lm13 : K.lookup fm13 = some ⟨ocm13, odm13, .func (PySem.W.fnOf "__bool__" "Denial.__bool__" (defArgs sDenialBool) (defBody sDenialBool) (defScope sDenialBool) .none kVm13 dcm13 pmm13 anm13 cdm13 ctm13), slm13⟩)
    (cm13 : PySem.W.codeIn K cdm13 "Denial.__bool__" = true)
    (km13 : PySem.W.keepIn K (.ref fm13) = true)
    (am14 : PySem.W.findIn K (.ref CN) "__bool__" = some (some (.ref fm14)))
    (im14 : PySem.W.isFn K (.ref fm14) = true)
    (lm14 : K.lookup fm14 = some ⟨ocm14, odm14, .func (PySem.W.fnOf "__bool__" "Paper.__bool__" (defArgs sPaperBool) (defBody sPaperBool) (defScope sPaperBool) .none kVm14 dcm14 pmm14 anm14 cdm14 ctm14), slm14⟩)
    (cm14 : PySem.W.codeIn K cdm14 "Paper.__bool__" = true)
    (km14 : PySem.W.keepIn K (.ref fm14) = true)
    (am15 : PySem.W.findIn K (.ref CG) "__bool__" = some (some (.ref fm15)))
    (im15 : PySem.W.isFn K (.ref fm15) = true)
    (lm15 : K.lookup fm15 = some ⟨ocm15, odm15, .func (PySem.W.fnOf "__bool__" "Denial.__bool__" (defArgs sDenialBool) (defBody sDenialBool) (defScope sDenialBool) .none kVm15 dcm15 pmm15 anm15 cdm15 ctm15), slm15⟩)
    (cm15 : PySem.W.codeIn K cdm15 "Denial.__bool__" = true)
    (km15 : PySem.W.keepIn K (.ref fm15) = true)
    (rC_pg : PySem.W.plainGet K C Str.empty = true)
    (rC_hd : PySem.W.hasDictIn K C = true)
    (rC_po : PySem.W.plainOver K C = true)
    (rC_sa : PySem.W.findIn K (.ref C) "__setattr__" = some (some (.builtin "object.__setattr__")))
    (rC_mk : PySem.W.makesIn K C = true)
    (rC_kc : PySem.W.keepIn K (.ref C) = true)
    (rC_ha : PySem.W.findIn K (.ref C) "__class__" = some (some (.builtin "object.__class__")))
    (rC_hm : PySem.W.mroIn K C (.type "object") = some true)
    (rC_n_lengths : PySem.W.findIn K (.ref C) "lengths" = some none)
    (rC_n_total : PySem.W.findIn K (.ref C) "total" = some none)
    (rC_n_closes : PySem.W.findIn K (.ref C) "closes" = some none)
    (rC_n_is_clear : PySem.W.findIn K (.ref C) "is_clear" = some none)
    (rCL_pg : PySem.W.plainGet K CL Str.empty = true)
    (rCL_hd : PySem.W.hasDictIn K CL = true)
    (rCL_po : PySem.W.plainOver K CL = true)
    (rCL_sa : PySem.W.findIn K (.ref CL) "__setattr__" = some (some (.builtin "object.__setattr__")))
    (rCL_mk : PySem.W.makesIn K CL = true)
    (rCL_kc : PySem.W.keepIn K (.ref CL) = true)
    (rCL_ha : PySem.W.findIn K (.ref CL) "__class__" = some (some (.builtin "object.__class__")))
    (rCL_hm : PySem.W.mroIn K CL (.type "object") = some true)
    (rCL_n_strands : PySem.W.findIn K (.ref CL) "strands" = some none)
    (rCL_n_lots : PySem.W.findIn K (.ref CL) "lots" = some none)
    (rCL_n_many : PySem.W.findIn K (.ref CL) "many" = some none)
    (rCN_pg : PySem.W.plainGet K CN Str.empty = true)
    (rCN_hd : PySem.W.hasDictIn K CN = true)
    (rCN_po : PySem.W.plainOver K CN = true)
    (rCN_sa : PySem.W.findIn K (.ref CN) "__setattr__" = some (some (.builtin "object.__setattr__")))
    (rCN_mk : PySem.W.makesIn K CN = true)
    (rCN_kc : PySem.W.keepIn K (.ref CN) = true)
    (rCN_ha : PySem.W.findIn K (.ref CN) "__class__" = some (some (.builtin "object.__class__")))
    (rCN_hm : PySem.W.mroIn K CN (.type "object") = some true)
    (rCN_n_word : PySem.W.findIn K (.ref CN) "word" = some none)
    (rCN_n_parts : PySem.W.findIn K (.ref CN) "parts" = some none)
    (rCN_n_nets : PySem.W.findIn K (.ref CN) "nets" = some none)
    (rCG_pg : PySem.W.plainGet K CG Str.empty = true)
    (rCG_hd : PySem.W.hasDictIn K CG = true)
    (rCG_po : PySem.W.plainOver K CG = true)
    (rCG_sa : PySem.W.findIn K (.ref CG) "__setattr__" = some (some (.builtin "object.__setattr__")))
    (rCG_mk : PySem.W.makesIn K CG = true)
    (rCG_kc : PySem.W.keepIn K (.ref CG) = true)
    (rCG_ha : PySem.W.findIn K (.ref CG) "__class__" = some (some (.builtin "object.__class__")))
    (rCG_hm : PySem.W.mroIn K CG (.type "object") = some true)
    (rCG_n_word : PySem.W.findIn K (.ref CG) "word" = some none)
    (rCG_n_parts : PySem.W.findIn K (.ref CG) "parts" = some none)
    (rCG_n_lot : PySem.W.findIn K (.ref CG) "lot" = some none)
    (rCG_n_net : PySem.W.findIn K (.ref CG) "net" = some none)
    (rCG_n_others : PySem.W.findIn K (.ref CG) "others" = some none)
    (rCM_pg : PySem.W.plainGet K CM Str.empty = true)
    (rCM_hd : PySem.W.hasDictIn K CM = true)
    (rCM_po : PySem.W.plainOver K CM = true)
    (rCM_sa : PySem.W.findIn K (.ref CM) "__setattr__" = some (some (.builtin "object.__setattr__")))
    (rCM_mk : PySem.W.makesIn K CM = true)
    (rCM_kc : PySem.W.keepIn K (.ref CM) = true)
    (rCM_ha : PySem.W.findIn K (.ref CM) "__class__" = some (some (.builtin "object.__class__")))
    (rCM_hm : PySem.W.mroIn K CM (.type "object") = some true)
    (rCM_n_word : PySem.W.findIn K (.ref CM) "word" = some none)
    (rCM_n_parts : PySem.W.findIn K (.ref CM) "parts" = some none)
    (rCM_n_lineup : PySem.W.findIn K (.ref CM) "lineup" = some none)
    (rCO_pg : PySem.W.plainGet K CO Str.empty = true)
    (rCO_hd : PySem.W.hasDictIn K CO = true)
    (rCO_po : PySem.W.plainOver K CO = true)
    (rCO_sa : PySem.W.findIn K (.ref CO) "__setattr__" = some (some (.builtin "object.__setattr__")))
    (rCO_mk : PySem.W.makesIn K CO = true)
    (rCO_kc : PySem.W.keepIn K (.ref CO) = true)
    (rCO_ha : PySem.W.findIn K (.ref CO) "__class__" = some (some (.builtin "object.__class__")))
    (rCO_hm : PySem.W.mroIn K CO (.type "object") = some true)
    (rCO_n_word : PySem.W.findIn K (.ref CO) "word" = some none)
    (rCO_n_parts : PySem.W.findIn K (.ref CO) "parts" = some none)
    (rCO_n_lots : PySem.W.findIn K (.ref CO) "lots" = some none)
    (rhn : PySem.W.specialIn K (.builtin "object.__class__") "__get__" = some (some (.builtin "getset_descriptor.__get__")))
    (rht : PySem.W.takesIn K (.builtin "object.__class__") = some true)
    (kN : PySem.W.kitOne K (.type "NoneType") (.ref C) = some false)
    (kI : PySem.W.kitOne K (.type "int") (.ref C) = some false)
    (kS : PySem.W.kitOne K (.type "str") (.ref C) = some false)
    (kL : PySem.W.kitOne K (.type "list") (.ref C) = some false)
    (lL : PySem.W.kitOne K (.ref CL) (.type "list") = some false)
    (lT : PySem.W.kitOne K (.ref CL) (.type "tuple") = some false)
    (kMP : PySem.W.kitOne K (.ref CM) (.ref Pa) = some true)
    (kOP : PySem.W.kitOne K (.ref CO) (.ref Pa) = some true)
    (kMO : PySem.W.kitOne K (.ref CM) (.ref CO) = some false)
    (kOM : PySem.W.kitOne K (.ref CO) (.ref CM) = some false)
    (q_ou : PySem.W.kitOne K (.ref eL) (.ref eU) = some false)
    (q_ru : PySem.W.kitOne K (.ref eR) (.ref eU) = some false)
    (q_ro : PySem.W.kitOne K (.ref eR) (.ref eL) = some false)
    (q_nu : PySem.W.kitOne K (.ref eN) (.ref eU) = some false)
    (q_no : PySem.W.kitOne K (.ref eN) (.ref eL) = some false)
    (q_nr : PySem.W.kitOne K (.ref eN) (.ref eR) = some false)
    (q_tu : PySem.W.kitOne K (.ref eT) (.ref eU) = some false)
    (q_to : PySem.W.kitOne K (.ref eT) (.ref eL) = some false)
    (q_tr : PySem.W.kitOne K (.ref eT) (.ref eR) = some false)
    (q_tn : PySem.W.kitOne K (.ref eT) (.ref eN) = some false)
    (aPa : PySem.W.nsIn K mainGlobals "Paper" = some (some (.ref Pa)))
    (topS : (l.prog.main.scope.names.lookup ("super" : Str)).isSome = false)
    (thE : PySem.W.nsIn K cStatics "thirdparty.any" = some none)
    (tyP : PySem.W.typeIn K (.ref fPi) = some (.type "function"))
    (fnP : PySem.W.fnIn K fPi = true)
    (lPi : K.lookup fPi = some ⟨ocP, odP, .func (PySem.W.fnOf "__init__" "Paper.__init__" (defArgs sPaperInit) (defBody sPaperInit) (defScope sPaperInit) .none kVP dcP pmP anP cdP ctP), slP⟩)
    (cPi : PySem.W.codeIn K cdP "Paper.__init__" = true)
    (kPi : PySem.W.keepIn K (.ref fPi) = true)
    (aEiN : PySem.W.findIn K (.ref CN) "__init__" = some (some (.ref fEN)))
    (iEiN : PySem.W.isFn K (.ref fEN) = true)
    (lEiN : K.lookup fEN = some ⟨ocEN, odEN, .func (PySem.W.fnX "__init__" "Nets.__init__" (defArgs sNetsInit) (defBody sNetsInit) (defScope sNetsInit) [(("__class__" : Str), ccEN)] .none kVEN dcEN pmEN anEN (.ref cEN) ctEN), slEN⟩)
    (cEiN : PySem.W.codeIn K (.ref cEN) "Nets.__init__" = true)
    (kEiN : PySem.W.keepIn K (.ref fEN) = true)
    (loEN : K.lookup cEN = some ⟨cclEN, cddEN, .fields vsEN, ccsEN⟩)
    (vsE2N : vsEN[2]? = some (.str fileEN tfEN))
    (fiEN : ((l.prog.main.file : Str) == fileEN) = true)
    (ceEN : K.lookup ccEN = some ⟨kclEN, kcdEN, .cell (some (.ref CN)), kcsEN⟩)
    (mEEN : PySem.W.mroIn K CN (.ref CN) = some true)
    (toEN : PySem.W.ks_superIn K CN CN "__init__" = some (some (.ref fPi)))
    (aEiG : PySem.W.findIn K (.ref CG) "__init__" = some (some (.ref fEG)))
    (iEiG : PySem.W.isFn K (.ref fEG) = true)
    (lEiG : K.lookup fEG = some ⟨ocEG, odEG, .func (PySem.W.fnX "__init__" "TooGreat.__init__" (defArgs sTooGreatInit) (defBody sTooGreatInit) (defScope sTooGreatInit) [(("__class__" : Str), ccEG)] .none kVEG dcEG pmEG anEG (.ref cEG) ctEG), slEG⟩)
    (cEiG : PySem.W.codeIn K (.ref cEG) "TooGreat.__init__" = true)
    (kEiG : PySem.W.keepIn K (.ref fEG) = true)
    (loEG : K.lookup cEG = some ⟨cclEG, cddEG, .fields vsEG, ccsEG⟩)
    (vsE2G : vsEG[2]? = some (.str fileEG tfEG))
    (fiEG : ((l.prog.main.file : Str) == fileEG) = true)
    (ceEG : K.lookup ccEG = some ⟨kclEG, kcdEG, .cell (some (.ref CG)), kcsEG⟩)
    (mEEG : PySem.W.mroIn K CG (.ref CG) = some true)
    (toEG : PySem.W.ks_superIn K CG CG "__init__" = some (some (.ref fPi)))
    (aEiM : PySem.W.findIn K (.ref CM) "__init__" = some (some (.ref fEM)))
    (iEiM : PySem.W.isFn K (.ref fEM) = true)
    (lEiM : K.lookup fEM = some ⟨ocEM, odEM, .func (PySem.W.fnX "__init__" "Signs.__init__" (defArgs sSignsInit) (defBody sSignsInit) (defScope sSignsInit) [(("__class__" : Str), ccEM)] .none kVEM dcEM pmEM anEM (.ref cEM) ctEM), slEM⟩)
    (cEiM : PySem.W.codeIn K (.ref cEM) "Signs.__init__" = true)
    (kEiM : PySem.W.keepIn K (.ref fEM) = true)
    (loEM : K.lookup cEM = some ⟨cclEM, cddEM, .fields vsEM, ccsEM⟩)
    (vsE2M : vsEM[2]? = some (.str fileEM tfEM))
    (fiEM : ((l.prog.main.file : Str) == fileEM) = true)
    (ceEM : K.lookup ccEM = some ⟨kclEM, kcdEM, .cell (some (.ref CM)), kcsEM⟩)
    (mEEM : PySem.W.mroIn K CM (.ref CM) = some true)
    (toEM : PySem.W.ks_superIn K CM CM "__init__" = some (some (.ref fPi)))
    (aEiO : PySem.W.findIn K (.ref CO) "__init__" = some (some (.ref fEO)))
    (iEiO : PySem.W.isFn K (.ref fEO) = true)
    (lEiO : K.lookup fEO = some ⟨ocEO, odEO, .func (PySem.W.fnX "__init__" "NoSigns.__init__" (defArgs sNoSignsInit) (defBody sNoSignsInit) (defScope sNoSignsInit) [(("__class__" : Str), ccEO)] .none kVEO dcEO pmEO anEO (.ref cEO) ctEO), slEO⟩)
    (cEiO : PySem.W.codeIn K (.ref cEO) "NoSigns.__init__" = true)
    (kEiO : PySem.W.keepIn K (.ref fEO) = true)
    (loEO : K.lookup cEO = some ⟨cclEO, cddEO, .fields vsEO, ccsEO⟩)
    (vsE2O : vsEO[2]? = some (.str fileEO tfEO))
    (fiEO : ((l.prog.main.file : Str) == fileEO) = true)
    (ceEO : K.lookup ccEO = some ⟨kclEO, kcdEO, .cell (some (.ref CO)), kcsEO⟩)
    (mEEO : PySem.W.mroIn K CO (.ref CO) = some true)
    (toEO : PySem.W.ks_superIn K CO CO "__init__" = some (some (.ref fPi)))
    (rdM : PySem.W.readsIn K CM (.type "type") = true)
    (atM : PySem.W.findCls K (.ref CM) (.type "type") "__name__" = some (.get (.builtin "getset_descriptor.__get__") (.builtin "type.__name__") (.ref CM) (.type "type")))
    (tyM : PySem.W.typeIn K (.ref CM) = some (.type "type"))
    (lkM : K.lookup CM = some oM)
    (slM2 : oM.slots[2]? = some (some (.str "Signs" tkM)))
    (neM : PySem.W.findIn K (.ref CM) "__ne__" = some (some (.builtin "object.__ne__")))
    (suM : PySem.W.subIn K (.ref CM) (.type "object") = some true)
    (rdO : PySem.W.readsIn K CO (.type "type") = true)
    (atO : PySem.W.findCls K (.ref CO) (.type "type") "__name__" = some (.get (.builtin "getset_descriptor.__get__") (.builtin "type.__name__") (.ref CO) (.type "type")))
    (tyO : PySem.W.typeIn K (.ref CO) = some (.type "type"))
    (lkO : K.lookup CO = some oO)
    (slO2 : oO.slots[2]? = some (some (.str "NoSigns" tkO)))
    (neO : PySem.W.findIn K (.ref CO) "__ne__" = some (some (.builtin "object.__ne__")))
    (suO : PySem.W.subIn K (.ref CO) (.type "object") = some true)
    (neL : PySem.W.findIn K (.ref CL) "__ne__" = some (some (.builtin "object.__ne__")))
    (suL : PySem.W.subIn K (.ref CL) (.type "object") = some true)
    (z_int : PySem.W.nsIn K mainGlobals "int" = some none)
    (z_len : PySem.W.nsIn K mainGlobals "len" = some none)
    (z_abs : PySem.W.nsIn K mainGlobals "abs" = some none)
    (z_list : PySem.W.nsIn K mainGlobals "list" = some none)
    (z_tuple : PySem.W.nsIn K mainGlobals "tuple" = some none)
    (z_bool : PySem.W.nsIn K mainGlobals "bool" = some none)
    (z_range : PySem.W.nsIn K mainGlobals "range" = some none)
    (z_sum : PySem.W.nsIn K mainGlobals "sum" = some none)
    (z_max : PySem.W.nsIn K mainGlobals "max" = some none)
    (z_all : PySem.W.nsIn K mainGlobals "all" = some none)
    (z_any : PySem.W.nsIn K mainGlobals "any" = some none)
    (z_sorted : PySem.W.nsIn K mainGlobals "sorted" = some none)
    (z_enumerate : PySem.W.nsIn K mainGlobals "enumerate" = some none)
    (z_isinstance : PySem.W.nsIn K mainGlobals "isinstance" = some none)
    (z_super : PySem.W.nsIn K mainGlobals "super" = some none)
    (z_zip : PySem.W.nsIn K mainGlobals "zip" = some none)
    (z_min : PySem.W.nsIn K mainGlobals "min" = some none)
    (z_repr : PySem.W.nsIn K mainGlobals "repr" = some none)
    (g_MOST_LENGTH : PySem.W.nsIn K mainGlobals "MOST_LENGTH" = some (some (.int 1000000 tkMOST_LENGTH)))
    (g_LEAST_BARS : PySem.W.nsIn K mainGlobals "LEAST_BARS" = some (some (.int 3 tkLEAST_BARS)))
    (g_MOST_BARS : PySem.W.nsIn K mainGlobals "MOST_BARS" = some (some (.int 8 tkMOST_BARS)))
    (xeR : K.lookup eR = some (excClassObj nmeR qqeR eR NeR bseR bmeR true sneR subeR abeR coleR ddeR k0eR k1eR k2eR k3eR k5eR "ValueError.__new__"))
    (rveR : PySem.HandSPX.refsVE bmeR = true)
    (saeR : PySem.W.findIn K (.ref eR) "__setattr__" = some (some (.builtin "object.__setattr__")))
    (eCeR : PySem.W.subIn K (.ref eR) (.type "BaseException") = some true)
    (tCeR : PySem.W.typeIn K (.ref eR) = some (.type "type"))
    (kCeR : PySem.W.keepIn K (.ref eR) = true)
    (nfeRpart : PySem.W.findIn K (.ref eR) "part" = some none)
    (gaeR : PySem.W.findIn K (.ref eR) "__getattribute__" = some (some (.builtin "BaseException.__getattribute__")))
    (ggeR : PySem.W.findIn K (.ref eR) "__getattr__" = some none)
    (hdeR : PySem.W.hasDictIn K eR = true)
    (haeR : PySem.W.findIn K (.ref eR) "__class__" = some (some (.builtin "object.__class__")))
    (hmeR : PySem.W.mroIn K eR (.type "object") = some true)
    (sbeR : PySem.W.subIn K (.ref eR) (.ref eX) = some true)
    (xeL : K.lookup eL = some (excClassObj nmeL qqeL eL NeL bseL bmeL true sneL subeL abeL coleL ddeL k0eL k1eL k2eL k3eL k5eL "ValueError.__new__"))
    (rveL : PySem.HandSPX.refsVE bmeL = true)
    (saeL : PySem.W.findIn K (.ref eL) "__setattr__" = some (some (.builtin "object.__setattr__")))
    (eCeL : PySem.W.subIn K (.ref eL) (.type "BaseException") = some true)
    (tCeL : PySem.W.typeIn K (.ref eL) = some (.type "type"))
    (kCeL : PySem.W.keepIn K (.ref eL) = true)
    (nfeLpart : PySem.W.findIn K (.ref eL) "part" = some none)
    (gaeL : PySem.W.findIn K (.ref eL) "__getattribute__" = some (some (.builtin "BaseException.__getattribute__")))
    (ggeL : PySem.W.findIn K (.ref eL) "__getattr__" = some none)
    (hdeL : PySem.W.hasDictIn K eL = true)
    (haeL : PySem.W.findIn K (.ref eL) "__class__" = some (some (.builtin "object.__class__")))
    (hmeL : PySem.W.mroIn K eL (.type "object") = some true)
    (sbeL : PySem.W.subIn K (.ref eL) (.ref eX) = some true)
    (xeN : K.lookup eN = some (excClassObj nmeN qqeN eN NeN bseN bmeN true sneN subeN abeN coleN ddeN k0eN k1eN k2eN k3eN k5eN "ValueError.__new__"))
    (rveN : PySem.HandSPX.refsVE bmeN = true)
    (saeN : PySem.W.findIn K (.ref eN) "__setattr__" = some (some (.builtin "object.__setattr__")))
    (eCeN : PySem.W.subIn K (.ref eN) (.type "BaseException") = some true)
    (tCeN : PySem.W.typeIn K (.ref eN) = some (.type "type"))
    (kCeN : PySem.W.keepIn K (.ref eN) = true)
    (nfeNvalue : PySem.W.findIn K (.ref eN) "value" = some none)
    (gaeN : PySem.W.findIn K (.ref eN) "__getattribute__" = some (some (.builtin "BaseException.__getattribute__")))
    (ggeN : PySem.W.findIn K (.ref eN) "__getattr__" = some none)
    (hdeN : PySem.W.hasDictIn K eN = true)
    (haeN : PySem.W.findIn K (.ref eN) "__class__" = some (some (.builtin "object.__class__")))
    (hmeN : PySem.W.mroIn K eN (.type "object") = some true)
    (sbeN : PySem.W.subIn K (.ref eN) (.ref eX) = some true)
    (xeT : K.lookup eT = some (excClassObj nmeT qqeT eT NeT bseT bmeT true sneT subeT abeT coleT ddeT k0eT k1eT k2eT k3eT k5eT "ValueError.__new__"))
    (rveT : PySem.HandSPX.refsVE bmeT = true)
    (saeT : PySem.W.findIn K (.ref eT) "__setattr__" = some (some (.builtin "object.__setattr__")))
    (eCeT : PySem.W.subIn K (.ref eT) (.type "BaseException") = some true)
    (tCeT : PySem.W.typeIn K (.ref eT) = some (.type "type"))
    (kCeT : PySem.W.keepIn K (.ref eT) = true)
    (nfeTvalue : PySem.W.findIn K (.ref eT) "value" = some none)
    (gaeT : PySem.W.findIn K (.ref eT) "__getattribute__" = some (some (.builtin "BaseException.__getattribute__")))
    (ggeT : PySem.W.findIn K (.ref eT) "__getattr__" = some none)
    (hdeT : PySem.W.hasDictIn K eT = true)
    (haeT : PySem.W.findIn K (.ref eT) "__class__" = some (some (.builtin "object.__class__")))
    (hmeT : PySem.W.mroIn K eT (.type "object") = some true)
    (sbeT : PySem.W.subIn K (.ref eT) (.ref eX) = some true)
    (xeU : K.lookup eU = some (excClassObj nmeU qqeU eU NeU bseU bmeU true sneU subeU abeU coleU ddeU k0eU k1eU k2eU k3eU k5eU "ValueError.__new__"))
    (rveU : PySem.HandSPX.refsVE bmeU = true)
    (saeU : PySem.W.findIn K (.ref eU) "__setattr__" = some (some (.builtin "object.__setattr__")))
    (eCeU : PySem.W.subIn K (.ref eU) (.type "BaseException") = some true)
    (tCeU : PySem.W.typeIn K (.ref eU) = some (.type "type"))
    (kCeU : PySem.W.keepIn K (.ref eU) = true)
    (nfeUpart : PySem.W.findIn K (.ref eU) "part" = some none)
    (gaeU : PySem.W.findIn K (.ref eU) "__getattribute__" = some (some (.builtin "BaseException.__getattribute__")))
    (ggeU : PySem.W.findIn K (.ref eU) "__getattr__" = some none)
    (hdeU : PySem.W.hasDictIn K eU = true)
    (haeU : PySem.W.findIn K (.ref eU) "__class__" = some (some (.builtin "object.__class__")))
    (hmeU : PySem.W.mroIn K eU (.type "object") = some true)
    (sbeU : PySem.W.subIn K (.ref eU) (.ref eX) = some true)
    (xeM : K.lookup eM = some (excClassObj nmeM qqeM eM NeM bseM bmeM true sneM subeM abeM coleM ddeM k0eM k1eM k2eM k3eM k5eM "ValueError.__new__"))
    (rveM : PySem.HandSPX.refsVE bmeM = true)
    (saeM : PySem.W.findIn K (.ref eM) "__setattr__" = some (some (.builtin "object.__setattr__")))
    (eCeM : PySem.W.subIn K (.ref eM) (.type "BaseException") = some true)
    (tCeM : PySem.W.typeIn K (.ref eM) = some (.type "type"))
    (kCeM : PySem.W.keepIn K (.ref eM) = true)
    (nfeMpart : PySem.W.findIn K (.ref eM) "part" = some none)
    (eCeX : PySem.W.subIn K (.ref eX) (.type "BaseException") = some true)
    (hdeX : PySem.W.hasDictIn K eX = true)
    (tCeX : PySem.W.typeIn K (.ref eX) = some (.type "type"))
    (lc1 : K.lookup cCO = some ⟨.type "code", odc1, .fields vsc1, slc1⟩)
    (hdc1 : PySem.W.codeHdIn [(cCO, ⟨.type "code", odc1, .fields vsc1, slc1⟩)] cCO P1 = true)
    (nT1 : K.lookup P1 = none)
    (hT1 : h.get? P1 = some { cls := .none, data := .fields #[] })
    (lc2 : K.lookup cRR = some ⟨.type "code", odc2, .fields vsc2, slc2⟩)
    (hdc2 : PySem.W.codeHdIn [(cRR, ⟨.type "code", odc2, .fields vsc2, slc2⟩)] cRR P2 = true)
    (nT2 : K.lookup P2 = none)
    (hT2 : h.get? P2 = some { cls := .none, data := .fields #[] })
    (nP : P1 ≠ P2) :
    LawAtG l w K CX0 13 63 "_law_script" mg fa h := by
  have e := hfa.symm.trans (PySem.W.mg_of X G a44)
  cases e
  have gl : ∀ {x : Str} {v : Value}, PySem.W.nsIn K mainGlobals x = some (some v) → mg x = some v := fun q => PySem.W.mg_of X G q
  have T : Bi mg := ⟨PySem.W.mg_none_of X G z_int, PySem.W.mg_none_of X G z_len, PySem.W.mg_none_of X G z_abs, PySem.W.mg_none_of X G z_list, PySem.W.mg_none_of X G z_tuple, PySem.W.mg_none_of X G z_bool, PySem.W.mg_none_of X G z_range, PySem.W.mg_none_of X G z_sum, PySem.W.mg_none_of X G z_max, PySem.W.mg_none_of X G z_all, PySem.W.mg_none_of X G z_any, PySem.W.mg_none_of X G z_sorted, PySem.W.mg_none_of X G z_enumerate, PySem.W.mg_none_of X G z_isinstance⟩
  have N : Nm mg := ⟨⟨_, gl g_MOST_LENGTH⟩, ⟨_, gl g_LEAST_BARS⟩, ⟨_, gl g_MOST_BARS⟩⟩
  have B2 : Bi2 mg := ⟨PySem.W.mg_none_of X G z_zip, PySem.W.mg_none_of X G z_min, PySem.W.mg_none_of X G z_repr⟩
  have R : RingC K mg C := ⟨⟨rC_pg, rC_hd, rC_po, rC_sa⟩, rC_n_lengths, rC_n_total, rC_n_closes, rC_n_is_clear, gl aC, rC_ha, rhn, rht, rC_hm⟩
  have RL : LineC K mg CL := ⟨⟨rCL_pg, rCL_hd, rCL_po, rCL_sa⟩, rCL_n_strands, rCL_n_lots, rCL_n_many, gl aCL⟩
  have clN : Cls K CN := ⟨rCN_pg, rCN_hd, rCN_po, rCN_sa⟩
  have clG : Cls K CG := ⟨rCG_pg, rCG_hd, rCG_po, rCG_sa⟩
  have clM : Cls K CM := ⟨rCM_pg, rCM_hd, rCM_po, rCM_sa⟩
  have clO : Cls K CO := ⟨rCO_pg, rCO_hd, rCO_po, rCO_sa⟩
  have clL : Cls K CL := ⟨rCL_pg, rCL_hd, rCL_po, rCL_sa⟩
  have RN : NetsC K mg CN := ⟨⟨clN, rCN_n_word, rCN_n_parts⟩, rCN_n_nets, gl aCN⟩
  have TGC : TooGreatC K mg CG := ⟨⟨clG, rCG_n_word, rCG_n_parts⟩, rCG_n_lot, rCG_n_net, rCG_n_others, gl aCG⟩
  have RM : MostC K mg CM := ⟨⟨clM, rCM_n_word, rCM_n_parts⟩, rCM_n_lineup, gl aCM⟩
  have RO : NoSgC K mg CO := ⟨⟨clO, rCO_n_word, rCO_n_parts⟩, rCO_n_lots, gl aCO⟩
  have EO : C8.InsC K CO := ⟨clO, rCO_ha, rhn, rht, rCO_hm, kit_self⟩
  have EM : C8.InsC K CM := ⟨clM, rCM_ha, rhn, rht, rCM_hm, kit_self⟩
  have EL : C8.InsC K CL := ⟨clL, rCL_ha, rhn, rht, rCL_hm, kit_self⟩
  have NS : NoSeq K CL := ⟨EL, lL, lT⟩
  have NM1 : NamC K CM "Signs" := ⟨rdM, atM, tyM, ⟨_, _, lkM, slM2⟩⟩
  have NM2 : NamC K CO "NoSigns" := ⟨rdO, atO, tyO, ⟨_, _, lkO, slO2⟩⟩
  have KT : KitT K C := ⟨kN, kI, kS, kL⟩
  have oeR : OexC K eR := ⟨⟨_, _, _, _, _, _, _, _, _, _, _, _, _, _, _, xeR, rveR⟩, saeR, eCeR, tCeR, kCeR⟩
  have oeL : OexC K eL := ⟨⟨_, _, _, _, _, _, _, _, _, _, _, _, _, _, _, xeL, rveL⟩, saeL, eCeL, tCeL, kCeL⟩
  have oeN : OexC K eN := ⟨⟨_, _, _, _, _, _, _, _, _, _, _, _, _, _, _, xeN, rveN⟩, saeN, eCeN, tCeN, kCeN⟩
  have oeT : OexC K eT := ⟨⟨_, _, _, _, _, _, _, _, _, _, _, _, _, _, _, xeT, rveT⟩, saeT, eCeT, tCeT, kCeT⟩
  have oeU : OexC K eU := ⟨⟨_, _, _, _, _, _, _, _, _, _, _, _, _, _, _, xeU, rveU⟩, saeU, eCeU, tCeU, kCeU⟩
  have oeM : OexC K eM := ⟨⟨_, _, _, _, _, _, _, _, _, _, _, _, _, _, _, xeM, rveM⟩, saeM, eCeM, tCeM, kCeM⟩
  have Hc : HeardC K mg ⟨eU, eL, eR, eN, eT⟩ eX := ⟨gl aeX, gl aeU, ⟨gaeU, ggeU, eCeU, hdeU, haeU, rhn, rht, hmeU⟩, ⟨gaeU, ggeU, eCeU, hdeU⟩, PySem.W.exm_ref eCeX hdeX tCeX sbeU, nfeUpart, gl aeL, ⟨gaeL, ggeL, eCeL, hdeL, haeL, rhn, rht, hmeL⟩, ⟨gaeL, ggeL, eCeL, hdeL⟩, PySem.W.exm_ref eCeX hdeX tCeX sbeL, nfeLpart, gl aeR, ⟨gaeR, ggeR, eCeR, hdeR, haeR, rhn, rht, hmeR⟩, ⟨gaeR, ggeR, eCeR, hdeR⟩, PySem.W.exm_ref eCeX hdeX tCeX sbeR, nfeRpart, gl aeN, ⟨gaeN, ggeN, eCeN, hdeN, haeN, rhn, rht, hmeN⟩, ⟨gaeN, ggeN, eCeN, hdeN⟩, PySem.W.exm_ref eCeX hdeX tCeX sbeN, nfeNvalue, gl aeT, ⟨gaeT, ggeT, eCeT, hdeT, haeT, rhn, rht, hmeT⟩, ⟨gaeT, ggeT, eCeT, hdeT⟩, PySem.W.exm_ref eCeX hdeX tCeX sbeT, nfeTvalue, q_ou, q_ru, q_ro, q_nu, q_no, q_nr, q_tu, q_to, q_tr, q_tn⟩
  have F0 := fun_mk (st := sAreEqual) l0 c0 k0
  have b0 := F0.binds (ps := ["one", "other"]) fun _ _ _ _ _ _ us hl => match us, hl with | [_, _], _ => rfl
  have F1 := fun_mk (st := sIsCalled) l1 c1 k1
  have b1 := F1.binds (ps := ["value", "name"]) fun _ _ _ _ _ _ us hl => match us, hl with | [_, _], _ => rfl
  have F2 := fun_mk (st := sIsInteger) l2 c2 k2
  have b2 := F2.binds (ps := ["value"]) fun _ _ _ _ _ _ us hl => match us, hl with | [_], _ => rfl
  have F3 := fun_mk (st := sIsWithin) l3 c3 k3
  have b3 := F3.binds (ps := ["value", "least", "most"]) fun _ _ _ _ _ _ us hl => match us, hl with | [_, _, _], _ => rfl
  have F4 := fun_mk (st := sIsList) l4 c4 k4
  have b4 := F4.binds (ps := ["value"]) fun _ _ _ _ _ _ us hl => match us, hl with | [_], _ => rfl
  have F5 := fun_mk (st := sIsNumbers) l5 c5 k5
  have b5 := F5.binds (ps := ["value"]) fun _ _ _ _ _ _ us hl => match us, hl with | [_], _ => rfl
  have F6 := fun_mk (st := sIsExactly) l6 c6 k6
  have b6 := F6.binds (ps := ["value", "right"]) fun _ _ _ _ _ _ us hl => match us, hl with | [_, _], _ => rfl
  have F7 := fun_mk (st := sFixed) l7 c7 k7
  have b7 := F7.binds (ps := ["value"]) fun _ _ _ _ _ _ us hl => match us, hl with | [_], _ => rfl
  have F8 := fun_mk (st := sFirstTwice) l8 c8 k8
  have b8 := F8.binds (ps := ["values"]) fun _ _ _ _ _ _ us hl => match us, hl with | [_], _ => rfl
  have F9 := fun_mk (st := sTwiceAt) l9 c9 k9
  have b9 := F9.binds (ps := ["values"]) fun _ _ _ _ _ _ us hl => match us, hl with | [_], _ => rfl
  have F10 := fun_mk (st := sWantBar) l10 c10 k10
  have b10 := F10.binds (ps := ["value", "many"]) fun _ _ _ _ _ _ us hl => match us, hl with | [_, _], _ => rfl
  have F11 := fun_mk (st := sWantLot) l11 c11 k11
  have b11 := F11.binds (ps := ["value", "many", "part"]) fun _ _ _ _ _ _ us hl => match us, hl with | [_, _, _], _ => rfl
  have F12 := fun_mk (st := sWantLots) l12 c12 k12
  have b12 := F12.binds (ps := ["value", "many", "part"]) fun _ _ _ _ _ _ us hl => match us, hl with | [_, _, _], _ => rfl
  have F13 := fun_mk (st := sWantAsMany) l13 c13 k13
  have b13 := F13.binds (ps := ["one", "other"]) fun _ _ _ _ _ _ us hl => match us, hl with | [_, _], _ => rfl
  have F14 := fun_mk (st := sAreLengths) l14 c14 k14
  have b14 := F14.binds (ps := ["value"]) fun _ _ _ _ _ _ us hl => match us, hl with | [_], _ => rfl
  have F15 := fun_mk (st := sHasLevel) l15 c15 k15
  have b15 := F15.binds (ps := ["lengths"]) fun _ _ _ _ _ _ us hl => match us, hl with | [_], _ => rfl
  have F16 := fun_mk (st := sWantRing) l16 c16 k16
  have b16 := F16.binds (ps := ["value", "part"]) fun _ _ _ _ _ _ us hl => match us, hl with | [_, _], _ => rfl
  have F17 := fun_mk (st := sAreStrands) l17 c17 k17
  have b17 := F17.binds (ps := ["value"]) fun _ _ _ _ _ _ us hl => match us, hl with | [_], _ => rfl
  have F18 := fun_mk (st := sIsStrand) l18 c18 k18
  have b18 := F18.binds (ps := ["value"]) fun _ _ _ _ _ _ us hl => match us, hl with | [_], _ => rfl
  have F19 := fun_mk (st := sAsStrand) l19 c19 k19
  have b19 := F19.binds (ps := ["pairs"]) fun _ _ _ _ _ _ us hl => match us, hl with | [_], _ => rfl
  have F20 := fun_mk (st := sCanLine) l20 c20 k20
  have b20 := F20.binds (ps := ["ring", "lineup"]) fun _ _ _ _ _ _ us hl => match us, hl with | [_, _], _ => rfl
  have F21 := fun_mk (st := sWithSigns) l21 c21 k21
  have b21 := F21.binds (ps := ["ring", "lots"]) fun _ _ _ _ _ _ us hl => match us, hl with | [_, _], _ => rfl
  have F22 := fun_mk (st := sNetsOf) l22 c22 k22
  have b22 := F22.binds (ps := ["ring", "lineup"]) fun _ _ _ _ _ _ us hl => match us, hl with | [_, _], _ => rfl
  have F23 := fun_mk (st := sTooGreat) l23 c23 k23
  have b23 := F23.binds (ps := ["nets"]) fun _ _ _ _ _ _ us hl => match us, hl with | [_], _ => rfl
  have F24 := fun_mk (st := sIsHad) l24 c24 k24
  have b24 := F24.binds (ps := ["ring", "lineup"]) fun _ _ _ _ _ _ us hl => match us, hl with | [_, _], _ => rfl
  have F25 := fun_mk (st := sFirstSigns) l25 c25 k25
  have b25 := F25.binds (ps := ["ring", "lots"]) fun _ _ _ _ _ _ us hl => match us, hl with | [_, _], _ => rfl
  have F26 := fun_mk (st := sChoices) l26 c26 k26
  have b26 := F26.binds (ps := ["lots"]) fun _ _ _ _ _ _ us hl => match us, hl with | [_], _ => rfl
  have F27 := fun_mk (st := sWithSign) l27 c27 k27
  have b27 := F27.binds (ps := ["row", "bar", "sign"]) fun _ _ _ _ _ _ us hl => match us, hl with | [_, _, _], _ => rfl
  have F28 := fun_mk (st := sWantLineup) l28 c28 k28
  have b28 := F28.binds (ps := ["value", "part"]) fun _ _ _ _ _ _ us hl => match us, hl with | [_, _], _ => rfl
  have F29 := fun_mk (st := sWantLined) l29 c29 k29
  have b29 := F29.binds (ps := ["ring", "lineup"]) fun _ _ _ _ _ _ us hl => match us, hl with | [_, _], _ => rfl
  have F30 := fun_mk (st := sWantParted) l30 c30 k30
  have b30 := F30.binds (ps := ["ring", "lots"]) fun _ _ _ _ _ _ us hl => match us, hl with | [_, _], _ => rfl
  have F31 := fun_mk (st := sShowsSigns) l31 c31 k31
  have b31 := F31.binds (ps := ["ring", "lots", "value"]) fun _ _ _ _ _ _ us hl => match us, hl with | [_, _, _], _ => rfl
  have F32 := fun_mk (st := sLwBench) l32 c32 k32
  have b32 := F32.binds (ps := ["_law_script"]) fun _ _ _ _ _ _ us hl => match us, hl with | [_], _ => rfl
  have F33 := fun_mk (st := sLwDraw) l33 c33 k33
  have b33 := F33.binds (ps := ["_law_bench_here", "_law_many"]) fun _ _ _ _ _ _ us hl => match us, hl with | [_, _], _ => rfl
  have F34 := fun_mk (st := sLwPick) l34 c34 k34
  have b34 := F34.binds (ps := ["_law_bench_here", "_law_some"]) fun _ _ _ _ _ _ us hl => match us, hl with | [_, _], _ => rfl
  have F35 := fun_mk (st := sLwMixed) l35 c35 k35
  have b35 := F35.binds (ps := ["_law_bench_here", "_law_some"]) fun _ _ _ _ _ _ us hl => match us, hl with | [_, _], _ => rfl
  have F36 := fun_mk (st := sLwLengths) l36 c36 k36
  have b36 := F36.binds (ps := ["_law_bench_here", "_law_many"]) fun _ _ _ _ _ _ us hl => match us, hl with | [_, _], _ => rfl
  have F37 := fun_mk (st := sLwParting) l37 c37 k37
  have b37 := F37.binds (ps := ["_law_bench_here", "_law_many"]) fun _ _ _ _ _ _ us hl => match us, hl with | [_, _], _ => rfl
  have F38 := fun_mk (st := sLwIsHad) l38 c38 k38
  have b38 := F38.binds (ps := ["_law_lengths_here", "_law_strands"]) fun _ _ _ _ _ _ us hl => match us, hl with | [_, _], _ => rfl
  have F39 : FunC K "_law_choices" "_law_choices" sLwChoices f39 _ cCO := ⟨⟨_, _, _, _, _, _, _, _, rfl, l39, c39⟩⟩
  have F390 := fun_mk (st := sLwChoices) l39 c39 k39
  have b39 := F390.binds (ps := ["_law_lots"]) fun _ _ _ _ _ _ us hl => match us, hl with | [_], _ => rfl
  have F40 := fun_mk (st := sLwGreat) l40 c40 k40
  have b40 := F40.binds (ps := ["_law_lengths_here", "_law_strands"]) fun _ _ _ _ _ _ us hl => match us, hl with | [_, _], _ => rfl
  have F41 := fun_mk (st := sLwSignsRight) l41 c41 k41
  have b41 := F41.binds (ps := ["_law_bench_here", "_law_lengths_here", "_law_lots"]) fun _ _ _ _ _ _ us hl => match us, hl with | [_, _, _], _ => rfl
  have F42 := fun_mk (st := sLwHeard) l42 c42 k42
  have b42 := F42.binds (ps := ["_law_ask"]) fun _ _ _ _ _ _ us hl => match us, hl with | [_], _ => rfl
  have F43 : FunC K "_law_refused_right" "_law_refused_right" sLwRefusedRight f43 _ cRR := ⟨⟨_, _, _, _, _, _, _, _, rfl, l43, c43⟩⟩
  have F430 := fun_mk (st := sLwRefusedRight) l43 c43 k43
  have b43 := F430.binds (ps := ["_law_bench_here", "_law_lengths_here", "_law_lots"]) fun _ _ _ _ _ _ us hl => match us, hl with | [_, _, _], _ => rfl
  have F44 := fun_mk (st := sLaw) l44 c44 k44
  have b44 := F44.binds (ps := ["_law_script"]) fun _ _ _ _ _ _ us hl => match us, hl with | [_], _ => rfl
  have Fm0 := fun_mk (st := sRingInit) lm0 cm0 km0
  have bm0 := Fm0.binds (ps := ["self", "lengths"]) fun _ _ _ _ _ _ us hl => match us, hl with | [_, _], _ => rfl
  have Fm1 := fun_mk (st := sRingLen) lm1 cm1 km1
  have bm1 := Fm1.binds (ps := ["self"]) fun _ _ _ _ _ _ us hl => match us, hl with | [_], _ => rfl
  have Fm2 := fun_mk (st := sLineUpInit) lm2 cm2 km2
  have bm2 := Fm2.binds (ps := ["self", "strands"]) fun _ _ _ _ _ _ us hl => match us, hl with | [_, _], _ => rfl
  have Fm3 := fun_mk (st := sBadRingInit) lm3 cm3 km3
  have bm3 := Fm3.binds (ps := ["self", "part"]) fun _ _ _ _ _ _ us hl => match us, hl with | [_, _], _ => rfl
  have Fm4 := fun_mk (st := sBadLotInit) lm4 cm4 km4
  have bm4 := Fm4.binds (ps := ["self", "part"]) fun _ _ _ _ _ _ us hl => match us, hl with | [_, _], _ => rfl
  have Fm5 := fun_mk (st := sMissingInit) lm5 cm5 km5
  have bm5 := Fm5.binds (ps := ["self", "value"]) fun _ _ _ _ _ _ us hl => match us, hl with | [_, _], _ => rfl
  have Fm6 := fun_mk (st := sTwiceInit) lm6 cm6 km6
  have bm6 := Fm6.binds (ps := ["self", "value"]) fun _ _ _ _ _ _ us hl => match us, hl with | [_, _], _ => rfl
  have Fm7 := fun_mk (st := sBadLineUpInit) lm7 cm7 km7
  have bm7 := Fm7.binds (ps := ["self", "part"]) fun _ _ _ _ _ _ us hl => match us, hl with | [_, _], _ => rfl
  have Fm8 := fun_mk (st := sMisfitInit) lm8 cm8 km8
  have bm8 := Fm8.binds (ps := ["self", "part"]) fun _ _ _ _ _ _ us hl => match us, hl with | [_, _], _ => rfl
  have Fm9 := fun_mk (st := sLineUpEq) lm9 cm9 km9
  have bm9 := Fm9.binds (ps := ["self", "other"]) fun _ _ _ _ _ _ us hl => match us, hl with | [_, _], _ => rfl
  have Fm10 := fun_mk (st := sPaperEq) lm10 cm10 km10
  have bm10 := Fm10.binds (ps := ["self", "other"]) fun _ _ _ _ _ _ us hl => match us, hl with | [_, _], _ => rfl
  have Fm11 := fun_mk (st := sDenialEq) lm11 cm11 km11
  have bm11 := Fm11.binds (ps := ["self", "other"]) fun _ _ _ _ _ _ us hl => match us, hl with | [_, _], _ => rfl
  have Fm12 := fun_mk (st := sPaperBool) lm12 cm12 km12
  have bm12 := Fm12.binds (ps := ["self"]) fun _ _ _ _ _ _ us hl => match us, hl with | [_], _ => rfl
  have Fm13 := fun_mk (st := sDenialBool) lm13 cm13 km13
  have bm13 := Fm13.binds (ps := ["self"]) fun _ _ _ _ _ _ us hl => match us, hl with | [_], _ => rfl
  have Fm14 := fun_mk (st := sPaperBool) lm14 cm14 km14
  have bm14 := Fm14.binds (ps := ["self"]) fun _ _ _ _ _ _ us hl => match us, hl with | [_], _ => rfl
  have Fm15 := fun_mk (st := sDenialBool) lm15 cm15 km15
  have bm15 := Fm15.binds (ps := ["self"]) fun _ _ _ _ _ _ us hl => match us, hl with | [_], _ => rfl
  refine ⟨PySem.W.fnOf "law" "law" (defArgs sLaw) (defBody sLaw) (defScope sLaw) .none kV44 dc44 pm44 an44 cd44 ct44, [(cCO, P1), (cRR, P2)], spLaw K (T2 P1 P2), fun p hp => ?_, fun p hp => ?_, fun p hp => ?_, fun s v => .of_eq rfl, fun H a ns hl _ hT' hs => ?_, fun base KB GB TB => ?_⟩
  · rcases List.mem_cons.mp hp with e | e
    · rw [e]; exact hT1
    · rw [List.mem_singleton.mp e]; exact hT2
  · rcases List.mem_cons.mp hp with e | e
    · rw [e]; exact nT1
    · rw [List.mem_singleton.mp e]; exact nT2
  · rcases List.mem_cons.mp hp with e | e
    · rw [e]; exact PySem.W.codeHd_of_K X (code_hd lc1 hdc1)
    · rw [List.mem_singleton.mp e]; exact PySem.W.codeHd_of_K X (code_hd lc2 hdc2)
  · refine ⟨a, ns, rfl, hs, by omega, fun p hp => ?_, fun _ => rfl⟩
    rcases List.mem_cons.mp hp with e | e
    · rw [e]; exact TabS.nil (hT' _ (List.mem_cons_self ..))
    · rw [List.mem_singleton.mp e]; exact TabS.nil (hT' _ (List.mem_cons_of_mem _ (List.mem_singleton.mpr rfl)))
  · have tb1 := TB _ (List.mem_cons_self ..)
    have tb2 := TB _ (List.mem_cons_of_mem _ (List.mem_singleton.mpr rfl))
    have hm1 : (P1, qCo) ∈ T2 P1 P2 := List.mem_cons_self ..
    have hm2 : (P2, qRr) ∈ T2 P1 P2 := List.mem_cons_of_mem _ (List.mem_singleton.mpr rfl)
    have hu1 : ∀ p ∈ T2 P1 P2, p.1 = P1 → p.2 = qCo := fun p hp e => by
      rcases List.mem_cons.mp hp with z | z
      · rw [z]
      · rw [List.mem_singleton.mp z] at e
        exact absurd e.symm nP
    have hu2 : ∀ p ∈ T2 P1 P2, p.1 = P2 → p.2 = qRr := fun p hp e => by
      rcases List.mem_cons.mp hp with z | z
      · rw [z] at e
        exact absurd e nP
      · rw [List.mem_singleton.mp z]
    have dInt := (⟨ok_isInt F2 T, gl a2, k2, b2⟩ : DefAt l.prog w K mg base _ _ "is_integer" _ _ _ _)
    have dList := (⟨ok_isList F4 T, gl a4, k4, b4⟩ : DefAt l.prog w K mg base _ _ "is_list" _ _ _ _)
    have dWith := (⟨ok_within F3 dInt, gl a3, k3, b3⟩ : DefAt l.prog w K mg base _ _ "is_within" _ _ _ _)
    have dNO := (⟨ok_numsO F5 T dInt dList, gl a5, k5, b5⟩ : DefAt l.prog w K mg base _ _ "is_numbers" _ _ _ _)
    have dNL := (⟨ok_numsL F5 T dInt dList, gl a5, k5, b5⟩ : DefAt l.prog w K mg base _ _ "is_numbers" _ _ _ _)
    have dNT := (⟨ok_numsT F5 T dInt dList, gl a5, k5, b5⟩ : DefAt l.prog w K mg base _ _ "is_numbers" _ _ _ _)
    have eR' : ErrAt l.prog w K mg base "BadRing" "part" eR fm3 _ := ⟨oeR, am3, tim3, nfeRpart, gl aeR, bm3, ok_badRingI Fm3⟩
    have eL' : ErrAt l.prog w K mg base "BadLot" "part" eL fm4 _ := ⟨oeL, am4, tim4, nfeLpart, gl aeL, bm4, ok_badLotI Fm4⟩
    have eN' : ErrAt l.prog w K mg base "NoBar" "value" eN fm5 _ := ⟨oeN, am5, tim5, nfeNvalue, gl aeN, bm5, ok_missingI Fm5⟩
    have eT' : ErrAt l.prog w K mg base "Twice" "value" eT fm6 _ := ⟨oeT, am6, tim6, nfeTvalue, gl aeT, bm6, ok_twiceI Fm6⟩
    have eU' : ErrAt l.prog w K mg base "BadLineUp" "part" eU fm7 _ := ⟨oeU, am7, tim7, nfeUpart, gl aeU, bm7, ok_badLineUpI Fm7⟩
    have eM' : ErrAt l.prog w K mg base "Misfit" "part" eM fm8 _ := ⟨oeM, am8, tim8, nfeMpart, gl aeM, bm8, ok_misfitI Fm8⟩
    have dFx := (⟨ok_fixed F7 T, gl a7, k7, b7⟩ : DefAt l.prog w K mg base _ _ "fixed" _ _ _ _)
    have dAtL := (⟨ok_taL F9 T dFx, gl a9, k9, b9⟩ : DefAt l.prog w K mg base _ _ "twice_at" _ _ _ _)
    have dAtT := (⟨ok_taT F9 T dFx, gl a9, k9, b9⟩ : DefAt l.prog w K mg base _ _ "twice_at" _ _ _ _)
    have dTwL := (⟨ok_twL F8 dFx dAtL, gl a8, k8, b8⟩ : DefAt l.prog w K mg base _ _ "first_twice" _ _ _ _)
    have dTwT := (⟨ok_twT F8 dFx dAtT, gl a8, k8, b8⟩ : DefAt l.prog w K mg base _ _ "first_twice" _ _ _ _)
    have dF2 := at_fz (P := l.prog) (w := w) (base := base) F7 T (gl a7) k7 b7 2
    have dF3 := at_fz (P := l.prog) (w := w) (base := base) F7 T (gl a7) k7 b7 3
    have dFzI := (⟨ok_fzI F7 T NS, gl a7, k7, b7⟩ : DefAt l.prog w K mg base _ _ "fixed" _ _ _ _)
    have dFzT := (⟨ok_fzT F7 T dFzI, gl a7, k7, b7⟩ : DefAt l.prog w K mg base _ _ "fixed" _ _ _ _)
    have dWB := (⟨ok_wantBar F10 dWith eN', gl a10, k10, b10⟩ : DefAt l.prog w K mg base _ _ "want_bar" _ _ _ _)
    have w2 := ok_wsL (c := ⟨eL, eN, eT⟩) F11 T dNL dWB dTwL eL' eT'
    have w3 := ok_wsT (c := ⟨eL, eN, eT⟩) F11 T dNT dWB dTwT eL' eT'
    have dWSA := (⟨ok_wsA w2 w3, gl a11, k11, b11⟩ : DefAt l.prog w K mg base _ _ "want_lot" _ _ _ _)
    have dNA := (⟨ok_numsA dNO.ok dNL.ok dNT.ok, gl a5, k5, b5⟩ : DefAt l.prog w K mg base _ _ "is_numbers" _ _ _ _)
    have dWLs := (⟨fn_or (ok_wlsO (c := ⟨eL, eN, eT⟩) (fL := C) (fdL := PySem.W.fnOf "want_lots" "want_lots" (defArgs sWantLots) (defBody sWantLots) (defScope sWantLots) .none kV12 dc12 pm12 an12 cd12 ct12) F12 T dList dNA dWSA eL') (fn_or (ok_wlsL (c := ⟨eL, eN, eT⟩) (fL := C) (fdL := PySem.W.fnOf "want_lots" "want_lots" (defArgs sWantLots) (defBody sWantLots) (defScope sWantLots) .none kV12 dc12 pm12 an12 cd12 ct12) F12 T dList dNA dWSA eL') (ok_wlsT (c := ⟨eL, eN, eT⟩) (fL := C) (fdL := PySem.W.fnOf "want_lots" "want_lots" (defArgs sWantLots) (defBody sWantLots) (defScope sWantLots) .none kV12 dc12 pm12 an12 cd12 ct12) F12 T dList dNA dWSA eL')), gl a12, k12, b12⟩ : DefAt l.prog w K mg base _ _ "want_lots" _ _ _ _)
    have dAL := (⟨ok_areL F14 T N dWith dList, gl a14, k14, b14⟩ : DefAt l.prog w K mg base _ _ "are_lengths" _ _ _ _)
    have dHL := (⟨ok_hasL F15 T, gl a15, k15, b15⟩ : DefAt l.prog w K mg base _ _ "has_level" _ _ _ _)
    have Gp : RingP l.prog w K mg base C fm0 _ := ⟨⟨rC_mk, am0, im0, rC_kc⟩, ok_ri (P := l.prog) (w := w) (base := base) Fm0 T N R dAL dHL, bm0⟩
    have NL := ok_rlen (P := l.prog) (w := w) (base := base) Fm1 T R
    have NM : Meth K C "__len__" fm1 := ⟨am1, im1, km1⟩
    have dWR := (⟨ok_wantR F16 T R eR', gl a16, k16, b16⟩ : DefAt l.prog w K mg base _ _ "want_ring" _ _ _ _)
    have dIS := (⟨ok_is F18 T dList dNT, gl a18, k18, b18⟩ : DefAt l.prog w K mg base _ _ "is_strand" _ _ _ _)
    have dASs := (⟨ok_asS F19 T, gl a19, k19, b19⟩ : DefAt l.prog w K mg base _ _ "as_strand" _ _ _ _)
    have dAre := (⟨ok_are F17 T N dList dIS, gl a17, k17, b17⟩ : DefAt l.prog w K mg base _ _ "are_strands" _ _ _ _)
    have Lp : LineP l.prog w K mg base CL fm2 _ := ⟨⟨rCL_mk, am2, im2, rCL_kc⟩, ok_lu (P := l.prog) (w := w) (base := base) Fm2 T RL dAre dASs dF2, bm2⟩
    have dWM := (⟨ok_asM F13 eM', gl a13, k13, b13⟩ : DefAt l.prog w K mg base _ _ "want_as_many" _ _ _ _)
    have dWU := (⟨ok_wantU F28 T (gl aCL) EL eU', gl a28, k28, b28⟩ : DefAt l.prog w K mg base _ _ "want_lineup" _ _ _ _)
    have dWL := (⟨ok_wld F29 T RL NM NL bm1 dWR dWU dWM, gl a29, k29, b29⟩ : DefAt l.prog w K mg base _ _ "want_lined" _ _ _ _)
    have dNe := (⟨ok_nets F22 T R RL, gl a22, k22, b22⟩ : DefAt l.prog w K mg base _ _ "nets_of" _ _ _ _)
    have dTG := (⟨ok_tg F23 T, gl a23, k23, b23⟩ : DefAt l.prog w K mg base _ _ "too_great" _ _ _ _)
    have FPi := fun_mk (st := sPaperInit) lPi cPi kPi
    have PI1 := ok_pi (P := l.prog) (w := w) (mg := mg) (base := base) (n := 1) FPi dF2
    have PI2 := ok_pi (P := l.prog) (w := w) (mg := mg) (base := base) (n := 2) FPi dF3
    have PIM := ok_pim (P := l.prog) (w := w) (mg := mg) (base := base) FPi RM.pc dFzT
    have FEiN : FunS K "__init__" "Nets.__init__" sNetsInit fEN cEN ccEN _ := ⟨⟨_, _, _, _, _, _, _, _, rfl, lEiN, cEiN⟩, kEiN⟩
    have bEiN := FEiN.binds (ps := ["self", "nets"]) fun _ _ _ _ _ us hl => match us, hl with | [_, _], _ => rfl
    have SAN : SupAt l.prog K mg (nfS sNetsInit "__init__" "Nets.__init__" ccEN cEN) fEN CN ccEN := ⟨rfl, ⟨_, rfl, rfl⟩, ⟨_, _, _, _, _, _, loEN, vsE2N, fiEN⟩, ⟨_, _, _, ceEN⟩, (let ⟨cd, hc, _⟩ := PySem.W.any_some clN.hd; ⟨cd, hc⟩), PySem.W.mg_none_of X G z_super, topS, show (defScope sNetsInit).names.lookup ("super" : Str) = some .globalImplicit by decide +kernel⟩
    have STN : SupTo K CN CN fPi := ⟨mEEN, thE, toEN, tyP, fnP⟩
    have FEiG : FunS K "__init__" "TooGreat.__init__" sTooGreatInit fEG cEG ccEG _ := ⟨⟨_, _, _, _, _, _, _, _, rfl, lEiG, cEiG⟩, kEiG⟩
    have bEiG := FEiG.binds (ps := ["self", "lot", "net", "others"]) fun _ _ _ _ _ us hl => match us, hl with | [_, _, _, _], _ => rfl
    have SAG : SupAt l.prog K mg (nfS sTooGreatInit "__init__" "TooGreat.__init__" ccEG cEG) fEG CG ccEG := ⟨rfl, ⟨_, rfl, rfl⟩, ⟨_, _, _, _, _, _, loEG, vsE2G, fiEG⟩, ⟨_, _, _, ceEG⟩, (let ⟨cd, hc, _⟩ := PySem.W.any_some clG.hd; ⟨cd, hc⟩), PySem.W.mg_none_of X G z_super, topS, show (defScope sTooGreatInit).names.lookup ("super" : Str) = some .globalImplicit by decide +kernel⟩
    have STG : SupTo K CG CG fPi := ⟨mEEG, thE, toEG, tyP, fnP⟩
    have FEiM : FunS K "__init__" "Signs.__init__" sSignsInit fEM cEM ccEM _ := ⟨⟨_, _, _, _, _, _, _, _, rfl, lEiM, cEiM⟩, kEiM⟩
    have bEiM := FEiM.binds (ps := ["self", "lineup"]) fun _ _ _ _ _ us hl => match us, hl with | [_, _], _ => rfl
    have SAM : SupAt l.prog K mg (nfS sSignsInit "__init__" "Signs.__init__" ccEM cEM) fEM CM ccEM := ⟨rfl, ⟨_, rfl, rfl⟩, ⟨_, _, _, _, _, _, loEM, vsE2M, fiEM⟩, ⟨_, _, _, ceEM⟩, (let ⟨cd, hc, _⟩ := PySem.W.any_some clM.hd; ⟨cd, hc⟩), PySem.W.mg_none_of X G z_super, topS, show (defScope sSignsInit).names.lookup ("super" : Str) = some .globalImplicit by decide +kernel⟩
    have STM : SupTo K CM CM fPi := ⟨mEEM, thE, toEM, tyP, fnP⟩
    have FEiO : FunS K "__init__" "NoSigns.__init__" sNoSignsInit fEO cEO ccEO _ := ⟨⟨_, _, _, _, _, _, _, _, rfl, lEiO, cEiO⟩, kEiO⟩
    have bEiO := FEiO.binds (ps := ["self", "lots"]) fun _ _ _ _ _ us hl => match us, hl with | [_, _], _ => rfl
    have SAO : SupAt l.prog K mg (nfS sNoSignsInit "__init__" "NoSigns.__init__" ccEO cEO) fEO CO ccEO := ⟨rfl, ⟨_, rfl, rfl⟩, ⟨_, _, _, _, _, _, loEO, vsE2O, fiEO⟩, ⟨_, _, _, ceEO⟩, (let ⟨cd, hc, _⟩ := PySem.W.any_some clO.hd; ⟨cd, hc⟩), PySem.W.mg_none_of X G z_super, topS, show (defScope sNoSignsInit).names.lookup ("super" : Str) = some .globalImplicit by decide +kernel⟩
    have STO : SupTo K CO CO fPi := ⟨mEEO, thE, toEO, tyP, fnP⟩
    have NP : NetsP l.prog w K mg base CN fEN _ := ⟨⟨rCN_mk, aEiN, iEiN, rCN_kc⟩, ok_ni (P := l.prog) (w := w) (base := base) (n := 1) FEiN SAN RN STN PI1, bEiN⟩
    have GP : TooGreatP l.prog w K mg base CG fEG _ := ⟨⟨rCG_mk, aEiG, iEiG, rCG_kc⟩, ok_gi (P := l.prog) (w := w) (base := base) (n := 1) FEiG SAG TGC STG PI1, bEiG⟩
    have MP : MostP l.prog w K mg base CM CL fEM _ := ⟨⟨rCM_mk, aEiM, iEiM, rCM_kc⟩, ok_mi (P := l.prog) (w := w) (base := base) FEiM SAM RM STM PIM, bEiM⟩
    have OP : NoSgP l.prog w K mg base CO fEO _ := ⟨⟨rCO_mk, aEiO, iEiO, rCO_kc⟩, ok_oi (P := l.prog) (w := w) (base := base) (n := 2) FEiO SAO RO STO PI2, bEiO⟩
    have dCL := (⟨ok_cl F20 T RL RN TGC NP GP dWL dNe dTG, gl a20, k20, b20⟩ : DefAt l.prog w K mg base _ _ "can_line" _ _ _ _)
    have dCLc := (⟨ok_clc dCL.ok, gl a20, k20, b20⟩ : DefAt l.prog w K mg base _ _ "can_line" _ _ _ _)
    have dWS := (⟨ok_ws F27, gl a27, k27, b27⟩ : DefAt l.prog w K mg base _ _ "with_sign" _ _ _ _)
    have dCH := (⟨ok_ch F26 T dWS, gl a26, k26, b26⟩ : DefAt l.prog w K mg base _ _ "choices" _ _ _ _)
    have dIH := (⟨ok_ih F24 T dNe dTG, gl a24, k24, b24⟩ : DefAt l.prog w K mg base _ _ "is_had" _ _ _ _)
    have dFS := (⟨ok_fs F25 T Lp RL dCH dNe dTG, gl a25, k25, b25⟩ : DefAt l.prog w K mg base _ _ "first_signs" _ _ _ _)
    have dWP := (⟨ok_wp (c := ⟨eL, eN, eT⟩) F30 T NM NL bm1 dWR dWLs eU', gl a30, k30, b30⟩ : DefAt l.prog w K mg base _ _ "want_parted" _ _ _ _)
    have dWG := (⟨ok_wg F21 RM MP RO OP dWP dFS, gl a21, k21, b21⟩ : DefAt l.prog w K mg base _ _ "with_signs" _ _ _ _)
    have dWGc := (⟨ok_wgc dWG.ok, gl a21, k21, b21⟩ : DefAt l.prog w K mg base _ _ "with_signs" _ _ _ _)
    have dWGf := (⟨ok_wgf dWG.ok, gl a21, k21, b21⟩ : DefAt l.prog w K mg base _ _ "with_signs" _ _ _ _)
    have dIX := at_ix (P := l.prog) (w := w) (base := base) F6 T dInt (gl a6) k6 b6 2
    have dIC := (⟨ok_ic F1, gl a1, k1, b1⟩ : DefAt l.prog w K mg base _ _ "is_called" _ _ _ _)
    have dSG := (⟨ok_sg F31 T RM RO RL EL EM EO NM1 NM2 kOM dWP dFS dIC dIX dIH, gl a31, k31, b31⟩ : DefAt l.prog w K mg base _ _ "shows_signs" _ _ _ _)
    have dSGc := (⟨ok_sgc dSG.ok, gl a31, k31, b31⟩ : DefAt l.prog w K mg base _ _ "shows_signs" _ _ _ _)
    have dSGf := (⟨ok_sgf dSG.ok, gl a31, k31, b31⟩ : DefAt l.prog w K mg base _ _ "shows_signs" _ _ _ _)
    have LQ : LineQ l.prog w K mg base CL fm9 _ := ⟨ok_lq Fm9 T RL EL, neL, suL, am9, im9, bm9⟩
    have dAE := (⟨ok_aem F0 RM EM NM1 LQ, gl a0, k0, b0⟩ : DefAt l.prog w K mg base _ _ "are_equal" _ _ _ _)
    have dAEo := (⟨ok_aeo F0 RO EO NM2, gl a0, k0, b0⟩ : DefAt l.prog w K mg base _ _ "are_equal" _ _ _ _)
    have MQ : MostQ l.prog w K mg base CM CL fm10 _ := ⟨ok_pem Fm10 T (gl aPa) kMP EM dAE, neM, suM, am10, im10, bm10⟩
    have OQ : NoSQ l.prog w K mg base CO fm11 _ := ⟨ok_peo Fm11 T (gl aPa) kOP EO dAEo, neO, suO, am11, im11, bm11⟩
    have BM : PapB l.prog w K mg base CM fm12 _ true := ⟨ok_PBT Fm12, bm12, am12, im12⟩
    have BO : PapB l.prog w K mg base CO fm13 _ false := ⟨ok_PBF Fm13, bm13, am13, im13⟩
    have BN : PapB l.prog w K mg base CN fm14 _ true := ⟨ok_PBT Fm14, bm14, am14, im14⟩
    have BG : PapB l.prog w K mg base CG fm15 _ false := ⟨ok_PBF Fm15, bm15, am15, im15⟩
    have kwg : KBinds K _ ["ring", "lots"] ["lots", "ring"] gK2 gK2 := kb_lr (fun a b s => .of_eq rfl) (fd := PySem.W.fnOf "with_signs" "with_signs" (defArgs sWithSigns) (defBody sWithSigns) (defScope sWithSigns) .none kV21 dc21 pm21 an21 cd21 ct21)
    have ksg : KBinds K _ ["ring", "lots", "value"] ["value", "lots", "ring"] gK3 gK3 := kb_vlr (fun v a b s => .of_eq rfl) (fd := PySem.W.fnOf "shows_signs" "shows_signs" (defArgs sShowsSigns) (defBody sShowsSigns) (defScope sShowsSigns) .none kV31 dc31 pm31 an31 cd31 ct31)
    have kbm : KBn K _ ["self", "lineup"] 1 ["lineup"] gM2 gM2 := kbn_two (fd := PySem.W.fnX "__init__" "Signs.__init__" (defArgs sSignsInit) (defBody sSignsInit) (defScope sSignsInit) [(("__class__" : Str), ccEM)] .none kVEM dcEM pmEM anEM (.ref cEM) ctEM) (fun a b s => .of_eq rfl)
    have dDr : DrawAt l.prog w K mg base _ _ := ⟨ok_draw F33 T, gl a33, k33, b33⟩
    have dPn := (⟨ok_pen F32 T, gl a32, k32, b32⟩ : DefAt l.prog w K mg base _ _ "_law_bench" _ _ _ _)
    have dPk := (⟨ok_pick F34 T dDr, gl a34, k34, b34⟩ : DefAt l.prog w K mg base _ _ "_law_pick" _ _ _ _)
    have dMx := (⟨ok_mixed F35 T dDr, gl a35, k35, b35⟩ : DefAt l.prog w K mg base _ _ "_law_mixed" _ _ _ _)
    have dLn := (⟨ok_lengths F36 T dDr, gl a36, k36, b36⟩ : DefAt l.prog w K mg base _ _ "_law_lengths" _ _ _ _)
    have dPT := (⟨ok_pt F37 T dDr dPk, gl a37, k37, b37⟩ : DefAt l.prog w K mg base _ _ "_law_parting" _ _ _ _)
    have dIHD := (⟨ok_ihd F38 T, gl a38, k38, b38⟩ : DefAt l.prog w K mg base _ _ "_law_is_had" _ _ _ _)
    have dGR := (⟨ok_gr F40 T B2, gl a40, k40, b40⟩ : DefAt l.prog w K mg base _ _ "_law_great" _ _ _ _)
    have dCO := (⟨ok_co F39 T B2 tb1 hm1 hu1, gl a39, k39, b39⟩ : DefAt l.prog w K mg base _ _ "_law_choices" _ _ _ _)
    have dSR := (⟨ok_sr F41 T B2 Gp R Lp RL MP RM kbm OP RO EL EM EO kMO dCO dDr dMx dWGc kwg dSGc ksg dCLc dIHD dGR dPk MQ OQ LQ BM BO BN BG, gl a41, k41, b41⟩ : DefAtG l.prog w K mg base _ _ "_law_signs_right" _ _ _ _)
    have dRR := (⟨ok_rr (hc := ⟨eU, eL, eR, eN, eT⟩) F43 T B2 Gp R KT dPk dWGf dSGf Hc tb2 hm2 hu2 F42 b42 (gl a42), gl a43, k43, b43⟩ : DefAt l.prog w K mg base _ _ "_law_refused_right" _ _ _ _)
    exact ok_law F44 T dPn dLn dPk dPT dSR dRR
end K
local macro_rules | `(tactic| o_head ($_:ident $k $a $_ $ts)) => `(tactic| refine K.head52 (Kf := $k) (as := $a) (ts := $ts) (fun _ => by kernel_rfl) (fun w os => by kernel_rfl) ?$(Lean.mkIdent `hw) ?$(Lean.mkIdent `hc))
open PySem PySem.W PyProof.Rows in
set_option maxRecDepth 100000 in
set_option maxHeartbeats 0 in
theorem PySem.Challenge.cw_ringbars_k52_signs_for_told_lots_holds : PySem.Challenge.rw_ringbars_k52_signs_for_told_lots.Holds := by
  w_on; o_law; k_head; (case hw => w_witness2)
  k_fill
  refine LamX.walk_ofG (la := PySem.Challenge.rw_ringbars_k52_signs_for_told_lots) (mo := 63) (lev := 13) (xn := "_law_script") (Cx1 := fun _ => L2.CX0) rfl (by decide) rfl ⟨rfl, by decide, by decide⟩ (fun w h Y => K.kk_in_of Y) ?F (fun _ _ _ _ _ z => z)
  case F =>
    intro w mg fa h Y KX G hmg
    rw [K.d52_name] at hmg
    refine' K.all_mk KX G hmg ?aC ?aCL ?aCN ?aCG ?aCM ?aCO ?aeX ?aeR ?aeL ?aeN ?aeT ?aeU ?aeM ?a0 ?l0 ?c0 ?k0 ?a1 ?l1 ?c1 ?k1 ?a2 ?l2 ?c2 ?k2 ?a3 ?l3 ?c3 ?k3 ?a4 ?l4 ?c4 ?k4 ?a5 ?l5 ?c5 ?k5 ?a6 ?l6 ?c6 ?k6 ?a7 ?l7 ?c7 ?k7 ?a8 ?l8 ?c8 ?k8 ?a9 ?l9 ?c9 ?k9 ?a10 ?l10 ?c10 ?k10 ?a11 ?l11 ?c11 ?k11 ?a12 ?l12 ?c12 ?k12 ?a13 ?l13 ?c13 ?k13 ?a14 ?l14 ?c14 ?k14 ?a15 ?l15 ?c15 ?k15 ?a16 ?l16 ?c16 ?k16 ?a17 ?l17 ?c17 ?k17 ?a18 ?l18 ?c18 ?k18 ?a19 ?l19 ?c19 ?k19 ?a20 ?l20 ?c20 ?k20 ?a21 ?l21 ?c21 ?k21 ?a22 ?l22 ?c22 ?k22 ?a23 ?l23 ?c23 ?k23 ?a24 ?l24 ?c24 ?k24 ?a25 ?l25 ?c25 ?k25 ?a26 ?l26 ?c26 ?k26 ?a27 ?l27 ?c27 ?k27 ?a28 ?l28 ?c28 ?k28 ?a29 ?l29 ?c29 ?k29 ?a30 ?l30 ?c30 ?k30 ?a31 ?l31 ?c31 ?k31 ?a32 ?l32 ?c32 ?k32 ?a33 ?l33 ?c33 ?k33 ?a34 ?l34 ?c34 ?k34 ?a35 ?l35 ?c35 ?k35 ?a36 ?l36 ?c36 ?k36 ?a37 ?l37 ?c37 ?k37 ?a38 ?l38 ?c38 ?k38 ?a39 ?l39 ?c39 ?k39 ?a40 ?l40 ?c40 ?k40 ?a41 ?l41 ?c41 ?k41 ?a42 ?l42 ?c42 ?k42 ?a43 ?l43 ?c43 ?k43 ?a44 ?l44 ?c44 ?k44 ?am0 ?im0 ?lm0 ?cm0 ?km0 ?am1 ?im1 ?lm1 ?cm1 ?km1 ?am2 ?im2 ?lm2 ?cm2 ?km2 ?am3 ?im3 ?lm3 ?cm3 ?km3 ?tim3 ?am4 ?im4 ?lm4 ?cm4 ?km4 ?tim4 ?am5 ?im5 ?lm5 ?cm5 ?km5 ?tim5 ?am6 ?im6 ?lm6 ?cm6 ?km6 ?tim6 ?am7 ?im7 ?lm7 ?cm7 ?km7 ?tim7 ?am8 ?im8 ?lm8 ?cm8 ?km8 ?tim8 ?am9 ?im9 ?lm9 ?cm9 ?km9 ?am10 ?im10 ?lm10 ?cm10 ?km10 ?am11 ?im11 ?lm11 ?cm11 ?km11 ?am12 ?im12 ?lm12 ?cm12 ?km12 ?am13 ?im13 ?lm13 ?cm13 ?km13 ?am14 ?im14 ?lm14 ?cm14 ?km14 ?am15 ?im15 ?lm15 ?cm15 ?km15 ?rC_pg ?rC_hd ?rC_po ?rC_sa ?rC_mk ?rC_kc ?rC_ha ?rC_hm ?rC_n_lengths ?rC_n_total ?rC_n_closes ?rC_n_is_clear ?rCL_pg ?rCL_hd ?rCL_po ?rCL_sa ?rCL_mk ?rCL_kc ?rCL_ha ?rCL_hm ?rCL_n_strands ?rCL_n_lots ?rCL_n_many ?rCN_pg ?rCN_hd ?rCN_po ?rCN_sa ?rCN_mk ?rCN_kc ?rCN_ha ?rCN_hm ?rCN_n_word ?rCN_n_parts ?rCN_n_nets ?rCG_pg ?rCG_hd ?rCG_po ?rCG_sa ?rCG_mk ?rCG_kc ?rCG_ha ?rCG_hm ?rCG_n_word ?rCG_n_parts ?rCG_n_lot ?rCG_n_net ?rCG_n_others ?rCM_pg ?rCM_hd ?rCM_po ?rCM_sa ?rCM_mk ?rCM_kc ?rCM_ha ?rCM_hm ?rCM_n_word ?rCM_n_parts ?rCM_n_lineup ?rCO_pg ?rCO_hd ?rCO_po ?rCO_sa ?rCO_mk ?rCO_kc ?rCO_ha ?rCO_hm ?rCO_n_word ?rCO_n_parts ?rCO_n_lots ?rhn ?rht ?kN ?kI ?kS ?kL ?lL ?lT ?kMP ?kOP ?kMO ?kOM ?q_ou ?q_ru ?q_ro ?q_nu ?q_no ?q_nr ?q_tu ?q_to ?q_tr ?q_tn ?aPa ?topS ?thE ?tyP ?fnP ?lPi ?cPi ?kPi ?aEiN ?iEiN ?lEiN ?cEiN ?kEiN ?loEN ?vsE2N ?fiEN ?ceEN ?mEEN ?toEN ?aEiG ?iEiG ?lEiG ?cEiG ?kEiG ?loEG ?vsE2G ?fiEG ?ceEG ?mEEG ?toEG ?aEiM ?iEiM ?lEiM ?cEiM ?kEiM ?loEM ?vsE2M ?fiEM ?ceEM ?mEEM ?toEM ?aEiO ?iEiO ?lEiO ?cEiO ?kEiO ?loEO ?vsE2O ?fiEO ?ceEO ?mEEO ?toEO ?rdM ?atM ?tyM ?lkM ?slM2 ?neM ?suM ?rdO ?atO ?tyO ?lkO ?slO2 ?neO ?suO ?neL ?suL ?z_int ?z_len ?z_abs ?z_list ?z_tuple ?z_bool ?z_range ?z_sum ?z_max ?z_all ?z_any ?z_sorted ?z_enumerate ?z_isinstance ?z_super ?z_zip ?z_min ?z_repr ?g_MOST_LENGTH ?g_LEAST_BARS ?g_MOST_BARS ?xeR ?rveR ?saeR ?eCeR ?tCeR ?kCeR ?nfeRpart ?gaeR ?ggeR ?hdeR ?haeR ?hmeR ?sbeR ?xeL ?rveL ?saeL ?eCeL ?tCeL ?kCeL ?nfeLpart ?gaeL ?ggeL ?hdeL ?haeL ?hmeL ?sbeL ?xeN ?rveN ?saeN ?eCeN ?tCeN ?kCeN ?nfeNvalue ?gaeN ?ggeN ?hdeN ?haeN ?hmeN ?sbeN ?xeT ?rveT ?saeT ?eCeT ?tCeT ?kCeT ?nfeTvalue ?gaeT ?ggeT ?hdeT ?haeT ?hmeT ?sbeT ?xeU ?rveU ?saeU ?eCeU ?tCeU ?kCeU ?nfeUpart ?gaeU ?ggeU ?hdeU ?haeU ?hmeU ?sbeU ?xeM ?rveM ?saeM ?eCeM ?tCeM ?kCeM ?nfeMpart ?eCeX ?hdeX ?tCeX ?lc1 ?hdc1 ?nT1 ?hT1 ?lc2 ?hdc2 ?nT2 ?hT2 ?nP
    (case hT2 => exact K.kk_tabs_of Y (List.mem_cons_self ..) (by decide +kernel))
    (case hT1 => exact K.kk_tabs_of Y (List.mem_cons_of_mem _ (List.mem_cons_self ..)) (by decide +kernel))
    (case aC => k_is)
    (case aCL => k_is)
    (case aCN => k_is)
    (case aCG => k_is)
    (case aCM => k_is)
    (case aCO => k_is)
    (case aeX => k_is)
    (case aPa => k_is)
    (case aeR => k_is)
    (case aeL => k_is)
    (case aeN => k_is)
    (case aeT => k_is)
    (case aeU => k_is)
    (case aeM => k_is)
    (case a0 => k_is)
    (case l0 => k_is)
    (case c0 => k_is)
    (case k0 => k_is)
    (case a1 => k_is)
    (case l1 => k_is)
    (case c1 => k_is)
    (case k1 => k_is)
    (case a2 => k_is)
    (case l2 => k_is)
    (case c2 => k_is)
    (case k2 => k_is)
    (case a3 => k_is)
    (case l3 => k_is)
    (case c3 => k_is)
    (case k3 => k_is)
    (case a4 => k_is)
    (case l4 => k_is)
    (case c4 => k_is)
    (case k4 => k_is)
    (case a5 => k_is)
    (case l5 => k_is)
    (case c5 => k_is)
    (case k5 => k_is)
    (case a6 => k_is)
    (case l6 => k_is)
    (case c6 => k_is)
    (case k6 => k_is)
    (case a7 => k_is)
    (case l7 => k_is)
    (case c7 => k_is)
    (case k7 => k_is)
    (case a8 => k_is)
    (case l8 => k_is)
    (case c8 => k_is)
    (case k8 => k_is)
    (case a9 => k_is)
    (case l9 => k_is)
    (case c9 => k_is)
    (case k9 => k_is)
    (case a10 => k_is)
    (case l10 => k_is)
    (case c10 => k_is)
    (case k10 => k_is)
    (case a11 => k_is)
    (case l11 => k_is)
    (case c11 => k_is)
    (case k11 => k_is)
    (case a12 => k_is)
    (case l12 => k_is)
    (case c12 => k_is)
    (case k12 => k_is)
    (case a13 => k_is)
    (case l13 => k_is)
    (case c13 => k_is)
    (case k13 => k_is)
    (case a14 => k_is)
    (case l14 => k_is)
    (case c14 => k_is)
    (case k14 => k_is)
    (case a15 => k_is)
    (case l15 => k_is)
    (case c15 => k_is)
    (case k15 => k_is)
    (case a16 => k_is)
    (case l16 => k_is)
    (case c16 => k_is)
    (case k16 => k_is)
    (case a17 => k_is)
    (case l17 => k_is)
    (case c17 => k_is)
    (case k17 => k_is)
    (case a18 => k_is)
    (case l18 => k_is)
    (case c18 => k_is)
    (case k18 => k_is)
    (case a19 => k_is)
    (case l19 => k_is)
    (case c19 => k_is)
    (case k19 => k_is)
    (case a20 => k_is)
    (case l20 => k_is)
    (case c20 => k_is)
    (case k20 => k_is)
    (case a21 => k_is)
    (case l21 => k_is)
    (case c21 => k_is)
    (case k21 => k_is)
    (case a22 => k_is)
    (case l22 => k_is)
    (case c22 => k_is)
    (case k22 => k_is)
    (case a23 => k_is)
    (case l23 => k_is)
    (case c23 => k_is)
    (case k23 => k_is)
    (case a24 => k_is)
    (case l24 => k_is)
    (case c24 => k_is)
    (case k24 => k_is)
    (case a25 => k_is)
    (case l25 => k_is)
    (case c25 => k_is)
    (case k25 => k_is)
    (case a26 => k_is)
    (case l26 => k_is)
    (case c26 => k_is)
    (case k26 => k_is)
    (case a27 => k_is)
    (case l27 => k_is)
    (case c27 => k_is)
    (case k27 => k_is)
    (case a28 => k_is)
    (case l28 => k_is)
    (case c28 => k_is)
    (case k28 => k_is)
    (case a29 => k_is)
    (case l29 => k_is)
    (case c29 => k_is)
    (case k29 => k_is)
    (case a30 => k_is)
    (case l30 => k_is)
    (case c30 => k_is)
    (case k30 => k_is)
    (case a31 => k_is)
    (case l31 => k_is)
    (case c31 => k_is)
    (case k31 => k_is)
    (case a32 => k_is)
    (case l32 => k_is)
    (case c32 => k_is)
    (case k32 => k_is)
    (case a33 => k_is)
    (case l33 => k_is)
    (case c33 => k_is)
    (case k33 => k_is)
    (case a34 => k_is)
    (case l34 => k_is)
    (case c34 => k_is)
    (case k34 => k_is)
    (case a35 => k_is)
    (case l35 => k_is)
    (case c35 => k_is)
    (case k35 => k_is)
    (case a36 => k_is)
    (case l36 => k_is)
    (case c36 => k_is)
    (case k36 => k_is)
    (case a37 => k_is)
    (case l37 => k_is)
    (case c37 => k_is)
    (case k37 => k_is)
    (case a38 => k_is)
    (case l38 => k_is)
    (case c38 => k_is)
    (case k38 => k_is)
    (case a39 => k_is)
    (case l39 => k_is)
    (case c39 => k_is)
    (case k39 => k_is)
    (case a40 => k_is)
    (case l40 => k_is)
    (case c40 => k_is)
    (case k40 => k_is)
    (case a41 => k_is)
    (case l41 => k_is)
    (case c41 => k_is)
    (case k41 => k_is)
    (case a42 => k_is)
    (case l42 => k_is)
    (case c42 => k_is)
    (case k42 => k_is)
    (case a43 => k_is)
    (case l43 => k_is)
    (case c43 => k_is)
    (case k43 => k_is)
    (case a44 => k_is)
    (case l44 => k_is)
    (case c44 => k_is)
    (case k44 => k_is)
    (case am0 => k_is)
    (case im0 => k_is)
    (case lm0 => k_is)
    (case cm0 => k_is)
    (case km0 => k_is)
    (case am1 => k_is)
    (case im1 => k_is)
    (case lm1 => k_is)
    (case cm1 => k_is)
    (case km1 => k_is)
    (case am2 => k_is)
    (case im2 => k_is)
    (case lm2 => k_is)
    (case cm2 => k_is)
    (case km2 => k_is)
    (case am3 => k_is)
    (case im3 => k_is)
    (case lm3 => k_is)
    (case cm3 => k_is)
    (case km3 => k_is)
    (case tim3 => k_is)
    (case am4 => k_is)
    (case im4 => k_is)
    (case lm4 => k_is)
    (case cm4 => k_is)
    (case km4 => k_is)
    (case tim4 => k_is)
    (case am5 => k_is)
    (case im5 => k_is)
    (case lm5 => k_is)
    (case cm5 => k_is)
    (case km5 => k_is)
    (case tim5 => k_is)
    (case am6 => k_is)
    (case im6 => k_is)
    (case lm6 => k_is)
    (case cm6 => k_is)
    (case km6 => k_is)
    (case tim6 => k_is)
    (case am7 => k_is)
    (case im7 => k_is)
    (case lm7 => k_is)
    (case cm7 => k_is)
    (case km7 => k_is)
    (case tim7 => k_is)
    (case am8 => k_is)
    (case im8 => k_is)
    (case lm8 => k_is)
    (case cm8 => k_is)
    (case km8 => k_is)
    (case tim8 => k_is)
    (case am9 => k_is)
    (case im9 => k_is)
    (case lm9 => k_is)
    (case cm9 => k_is)
    (case km9 => k_is)
    (case am10 => k_is)
    (case im10 => k_is)
    (case lm10 => k_is)
    (case cm10 => k_is)
    (case km10 => k_is)
    (case am11 => k_is)
    (case im11 => k_is)
    (case lm11 => k_is)
    (case cm11 => k_is)
    (case km11 => k_is)
    (case am12 => k_is)
    (case im12 => k_is)
    (case lm12 => k_is)
    (case cm12 => k_is)
    (case km12 => k_is)
    (case am13 => k_is)
    (case im13 => k_is)
    (case lm13 => k_is)
    (case cm13 => k_is)
    (case km13 => k_is)
    (case am14 => k_is)
    (case im14 => k_is)
    (case lm14 => k_is)
    (case cm14 => k_is)
    (case km14 => k_is)
    (case am15 => k_is)
    (case im15 => k_is)
    (case lm15 => k_is)
    (case cm15 => k_is)
    (case km15 => k_is)
    (case rC_pg => k_is)
    (case rC_hd => k_is)
    (case rC_po => k_is)
    (case rC_sa => k_is)
    (case rC_mk => k_is)
    (case rC_kc => k_is)
    (case rC_ha => k_is)
    (case rC_hm => k_is)
    (case rC_n_lengths => k_is)
    (case rC_n_total => k_is)
    (case rC_n_closes => k_is)
    (case rC_n_is_clear => k_is)
    (case rCL_pg => k_is)
    (case rCL_hd => k_is)
    (case rCL_po => k_is)
    (case rCL_sa => k_is)
    (case rCL_mk => k_is)
    (case rCL_kc => k_is)
    (case rCL_ha => k_is)
    (case rCL_hm => k_is)
    (case rCL_n_strands => k_is)
    (case rCL_n_lots => k_is)
    (case rCL_n_many => k_is)
    (case rCN_pg => k_is)
    (case rCN_hd => k_is)
    (case rCN_po => k_is)
    (case rCN_sa => k_is)
    (case rCN_mk => k_is)
    (case rCN_kc => k_is)
    (case rCN_ha => k_is)
    (case rCN_hm => k_is)
    (case rCN_n_word => k_is)
    (case rCN_n_parts => k_is)
    (case rCN_n_nets => k_is)
    (case rCG_pg => k_is)
    (case rCG_hd => k_is)
    (case rCG_po => k_is)
    (case rCG_sa => k_is)
    (case rCG_mk => k_is)
    (case rCG_kc => k_is)
    (case rCG_ha => k_is)
    (case rCG_hm => k_is)
    (case rCG_n_word => k_is)
    (case rCG_n_parts => k_is)
    (case rCG_n_lot => k_is)
    (case rCG_n_net => k_is)
    (case rCG_n_others => k_is)
    (case rCM_pg => k_is)
    (case rCM_hd => k_is)
    (case rCM_po => k_is)
    (case rCM_sa => k_is)
    (case rCM_mk => k_is)
    (case rCM_kc => k_is)
    (case rCM_ha => k_is)
    (case rCM_hm => k_is)
    (case rCM_n_word => k_is)
    (case rCM_n_parts => k_is)
    (case rCM_n_lineup => k_is)
    (case rCO_pg => k_is)
    (case rCO_hd => k_is)
    (case rCO_po => k_is)
    (case rCO_sa => k_is)
    (case rCO_mk => k_is)
    (case rCO_kc => k_is)
    (case rCO_ha => k_is)
    (case rCO_hm => k_is)
    (case rCO_n_word => k_is)
    (case rCO_n_parts => k_is)
    (case rCO_n_lots => k_is)
    (case rhn => k_is)
    (case rht => k_is)
    (case kN => kit_is)
    (case kI => kit_is)
    (case kS => kit_is)
    (case kL => kit_is)
    (case lL => kit_is)
    (case lT => kit_is)
    (case kMP => kit_is)
    (case kOP => kit_is)
    (case kMO => kit_is)
    (case kOM => kit_is)
    (case q_ou => kit_is)
    (case q_ru => kit_is)
    (case q_ro => kit_is)
    (case q_nu => kit_is)
    (case q_no => kit_is)
    (case q_nr => kit_is)
    (case q_tu => kit_is)
    (case q_to => kit_is)
    (case q_tr => kit_is)
    (case q_tn => kit_is)
    (case topS => first | rfl | decide +kernel)
    (case thE => k_is)
    (case aEiN => k_is)
    (case iEiN => k_is)
    (case lEiN => k_is)
    (case cEiN => k_is)
    (case kEiN => k_is)
    (case loEN => k_is)
    (case vsE2N => rfl)
    (case fiEN => first | rfl | decide +kernel)
    (case ceEN => k_is)
    (case mEEN => k_is)
    (case toEN => ks_is)
    (case tyP => k_is)
    (case fnP => k_is)
    (case lPi => k_is)
    (case cPi => k_is)
    (case kPi => k_is)
    (case aEiG => k_is)
    (case iEiG => k_is)
    (case lEiG => k_is)
    (case cEiG => k_is)
    (case kEiG => k_is)
    (case loEG => k_is)
    (case vsE2G => rfl)
    (case fiEG => first | rfl | decide +kernel)
    (case ceEG => k_is)
    (case mEEG => k_is)
    (case toEG => ks_is)
    (case aEiM => k_is)
    (case iEiM => k_is)
    (case lEiM => k_is)
    (case cEiM => k_is)
    (case kEiM => k_is)
    (case loEM => k_is)
    (case vsE2M => rfl)
    (case fiEM => first | rfl | decide +kernel)
    (case ceEM => k_is)
    (case mEEM => k_is)
    (case toEM => ks_is)
    (case aEiO => k_is)
    (case iEiO => k_is)
    (case lEiO => k_is)
    (case cEiO => k_is)
    (case kEiO => k_is)
    (case loEO => k_is)
    (case vsE2O => rfl)
    (case fiEO => first | rfl | decide +kernel)
    (case ceEO => k_is)
    (case mEEO => k_is)
    (case toEO => ks_is)
    (case rdM => k_is)
    (case atM => k_is)
    (case tyM => k_is)
    (case lkM => k_is)
    (case slM2 => rfl)
    (case neM => k_is)
    (case suM => k_is)
    (case rdO => k_is)
    (case atO => k_is)
    (case tyO => k_is)
    (case lkO => k_is)
    (case slO2 => rfl)
    (case neO => k_is)
    (case suO => k_is)
    (case neL => k_is)
    (case suL => k_is)
    (case z_int => k_is)
    (case z_len => k_is)
    (case z_abs => k_is)
    (case z_list => k_is)
    (case z_tuple => k_is)
    (case z_bool => k_is)
    (case z_range => k_is)
    (case z_sum => k_is)
    (case z_max => k_is)
    (case z_all => k_is)
    (case z_any => k_is)
    (case z_sorted => k_is)
    (case z_enumerate => k_is)
    (case z_isinstance => k_is)
    (case z_super => k_is)
    (case z_zip => k_is)
    (case z_min => k_is)
    (case z_repr => k_is)
    (case g_MOST_LENGTH => k_is)
    (case g_LEAST_BARS => k_is)
    (case g_MOST_BARS => k_is)
    (case xeR => k_is)
    (case rveR => first | (with_reducible rfl) | decide +kernel | k_is)
    (case saeR => k_is)
    (case eCeR => k_is)
    (case tCeR => k_is)
    (case kCeR => k_is)
    (case nfeRpart => k_is)
    (case gaeR => k_is)
    (case ggeR => k_is)
    (case hdeR => k_is)
    (case haeR => k_is)
    (case hmeR => k_is)
    (case sbeR => k_is)
    (case xeL => k_is)
    (case rveL => first | (with_reducible rfl) | decide +kernel | k_is)
    (case saeL => k_is)
    (case eCeL => k_is)
    (case tCeL => k_is)
    (case kCeL => k_is)
    (case nfeLpart => k_is)
    (case gaeL => k_is)
    (case ggeL => k_is)
    (case hdeL => k_is)
    (case haeL => k_is)
    (case hmeL => k_is)
    (case sbeL => k_is)
    (case xeN => k_is)
    (case rveN => first | (with_reducible rfl) | decide +kernel | k_is)
    (case saeN => k_is)
    (case eCeN => k_is)
    (case tCeN => k_is)
    (case kCeN => k_is)
    (case nfeNvalue => k_is)
    (case gaeN => k_is)
    (case ggeN => k_is)
    (case hdeN => k_is)
    (case haeN => k_is)
    (case hmeN => k_is)
    (case sbeN => k_is)
    (case xeT => k_is)
    (case rveT => first | (with_reducible rfl) | decide +kernel | k_is)
    (case saeT => k_is)
    (case eCeT => k_is)
    (case tCeT => k_is)
    (case kCeT => k_is)
    (case nfeTvalue => k_is)
    (case gaeT => k_is)
    (case ggeT => k_is)
    (case hdeT => k_is)
    (case haeT => k_is)
    (case hmeT => k_is)
    (case sbeT => k_is)
    (case xeU => k_is)
    (case rveU => first | (with_reducible rfl) | decide +kernel | k_is)
    (case saeU => k_is)
    (case eCeU => k_is)
    (case tCeU => k_is)
    (case kCeU => k_is)
    (case nfeUpart => k_is)
    (case gaeU => k_is)
    (case ggeU => k_is)
    (case hdeU => k_is)
    (case haeU => k_is)
    (case hmeU => k_is)
    (case sbeU => k_is)
    (case xeM => k_is)
    (case rveM => first | (with_reducible rfl) | decide +kernel | k_is)
    (case saeM => k_is)
    (case eCeM => k_is)
    (case tCeM => k_is)
    (case kCeM => k_is)
    (case nfeMpart => k_is)
    (case eCeX => k_is)
    (case hdeX => k_is)
    (case tCeX => k_is)
    (case lc1 => k_is)
    (case hdc1 => first | rfl | decide +kernel | with_unfolding_all rfl)
    (case nT1 => exact K.kk_out_of Y (by decide +kernel))
    (case lc2 => k_is)
    (case hdc2 => first | rfl | decide +kernel | with_unfolding_all rfl)
    (case nT2 => exact K.kk_out_of Y (by decide +kernel))
    (case nP => decide)
